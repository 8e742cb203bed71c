import PyProof.Rows.All
import Wide.All
import OpenK.AllK
import Wide.FinOn
import HandS.ForMost
import HandS.ForExc
import HandS.IsInst
import HandS.Wide
import HandS.Gcd
import HandS.Flow
import HandS.Style
import PyProof.ReprRoads
import HandS.NoneIn
import PyProof.ReprLen
import HandS.Conv
import HandS.ExcInit
import HandS.ExcIs
import HandS.Walk
import HandS.Iter
import KE.GoesMore
import HandS.Rev
import HandS.Star
import HandS.RevRange
import KE.KMathG
import PySem.Challenge.RW_mapflow_k40_polynomials_added_and_multip
set_option Elab.async false
set_option linter.all false
set_option maxRecDepth 100000
set_option maxHeartbeats 4000000
namespace Mf
open PySem PySem.Spec PyProof.Rows L2

/-! ### a def that is run where nothing is being shown (the guards are known to be none) -/
structure FnG (P : Program) (w : World) (K : PySem.W.Frag) (mg : Str → Option Value) (base : Heap) (CX : CXT) (k : Nat) (f : Addr) (fd : FuncData) (ps : List Str) (sp : Sp) : Prop where
  size : ∀ vs H Q E, sp vs H Q E → vs.length = ps.length
  go : ∀ (A : Around), A.guards = some [] → ∀ (outer : List Env) (s : Shared) (H : Hp) (args : Args) (us : List Value) (vs : List V) (Q : VK) (E : XK),
    Room k A → Env0 P w K mg base A outer s H → BindsTo s fd args (ps.zip us) → Vals vs us → sp vs H Q E →
      codeAny (model P w) A (.call (.ref f) args) (CR CX outer P w H s Q E) s

section
variable {P : Program} {w : World} {K : PySem.W.Frag} {mg : Str → Option Value} {base : Heap}

theorem FnG.of {CX : CXT} {k : Nat} {f : Addr} {fd : FuncData} {ps : List Str} {sp : Sp} (F : FnOk P w K mg base CX k f fd ps sp) : FnG P w K mg base CX k f fd ps sp :=
  ⟨F.len, fun A _ outer s H args us vs Q E => F.run A outer s H args us vs Q E⟩

/-- a def of the text, by its body, where the guards are known -/
theorem okG {x qual : Str} {st : Stmt} {f : Addr} {fd : FuncData} {N ps : List Str} {k : Nat} {sp : Sp} (F : Fun K x qual st f fd) (S : FnScope N ps (defScope st))
    (len : ∀ vs H Q E, sp vs H Q E → vs.length = ps.length)
    (hbody : ∀ (cdv : Value) (A : Around) (outer : List Env) (s : Shared) (H : Hp) (vs : List V) (Q : VK) (E : XK),
      (A.deeper (envOfC qual (defScope st) s.heap.objs.size f cdv)).guards = some [] →
      Room k (A.deeper (envOfC qual (defScope st) s.heap.objs.size f cdv)) → sp vs H Q E →
      ∃ t, PSs (cxOf CX0 P w K mg base N qual (defScope st) f cdv A outer s H E).nox (defBody st) t ∧
        t { nx := fun _ H' => Q .non H', rt := Q } (start N vs) H) :
    FnG P w K mg base CX0 (k + 1) f fd ps sp := by
  obtain ⟨oc, od, kV, doc, pm, an, cdv, ct, osl, rfl, lk, hcd⟩ := F.ex
  refine ⟨len, ?_⟩
  intro A hA outer s H args us vs Q E hr e0 hb r hsp
  have KX : K.In s.heap := e0.mod.kin.keeps fun b o e => (e0.bs b o e).1
  have lim : s.heap.NoLimit := e0.mod.nolimit.keeps fun b o e => (e0.bs b o e).1
  have hl := len _ _ _ _ hsp
  have kinds : ∀ y ∈ ps.zip us, (defScope st).names.lookup y.1 = some .local ∨
      ((defScope st).names.lookup y.1 = some .cell ∧ ((cellsFrom (s.heap.objs.size + 1) (defScope st).names []).lookup y.1).isSome = true) := by
    intro y hy
    obtain ⟨n, v⟩ := y
    cases S.par n (List.of_mem_zip hy).1 with
    | inl q => exact Or.inl q
    | inr q => exact Or.inr ⟨q, PySem.W.cellsFrom_some _ _ _ (.inl q)⟩
  refine codeAny_call_function hr.depth (KX _ _ lk) rfl S.co S.gen rfl (PySem.W.codeRec_of KX hcd) (hb _ _ _ _ ?_)
  refine wpAny_newFunctionEnv_cells S.kind kinds ?_
  intro env he s1 x
  subst he
  refine ⟨lim.keeps x.toInCall.keep, codeAny_func ?_⟩
  have hAg : (A.deeper (envOfC qual (defScope st) s.heap.objs.size f cdv)).guards = some [] := hA
  obtain ⟨t, ht, hq⟩ := hbody cdv A outer s H vs Q E hAg (hr.deeper _) hsp
  have I := inv_start (CX := CX0) (mg := mg) (base := base) (N := N) (qual := qual) (f := f) (cd := cdv) (E := E) S hr.hd e0 hl r x
  refine wpAny_mono (ht.nox.run [] s1 (start N vs) H _ I hq) ?_ (fun e s' hs => hs)
  intro fl s' hs
  cases fl with
  | ret u =>
    obtain ⟨v, σ', H', J, rv, q⟩ := hs
    exact ⟨v, H', J.os, J.bare, J.base, J.hok, rv, q⟩
  | next =>
    obtain ⟨σ', H', J, q⟩ := hs
    exact ⟨V.non, H', J.os, J.bare, J.base, J.hok, (rfl : Value.none = Value.none), q⟩
  | brk => obtain ⟨_, _, _, q⟩ := hs; exact False.elim q
  | cont => obtain ⟨_, _, _, q⟩ := hs; exact False.elim q
end

section
variable {X : Cx} {CX : CXT} {k : Nat} {f C : Addr} {fd : FuncData} {ps : List Str} {sp : Sp} {E : XK} {x : Str} {p pos : Pos} {e : Expr} {es : List Expr} {t : TA}
theorem run_fnG {pins : List (Addr × Obj)} {σ : L2.St} {H : Hp} {s : Shared} {Q : VK} {us : List Value} {vs : List V} (F : FnG X.prog X.w X.K X.mg X.base CX k f fd ps sp)
    (hA : X.A.guards = some []) (hr : Room k X.A) (hb : Binds X.K fd ps []) (hx : Passes CX X E)
    (I : Inv X pins σ H s) (r : Vals vs us) (h : sp vs H Q E) : wpAny (model X.prog X.w) X.A (call (.ref f) us) (EP X pins σ Q) X.xe s := by
  have hl : (us ++ []).length = ps.length := by
    rw [List.append_nil, ← r.length]
    exact F.size _ _ _ _ h
  have hb' := hb s us I.kIn hl
  rw [List.append_nil] at hb'
  refine wpAny_call (codeAny_mono (F.go X.A hA X.stack s H ⟨us, []⟩ us vs Q E hr I.env0 hb' r h) ?_)
  intro r s' hq
  cases r with
  | error e => exact hx pins σ H s e s' I hq
  | ok fl => cases fl with
    | ret u => exact I.after hq
    | next => exact hq.elim
    | brk => exact hq.elim
    | cont => exact hq.elim
/-- f(e, ..) where the guards are known -/
theorem pe_callG (F : FnG X.prog X.w X.K X.mg X.base CX k f fd ps sp) (hA : X.A.guards = some []) (hr : Room k X.A) (hg : Gl X x) (hm : X.mg x = some (.ref f))
    (hk : PySem.W.keepIn X.K (.ref f) = true) (hb : Binds X.K fd ps []) (hx : Passes CX X E)
    (ha : PA X (e :: es) t) (hdb : (x == ("__debug__" : Str)) = false := by decide) (he : starEach (e :: es) X.env = (false, eval e X.env) :: starEach es X.env := by rfl)
    (hpl : (backTo pos (starEach es X.env)).any (·.1) = false := by rfl) :
    PE X (.Call (.Name x p) (e :: es) [] pos) (fun σ H Q => t σ H fun vs H1 => sp vs H1 Q E) := by
  refine ⟨fun pins s σ H Q I h => wpAny_Call_Name_kw (ld_glob I hg hm ?_ hdb)⟩
  refine PySem.W.callWith_K (h₀ := X.base) I.ok.mod.kin hk (thn (ha.run pos pins s σ H _ I h) ?_) he hpl
  intro us s1 ⟨vs, H1, I1, r, q⟩
  exact ⟨I1.kIn, run_fnG F hA hr hb hx I1 r q⟩
end

/-! ### the law's call, where its def is an FnG -/
theorem law_callG {P : Program} {w : World} {K : PySem.W.Frag} {mg mb : Str → Option Value} {k : Nat} {fa a : Addr} {fd : FuncData} {x : Str} {sp : Sp} {s₁ : Shared} {vs : List Value} {ns : List Int}
    (KX : K.In s₁.heap) (hns : s₁.heap.Ns mainGlobals mg) (hb : s₁.heap.Ns builtinsNs mb) (hbb : ∀ x : Str, x ≠ "__name__" → mb x = bootBuiltins x)
    (hlim : s₁.heap.NoLimit) (hg : s₁.gens = #[])
    (ha : s₁.heap.get? a = some { cls := .type "list", data := .seq vs.toArray }) (hi : IntsAre vs ns) (hl : ns.length ≤ sizeLine) (hr : Room k callerA)
    (F : ∀ base : Heap, K.In base → base.Ns mainGlobals mg → FnG P w K mg base CX0 k fa fd [x] sp)
    (hbind : ∀ (s : Shared) (u : Value), BindsTo s fd ⟨[u], []⟩ [(x, u)])
    (hsp : ∀ H : Hp, Only H → SqL K H a (ns.map V.int) → sp [.ref a] H (fun v _ => v = .bl true) fun _ _ _ => False) :
    codeAny (model P w) callerA (.call (.ref fa) ⟨[.ref a], []⟩)
      (fun r s' => r = .ok (.ret (.bool true)) ∧ OldK s₁.heap s'.heap ∧ s'.os = s₁.os ∧ AllBare s'.gens) s₁ := by
  have rv := vals_ints hi
  have lenV := hi.length
  have main : ∀ H : Hp, Only H → SqL K H a (ns.map V.int) → HOk P w H s₁.heap → (∀ b, H b ≠ none → b = a) → (H a ≠ none → K.lookup a = none) →
      codeAny (model P w) callerA (.call (.ref fa) ⟨[.ref a], []⟩)
        (fun r s' => r = .ok (.ret (.bool true)) ∧ OldK s₁.heap s'.heap ∧ s'.os = s₁.os ∧ AllBare s'.gens) s₁ := by
    intro H hO hS hok hA hK
    have unt : ∀ {b : Addr} {o : Obj}, s₁.heap.get? b = some o → (b = a → False) → H b = none := by
      intro b o e ne
      cases q : H b with
      | none => rfl
      | some u => exact (ne (hA b (by rw [q]; exact Option.some_ne_none _))).elim
    have nsK : ∀ {b : Addr} {m : Str → Option Value}, s₁.heap.Ns b m → (hidT s₁.heap H).Ns b m := by
      intro b m h
      obtain ⟨o, es, ep, e, d, r⟩ := h
      refine ⟨o, es, ep, hidT_get e (unt e fun z => ?_), d, r⟩
      subst z
      rw [ha] at e
      cases e
      cases d
    have hKb : K.In (hidT s₁.heap H) := by
      intro b o e
      refine hidT_get (KX b o e) ?_
      cases q : H b with
      | none => rfl
      | some u =>
        have nb : H b ≠ none := by
          rw [q]
          exact Option.some_ne_none _
        have z := hA b nb
        subst z
        rw [hK nb] at e
        cases e
    have hM : Mod K mg (hidT s₁.heap H) := by
      refine ⟨hKb, nsK hns, ⟨mb, nsK hb, hbb⟩, ?_⟩
      obtain ⟨mc, h1, h2⟩ := hlim
      exact ⟨mc, nsK h1, h2⟩
    have e0 : Env0 P w K mg (hidT s₁.heap H) callerA [] s₁ H :=
      { frames := rfl, mod := hM, bs := fun b o e => of_hidT e, bsz := Nat.le_of_eq (hidT_size _ _), funs := trivial,
        frf := fun b hb => absurd hb List.not_mem_nil, hok := hok, bare := .of_eq hg }
    have run := (F _ hKb (nsK hns)).go callerA rfl [] s₁ H ⟨[.ref a], []⟩ [.ref a] [.ref a] (fun v _ => v = .bl true) (fun _ _ _ => False) hr e0 (hbind s₁ (.ref a)) (.cons rfl .nil) (hsp H hO hS)
    refine codeAny_mono run ?_
    intro r s' h
    cases r with
    | error e => exact False.elim h
    | ok fl => cases fl with
      | next => exact False.elim h
      | brk => exact False.elim h
      | cont => exact False.elim h
      | ret u =>
        obtain ⟨v, H', os, bare, un, hok', r', q⟩ := h
        obtain rfl : v = .bl true := q
        obtain rfl : u = Value.bool true := r'
        refine ⟨rfl, OldK.of_keep ?_, os, bare⟩
        intro b o e
        cases q : H b with
        | none => exact un.keep b o e q List.not_mem_nil List.not_mem_nil
        | some u =>
          cases hO b with
          | inl z =>
            rw [q] at z
            cases z
          | inr z =>
            obtain ⟨ob, xs, z⟩ := z
            obtain ⟨e1, _⟩ := hok b _ z
            obtain ⟨e2, _⟩ := hok' b _ (un.frzs b ob _ z)
            rw [e] at e1
            cases e1
            exact e2
  cases hk : K.lookup a with
  | some o =>
    have e := KX a o hk
    rw [ha] at e
    cases e
    refine main (fun _ => none) (fun _ => Or.inl rfl) (Or.inr ⟨_, vs.toArray, _, hk, rfl, rfl, rfl, ?_, ?_⟩) ?_ (fun b z => absurd rfl z) (fun z => absurd rfl z)
    · rw [List.size_toArray, lenV]
      exact hl
    · simpa using rv
    · intro b u z
      have z' : (none : Option HO) = some u := z
      cases z'
  | none =>
    have hat : ∀ b : Addr, (fun b => if b = a then some (HO.frz { cls := .type "list", data := .seq vs.toArray } (.lst (ns.map V.int))) else none) b ≠ none → b = a := by
      intro b z
      by_cases hb : b = a
      · exact hb
      · exact absurd (if_neg hb) z
    refine main (fun b => if b = a then some (HO.frz { cls := .type "list", data := .seq vs.toArray } (.lst (ns.map V.int))) else none) ?_ (Or.inl (Or.inr ⟨_, if_pos rfl⟩)) ?_ hat (fun _ => hk)
    · intro b
      by_cases hb : b = a
      · exact Or.inr ⟨_, _, if_pos hb⟩
      · exact Or.inl (if_neg hb)
    · intro b u z
      by_cases hb : b = a
      · have z' := (if_pos hb).symm.trans z
        cases z'
        subst hb
        refine ⟨ha, ?_, vs, _, rv, ha⟩
        rw [List.length_map]
        exact hl
      · have z' := (if_neg hb).symm.trans z
        cases z'

/-- the law row from the promise of its def -/
theorem walkG {l : PySem.W.OpenLaw} {n k : Nat} {q : Program} {loose : List Str} {XP : (Str → Option Value) → Heap → Prop} {YP : World → Heap → Prop} {d : DefRec} {K : Params → PySem.W.Frag} {sp : PySem.W.Frag → Sp} {x : Str}
    (hn : l.most = some n) (hn2 : n ≤ sizeLine) (hdf : d.params.defaults = []) (hr : Room k callerA)
    (hY : ∀ (w : World) (h : Heap), YP w h → (K w.params).In h)
    (F : ∀ (w : World) (mg : Str → Option Value) (fa : Addr) (h : Heap), (K w.params).In h → h.Ns mainGlobals mg → mg d.name = some (.ref fa) →
      ∃ fd : FuncData, (∀ (s : Shared) (u : Value), BindsTo s fd ⟨[u], []⟩ [(x, u)]) ∧
        ∀ base : Heap, (K w.params).In base → base.Ns mainGlobals mg → FnG l.prog w (K w.params) mg base CX0 k fa fd [x] (sp (K w.params)))
    (hsp : ∀ (K : PySem.W.Frag) (H : Hp) (a : Addr) (ns : List Int), ns.length ≤ n → Only H → SqL K H a (ns.map V.int) → sp K [.ref a] H (fun v _ => v = .bl true) fun _ _ _ => False) :
    PySem.W.WalkO q loose XP YP l.row.toRowW d [] (fun f vs => PySem.call f vs) := by
  refine Att.attach_call hn hdf ?_
  intro w s₀ s₁ mg mb fa o pm cd doc a vs ns G Y ho hd hcd hmg hobj hints hlen hg
  have KX := hY w _ Y
  obtain ⟨fd, hb, hF⟩ := F w mg fa _ KX G.T.g hmg
  exact law_callG KX G.T.g G.T.b G.T.builtins G.T.nolimit hg hobj hints (Nat.le_trans hlen hn2) hr hF hb (fun H hO hS => hsp _ H a ns hlen hO hS)

/-! ### repr of data -/
section
variable {X : Cx}
theorem call_reprD (hA : X.A.guards = some []) (hu : X.A.units + 64 < cLine) : CallR X (.builtin "repr") (fun xs H Q => ∃ (a : Addr) (d : PyData), xs = [.ref a] ∧ Dp X.K H (.ref a) d ∧
    d.showable = true ∧ d.hasDict = false ∧ d.depth ≤ 60 ∧ d.shown.length ≤ sizeLine ∧ Q (.str d.shown) H) := by
  intro pins s σ H xs us Q I r h
  obtain ⟨a, d, rfl, hd, hs, hn, hdep, hz, q⟩ := h
  obtain ⟨u, rfl, rx⟩ := vals1 r
  cases (show u = Value.ref a from rx)
  obtain ⟨as, rd⟩ := Dp.reads I d _ _ hd rfl
  refine repr_of_reads' rd hs (PyData.noDict_hsm hn) hA (by omega) (fun b o e => e) ?_ hz
  intro h' u tk hk
  exact ⟨.str d.shown, H, I.kept hk, ⟨u, rfl⟩, q⟩
end
end Mf
namespace Mf
open PySem PySem.Spec PyProof.Rows L2
/-- where one stands: the program, the world, what is written, the module's names -/
structure Cn where
  P : Program
  w : World
  K : PySem.W.Frag
  mg : Str → Option Value
  base : Heap
abbrev cnOf (X : Cx) : Cn := ⟨X.prog, X.w, X.K, X.mg, X.base⟩
/-- a def that can be called by its name -/
structure Cl (c : Cn) (k : Nat) (x : Str) (st : Stmt) (ps : List Str) (sp : Sp) : Prop where
  ex : ∃ (f : Addr) (fd : FuncData), FnG c.P c.w c.K c.mg c.base CX0 k f fd ps sp ∧ c.mg x = some (.ref f) ∧ Fun c.K x x st f fd
/-- a def of the text as it stands -/
structure De (c : Cn) (x : Str) (st : Stmt) : Prop where
  ex : ∃ (f : Addr) (fd : FuncData), c.mg x = some (.ref f) ∧ Fun c.K x x st f fd
/-- the arguments written one behind another -/
def Pl (x : Str) (st : Stmt) (ps : List Str) : Prop := ∀ (kV doc pm : Value) (an : Option Addr) (cdv ct : Value) (us : List Value), us.length = ps.length →
  bindArgs (PySem.W.fnOf x x (defArgs st) (defBody st) (defScope st) .none kV doc pm an cdv ct) ⟨us, []⟩ = pure (ps.zip us)
/-- .. by names alone: the names as they are written, and how they are put in order -/
def Pk (x : Str) (st : Stmt) (ps ks : List Str) (g : List Value → List Value) : Prop := ∀ (kV doc pm : Value) (an : Option Addr) (cdv ct : Value) (ws : List Value), ws.length = ks.length →
  bindArgs (PySem.W.fnOf x x (defArgs st) (defBody st) (defScope st) .none kV doc pm an cdv ct) ⟨[], ks.zip ws⟩ = pure (ps.zip (g ws))

theorem De.cl {c : Cn} {x : Str} {st : Stmt} {N ps : List Str} {k : Nat} {sp : Sp} (D : De c x st) (S : FnScope N ps (defScope st))
    (len : ∀ vs H Q E, sp vs H Q E → vs.length = ps.length)
    (hbody : ∀ (f : Addr) (cdv : Value) (A : Around) (outer : List Env) (s : Shared) (H : Hp) (vs : List V) (Q : VK) (E : XK),
      (A.deeper (envOfC x (defScope st) s.heap.objs.size f cdv)).guards = some [] →
      Room k (A.deeper (envOfC x (defScope st) s.heap.objs.size f cdv)) → sp vs H Q E →
      ∃ t, PSs (cxOf CX0 c.P c.w c.K c.mg c.base N x (defScope st) f cdv A outer s H E).nox (defBody st) t ∧
        t { nx := fun _ H' => Q .non H', rt := Q } (start N vs) H) : Cl c (k + 1) x st ps sp := by
  obtain ⟨f, fd, hm, F⟩ := D.ex
  exact ⟨f, fd, okG F S len (hbody f), hm, F⟩

section
variable {X : Cx} {k j : Nat} {f : Addr} {ps ks : List Str} {sp : Sp} {x : Str} {p pos : Pos} {e : Expr} {es : List Expr} {t tk : TA} {st : Stmt} {kws : List Keyword}
def tCl (sp : Sp) (t : TA) : TE := fun σ H Q => t σ H fun vs H1 => sp vs H1 Q E0
def tClK (sp : Sp) (g : List V → List V) (t : TA) : TE := fun σ H Q => t σ H fun vs H1 => sp (g vs) H1 Q E0
/-- f(e, ..) -/
theorem pe_f (c : Cl (cnOf X) k x st ps sp) (hA : X.A.guards = some []) (hr : Room j X.A) (hk : k ≤ j) (hp : Pl x st ps) (hg : Gl X x) (ha : PA X (e :: es) t)
    (hdb : (x == ("__debug__" : Str)) = false := by decide) (he : starEach (e :: es) X.env = (false, eval e X.env) :: starEach es X.env := by rfl)
    (hpl : (backTo pos (starEach es X.env)).any (·.1) = false := by rfl) : PE X (.Call (.Name x p) (e :: es) [] pos) (tCl sp t) := by
  obtain ⟨f, fd, F, hm, W⟩ := c.ex
  exact pe_callG F hA (hr.mono hk) hg hm W.kp (W.binds hp) pass0 ha hdb he hpl
/-- f(k = e, ..) -/
theorem pe_fk {g : List Value → List Value} {gV : List V → List V} (c : Cl (cnOf X) k x st ps sp) (hA : X.A.guards = some []) (hr : Room j X.A) (hk : k ≤ j) (hp : Pk x st ps ks g)
    (rel : ∀ {vs : List V} {us : List Value}, Vals vs us → us.length = ks.length → Vals (gV vs) (g us)) (hl : ∀ vs : List V, (gV vs).length = ps.length → vs.length = ks.length) (hg : Gl X x) (hkw : PK X kws tk)
    (hall : (backToKw pos (keywordEach kws X.env)).all (·.1.isSome) = true := by rfl) (hks : (backToKw pos (keywordEach kws X.env)).filterMap (·.1) = ks := by rfl)
    (hdb : (x == ("__debug__" : Str)) = false := by decide)
    (hpl : ((backTo pos (starEach [] X.env)).any (·.1) || (backToKw pos (keywordEach kws X.env)).any (·.1.isNone)) = false := by rfl) :
    PE X (.Call (.Name x p) [] kws pos) (tClK sp gV tk) := by
  obtain ⟨f, fd, F, hm, W⟩ := c.ex
  refine ⟨fun pins s σ H Q I h => ?_⟩
  refine wpAny_Call_Name_kw (ld_glob I hg hm ?_ hdb)
  refine PySem.W.callWith_KW0 (h₀ := X.base) I.ok.mod.kin W.kp hall (thn (hkw.run pos pins s σ H _ I h) ?_) hpl
  intro ws s2 ⟨zs, H2, I2, rz, q2⟩
  refine ⟨I2.kIn, ?_⟩
  rw [hks]
  have l0 := F.size _ _ _ _ q2
  have l1 : ws.length = ks.length := by
    rw [← rz.length]
    exact hl _ l0
  have r2 := rel rz l1
  have hb : BindsTo s2 fd ⟨[], ks.zip ws⟩ (ps.zip (g ws)) := by
    obtain ⟨oc, od, kV, doc, pm, an, cdv, ct, osl, rfl, lk, hcd⟩ := W.ex
    exact .of_eq (hp kV doc pm an cdv ct ws l1)
  refine wpAny_call (codeAny_mono (F.go X.A hA X.stack s2 H2 ⟨[], ks.zip ws⟩ (g ws) (gV zs) Q E0 (hr.mono hk) I2.env0 hb r2 q2) ?_)
  intro r s' hq
  cases r with
  | error e => exact pass0 pins σ H2 s2 e s' I2 hq
  | ok fl => cases fl with
    | ret u => exact I2.after hq
    | next => exact hq.elim
    | brk => exact hq.elim
    | cont => exact hq.elim
end

/-! ### operators for whatever comes -/
section
variable {X : Cx}
theorem OpR_or {f : Value → Value → Sem Value} {r r' : R2} (h : OpR X f r) (h' : OpR X f r') : OpR X f (fun x y H Q => r x y H Q ∨ r' x y H Q) := by
  intro pins s σ H x y v u Q I rx ry q
  cases q with
  | inl q => exact h pins s σ H x y v u Q I rx ry q
  | inr q => exact h' pins s σ H x y v u Q I rx ry q
def CMulU (i j : Int) : Prop := CMul i j ∨ CMulW i j
theorem op_mulI : OpR X (binaryOp .Mult) (rI CMulU fun i j => .int (i * j)) := by
  intro pins s σ H x y v u Q I rx ry q
  obtain ⟨i, j, e1, e2, c, q⟩ := q
  cases c with
  | inl c => exact op_mul pins s σ H x y v u Q I rx ry ⟨i, j, e1, e2, c, q⟩
  | inr c => exact op_mulW pins s σ H x y v u Q I rx ry ⟨i, j, e1, e2, c, q⟩
def rAddU : R2 := fun x y H Q => rI0 (fun i j => .int (i + j)) x y H Q ∨ rCat x y H Q
theorem op_addU : OpR X (binaryOp .Add) rAddU := OpR_or op_add op_cat
def rMulU : R2 := fun x y H Q => rI CMulU (fun i j => .int (i * j)) x y H Q ∨ rRep x y H Q
theorem op_mulU : OpR X (binaryOp .Mult) rMulU := OpR_or op_mulI op_rep
def rEqU (K : PySem.W.Frag) : R2 := fun x y H Q => rEq x y H Q ∨ rEqD K x y H Q
def rNeU (K : PySem.W.Frag) : R2 := fun x y H Q => rNe x y H Q ∨ rNeD K x y H Q
theorem op_eqU (hu : X.A.units + 64 < cLine) : OpR X (compareOp .Eq) (rEqU X.K) := OpR_or op_eq (op_eqD hu)
theorem op_neU (hu : X.A.units + 64 < cLine) : OpR X (compareOp .NotEq) (rNeU X.K) := OpR_or op_ne (op_neD hu)
/-- is of a bool that is written -/
def rIsT (b : Bool) : R2 := fun x y H Q => y = .bl b ∧ ((∃ a, x = .bl a ∧ Q (.bl (decide (a = b))) H) ∨ (∃ i, x = .int i ∧ Q (.bl false) H))
def rNotT (b : Bool) : R2 := fun x y H Q => y = .bl b ∧ ((∃ a, x = .bl a ∧ Q (.bl (!decide (a = b))) H) ∨ (∃ i, x = .int i ∧ Q (.bl true) H))
theorem op_notT {b : Bool} : OpR X (compareOp .IsNot) (rNotT b) := by
  intro pins s σ H x y v u Q I rx ry h
  obtain ⟨rfl, h⟩ := h
  rcases h with ⟨a, rfl, q⟩ | ⟨i, rfl, q⟩
  · exact op_notBl pins s σ H _ _ v u Q I rx ry ⟨a, b, rfl, rfl, q⟩
  · obtain ⟨t, rfl⟩ := rx
    cases (show u = Value.bool b from ry)
    exact wpAny_isNot_other rfl (fun z => Value.noConfusion z) ⟨.bl true, H, I, rfl, q⟩
/-- is None, is not None -/
def rIsN : R2 := fun x y H Q => y = .non ∧ Q (.bl (decide (x = .non))) H
def rNotN : R2 := fun x y H Q => y = .non ∧ Q (.bl (!decide (x = .non))) H
theorem op_isNU : OpR X (compareOp .Is) rIsN := op_isN
theorem op_notNU : OpR X (compareOp .IsNot) rNotN := op_notN

/-- what a for walks: one rule or another -/
theorem pi_or {tg it : Expr} {w1 w2 : TI} (h1 : PI X tg it w1) (h2 : PI X tg it w2) : PI X tg it (fun σ H R => w1 σ H R ∨ w2 σ H R) := by
  refine ⟨fun pins s σ H R I h => ?_⟩
  cases h with
  | inl h => exact h1.run pins s σ H R I h
  | inr h => exact h2.run pins s σ H R I h
end

/-! ### isinstance(e, (list, tuple)): the tuple of classes is not tracked -/
def tSeqP (K : PySem.W.Frag) (te : TE) : TE := fun σ H Q => te σ H fun x H1 => ∃ t b, TyX K H1 x (.type t) ∧ PySem.W.kitAny K (.type t) [.type "list", .type "tuple"] = some b ∧ Q (.bl b) H1
section
variable {X : Cx} {e : Expr} {te : TE} {p p1 p2 pt pos : Pos} {kt : Nat}
theorem pe_isSeq (hg : Gl X "isinstance") (hm : X.mg "isinstance" = none) (hg1 : Gl X "list") (hm1 : X.mg "list" = none) (hg2 : Gl X "tuple") (hm2 : X.mg "tuple" = none) (he : PE X e te)
    (hs : starEach [e, .Tuple [.Name "list" p1, .Name "tuple" p2] kt pt] X.env = [(false, eval e X.env), (false, eval (.Tuple [.Name "list" p1, .Name "tuple" p2] kt pt) X.env)] := by rfl)
    (hi : starEach [.Name "list" p1, .Name "tuple" p2] X.env = [(false, eval (.Name "list" p1) X.env), (false, eval (.Name "tuple" p2) X.env)] := by rfl) :
    PE X (.Call (.Name "isinstance" p) [e, .Tuple [.Name "list" p1, .Name "tuple" p2] kt pt] [] pos) (tSeqP X.K te) := by
  refine ⟨fun pins s σ H Q I h => ?_⟩
  have hv : bootBuiltins "isinstance" = some (.builtin "isinstance") := by decide +kernel
  refine wpAny_Call_Name_kw (ld_blt I hg hm hv ?_ (by decide) (by decide))
  refine PyProof.Rows.callWith_builtin1 ?_ (by rw [hs]; rfl) (by rfl)
  rw [hs]
  show wpAny _ _ (spliced ((false, eval e X.env) :: backTo pos [(false, eval (.Tuple [.Name "list" p1, .Name "tuple" p2] kt pt) X.env)])) _ _ s
  refine Calls.spliced_cons (thn (he.run pins s σ H _ I h) ?_)
  intro u s1 ⟨x, H1, I1, r1, t, b, ty, kt', q⟩
  refine Calls.spliced_cons (wpAny_mono (Q := fun v s2 => v = .ref s1.heap.objs.size ∧ s2 = { s1 with heap := s1.heap.push { cls := .type "tuple", data := .seq [Value.type "list", Value.type "tuple"].toArray } }) ?_ ?_ (fun _ _ z => z))
  · refine wpAny_Tuple_spliced (x1 := kt) ?_
    rw [hi]
    show wpAny _ _ (spliced ((false, eval (.Name "list" p1) X.env) :: backTo pt [(false, eval (.Name "tuple" p2) X.env)])) _ _ s1
    refine Calls.spliced_cons (ld_blt I1 hg1 hm1 PyProof.Rows.boot_list ?_ (by decide) (by decide))
    refine Calls.spliced_cons (ld_blt I1 hg2 hm2 PyProof.Rows.boot_tuple ?_ (by decide) (by decide))
    refine Calls.spliced_nil ?_
    exact ⟨by show 2 ≤ sizeLine; decide, rfl, rfl⟩
  · intro v s2 hv
    obtain ⟨rfl, rfl⟩ := hv
    refine Calls.spliced_nil ?_
    have I2 := I1.kept (h' := s1.heap.push { cls := .type "tuple", data := .seq [Value.type "list", Value.type "tuple"].toArray }) (t' := s1.toks) (fun b u e => Heap.get?_push_of_some _ e)
    obtain ⟨Pz, Z, pz, hx⟩ := kit_of I2 r1 ty
    exact PySem.W.kia_tup Z I2.kIn pz (Heap.get?_push_size _ rfl) kt' hx fun tk => ⟨.bl b, H1, I2.tok tk, rfl, q⟩
end
end Mf
namespace Mf
open PySem PySem.Spec PyProof.Rows L2

/-! ### readings, step by step -/
section
variable {K : PySem.W.Frag} {σ : L2.St} {H : Hp} {Q : VK} {v x y : V} {ta tb te : TE} {t u tt : TT} {tr : TA} {r : R2} {D : Ends} {t1 t2 : TS}
theorem g_var {i : Nat} (h : σ[i]? = some (some v)) (q : Q v H) : tVar i σ H Q := ⟨v, h, q⟩
theorem g_c (q : Q v H) : tC v σ H Q := q
theorem g_op (q : ta σ H fun x H1 => tb σ H1 fun y H2 => r x y H2 Q) : tOp r ta tb σ H Q := q
theorem g_un {r : V → Hp → VK → Prop} (q : ta σ H fun x H1 => r x H1 Q) : tUn r ta σ H Q := q
theorem g_cb {r : List V → Hp → VK → Prop} (q : tr σ H fun vs H1 => r vs H1 Q) : tCB r tr σ H Q := q
theorem g_cl {sp : Sp} (q : tr σ H fun vs H1 => sp vs H1 Q E0) : tCl sp tr σ H Q := q
theorem g_clk {sp : Sp} {g : List V → List V} (q : tr σ H fun vs H1 => sp (g vs) H1 Q E0) : tClK sp g tr σ H Q := q
theorem g_nil {R : List V → Hp → Prop} (q : R [] H) : tNil σ H R := q
theorem g_cons {R : List V → Hp → Prop} (q : ta σ H fun x H1 => tr σ H1 fun xs H2 => R (x :: xs) H2) : tCons ta tr σ H R := q
theorem g_tB {R : Bool → Hp → Prop} (q : te σ H fun x H1 => ∃ c, x = .bl c ∧ R c H1) : tB te σ H R := q
theorem g_test {R : Bool → Hp → Prop} (q : te σ H fun x H1 => ∃ c, x = .bl c ∧ R c H1) : tTest te σ H R := q
theorem g_bl {b : Bool} {R : Bool → Prop} (q : R b) : ∃ c, V.bl b = .bl c ∧ R c := ⟨b, rfl, q⟩
theorem g_and {R : Bool → Hp → Prop} (q : t σ H fun c H1 => if c = true then u σ H1 R else R false H1) : tAnd t u σ H R := q
theorem g_or {R : Bool → Hp → Prop} (q : t σ H fun c H1 => if c = true then R true H1 else u σ H1 R) : tOr t u σ H R := q
theorem g_not {R : Bool → Hp → Prop} (q : t σ H fun c H1 => R (!c) H1) : tNot t σ H R := q
theorem g_andV (q : ta σ H fun x H1 => ∃ c, x = .bl c ∧ if c = true then tb σ H1 Q else Q (.bl false) H1) : tAndV ta tb σ H Q := q
theorem g_orV (q : ta σ H fun x H1 => ∃ c, x = .bl c ∧ if c = true then Q (.bl true) H1 else tb σ H1 Q) : tOrV ta tb σ H Q := q
theorem g_notV (q : ta σ H fun x H1 => ∃ c, x = .bl c ∧ Q (.bl (!c)) H1) : tNotV ta σ H Q := q
theorem g_if (q : t σ H fun c H1 => if c = true then ta σ H1 Q else tb σ H1 Q) : tIf t ta tb σ H Q := q
theorem g_ifS (q : t σ H fun b H1 => if b = true then t1 D σ H1 else t2 D σ H1) : tIfS t t1 t2 D σ H := q
theorem g_seq (q : t1 ⟨t2 D, D.rt, D.bk, D.ct⟩ σ H) : tSeq t1 t2 D σ H := q
theorem g_next (q : D.nx σ H) : tNext D σ H := q
theorem g_ret (q : te σ H D.rt) : tRet te D σ H := q
theorem g_drop (q : te σ H fun _ H1 => D.nx σ H1) : tDrop te D σ H := q
theorem g_asg {g : TG} (q : te σ H fun x H1 => g x σ H1 D.nx) : tAsg te g D σ H := q
theorem g_name {i : Nat} {R : L2.St → Hp → Prop} (q : R (σ.set i (some v)) H) : gName i v σ H R := q
theorem g_I0 {g : Int → Int → V} {i j : Int} (q : Q (g i j) H) : rI0 g (.int i) (.int j) H Q := ⟨i, j, rfl, rfl, q⟩
theorem g_I {C : Int → Int → Prop} {g : Int → Int → V} {i j : Int} (c : C i j) (q : Q (g i j) H) : rI C g (.int i) (.int j) H Q := ⟨i, j, rfl, rfl, c, q⟩
theorem g_addI {i j : Int} (q : Q (.int (i + j)) H) : rAddU (.int i) (.int j) H Q := .inl ⟨i, j, rfl, rfl, q⟩
theorem g_mulI {i j : Int} (c : CMulU i j) (q : Q (.int (i * j)) H) : rMulU (.int i) (.int j) H Q := .inl ⟨i, j, rfl, rfl, c, q⟩
theorem g_U {g : Int → V} {i : Int} (q : Q (g i) H) : rU g (.int i) H Q := ⟨i, rfl, q⟩
theorem g_isN (q : Q (.bl (decide (x = .non))) H) : rIsN x .non H Q := ⟨rfl, q⟩
theorem g_notN (q : Q (.bl (!decide (x = .non))) H) : rNotN x .non H Q := ⟨rfl, q⟩
theorem g_notTb {a b : Bool} (q : Q (.bl (!decide (a = b))) H) : rNotT b (.bl a) (.bl b) H Q := ⟨rfl, .inl ⟨a, rfl, q⟩⟩
theorem g_notT1 (q : Q (.bl false) H) : rNotT true (.bl true) (.bl true) H Q := ⟨rfl, .inl ⟨true, rfl, q⟩⟩
theorem g_notT2 (q : Q (.bl true) H) : rNotT true (.bl false) (.bl true) H Q := ⟨rfl, .inl ⟨false, rfl, q⟩⟩
theorem g_notT3 (q : Q (.bl true) H) : rNotT false (.bl true) (.bl false) H Q := ⟨rfl, .inl ⟨true, rfl, q⟩⟩
theorem g_notT4 (q : Q (.bl false) H) : rNotT false (.bl false) (.bl false) H Q := ⟨rfl, .inl ⟨false, rfl, q⟩⟩
theorem g_notTi {i : Int} {b : Bool} (q : Q (.bl true) H) : rNotT b (.int i) (.bl b) H Q := ⟨rfl, .inr ⟨i, rfl, q⟩⟩
theorem g_eqI {i j : Int} (q : Q (.bl (decide (i = j))) H) : rEqU K (.int i) (.int j) H Q := .inl ⟨rfl, by
  have e : decide (V.int i = V.int j) = decide (i = j) := by
    by_cases h : i = j
    · subst h; simp
    · simp [h]
  rw [e]; exact q⟩
theorem g_neI {i j : Int} (q : Q (.bl (!decide (i = j))) H) : rNeU K (.int i) (.int j) H Q := .inl ⟨rfl, by
  have e : decide (V.int i = V.int j) = decide (i = j) := by
    by_cases h : i = j
    · subst h; simp
    · simp [h]
  rw [e]; exact q⟩
theorem g_neS {a b : Str} (q : Q (.bl (!decide (a = b))) H) : rNeU K (.str a) (.str b) H Q := .inl ⟨rfl, by
  have e : decide (V.str a = V.str b) = decide (a = b) := by
    by_cases h : a = b
    · subst h; simp
    · simp [h]
  rw [e]; exact q⟩
theorem g_eqS {a b : Str} (q : Q (.bl (decide (a = b))) H) : rEqU K (.str a) (.str b) H Q := .inl ⟨rfl, by
  have e : decide (V.str a = V.str b) = decide (a = b) := by
    by_cases h : a = b
    · subst h; simp
    · simp [h]
  rw [e]; exact q⟩
theorem g_iteT {A B : Prop} (h : A) : if true = true then A else B := iteT h
theorem g_iteF {A B : Prop} (h : B) : if false = true then A else B := iteF h
theorem g_iteNT {A B : Prop} (h : B) : if (!true) = true then A else B := iteF h
theorem g_iteNF {A B : Prop} (h : A) : if (!false) = true then A else B := iteT h
theorem g_ite {b : Bool} {A B : Prop} (h1 : b = true → A) (h2 : b = false → B) : if b = true then A else B := by
  cases b with
  | true => exact iteT (h1 rfl)
  | false => exact iteF (h2 rfl)
/-- a new list, a new tuple -/
theorem same_new {H : Hp} {p : Addr} {o : HO} (h : H p = none) : Same H (upd H p o) := fun b z e => by
  rw [upd_ne (ne_of_none e h)]
  exact e
/-- a new list, a new tuple is laid -/
def NewL (xs : List V) (H : Hp) (Q : VK) : Prop := xs.length ≤ sizeLine ∧ ∀ p, H p = none → Q (.ref p) (upd H p (.lst xs))
def NewT (xs : List V) (H : Hp) (Q : VK) : Prop := xs.length ≤ sizeLine ∧ ∀ p, H p = none → Q (.ref p) (upd H p (.tup xs))
theorem g_newL {xs : List V} (hl : xs.length ≤ sizeLine) (q : ∀ p H2, H p = none → Same H H2 → H2 p = some (.lst xs) → Q (.ref p) H2) : NewL xs H Q :=
  ⟨hl, fun p hp => q p _ hp (same_new hp) upd_same⟩
theorem g_newT {xs : List V} (hl : xs.length ≤ sizeLine) (q : ∀ p H2, H p = none → Same H H2 → H2 p = some (.tup xs) → Q (.ref p) H2) : NewT xs H Q :=
  ⟨hl, fun p hp => q p _ hp (same_new hp) upd_same⟩
theorem g_lst (q : tr σ H fun xs H1 => NewL xs H1 Q) : tLst tr σ H Q := q
theorem g_tup (q : tr σ H fun xs H1 => NewT xs H1 Q) : tTup tr σ H Q := q
/-- a list and a list, one behind another -/
theorem g_cat {l b : Addr} {xs zs : List V} (h1 : H l = some (.lst xs)) (h2 : H b = some (.lst zs)) (hz : xs.length + zs.length ≤ sizeLine)
    (q : ∀ p H2, H p = none → Same H H2 → H2 p = some (.lst (xs ++ zs)) → Q (.ref p) H2) : rAddU (.ref l) (.ref b) H Q :=
  .inr ⟨l, b, xs, zs, rfl, rfl, h1, h2, hz, fun p hp => q p _ hp (same_new hp) upd_same⟩
theorem g_rep {l : Addr} {k : Int} {xs : List V} (h1 : H l = some (.lst xs)) (k0 : 0 ≤ k) (k1 : k ≤ 1000) (hz : xs.length * k.toNat ≤ sizeLine)
    (q : ∀ p H2, H p = none → Same H H2 → H2 p = some (.lst (List.replicate k.toNat xs).flatten) → Q (.ref p) H2) : rMulU (.ref l) (.int k) H Q :=
  .inr ⟨l, k, xs, rfl, rfl, h1, by omega, by omega, hz, fun p hp => q p _ hp (same_new hp) upd_same⟩
/-- built-in functions, their readings by name -/
def rIntU : List V → Hp → VK → Prop := fun xs H Q => (∃ i, xs = [.int i] ∧ Q (.int i) H) ∨ ∃ k, xs = [.bl k] ∧ Q (.int (if k then 1 else 0)) H
theorem call_intU {X : Cx} : CallR X (.type "int") rIntU := call_int1
def rAbsU : List V → Hp → VK → Prop := fun xs H Q => ∃ i, xs = [.int i] ∧ Q (.int (if i < 0 then -i else i)) H
theorem call_absU {X : Cx} : CallR X (.builtin "abs") rAbsU := call_abs
def rLenU (K : PySem.W.Frag) : List V → Hp → VK → Prop := fun xs H Q => ∃ x n, xs = [x] ∧ LenV K x H n ∧ Q (.int (n : Nat)) H
theorem call_lenU {X : Cx} : CallR X (.builtin "len") (rLenU X.K) := call_len
def rReprU (K : PySem.W.Frag) : List V → Hp → VK → Prop := fun xs H Q => ∃ (v : V) (d : PyData), xs = [v] ∧ Dp K H v d ∧
    d.showable = true ∧ d.hasDict = false ∧ d.depth ≤ 60 ∧ d.shown.length ≤ sizeLine ∧ Q (.str d.shown) H
theorem call_reprU {X : Cx} (hA : X.A.guards = some []) (hu : X.A.units + 64 < cLine) : CallR X (.builtin "repr") (rReprU X.K) := by
  intro pins s σ H xs us Q I r h
  obtain ⟨v, d, rfl, hd, hs, hn, hdep, hz, q⟩ := h
  have arm := @call_reprD X hA hu pins s σ H [v] us Q I r
  obtain ⟨u, rfl, rx⟩ := vals1 r
  cases hd with
  | non =>
    cases (show u = Value.none from rx)
    exact PySem.P.repr_of_none ⟨.str _, H, I.tok _, ⟨_, rfl⟩, q⟩
  | bl b =>
    cases (show u = Value.bool b from rx)
    exact PySem.P.repr_of_bool ⟨.str _, H, I.tok _, ⟨_, rfl⟩, q⟩
  | int i =>
    obtain ⟨t, rfl⟩ := (show ∃ t, u = Value.int i t from rx)
    exact PySem.P.repr_of_int (of_decide_eq_true hs) ⟨.str _, H, I.tok _, ⟨_, rfl⟩, q⟩
  | str x =>
    obtain ⟨t, rfl⟩ := (show ∃ t, u = Value.str x t from rx)
    exact PySem.P.repr_of_str ⟨.str _, H, I.tok _, ⟨_, rfl⟩, q⟩ hz
  | lst h1 h2 => exact arm ⟨_, _, rfl, .lst h1 h2, hs, hn, hdep, hz, q⟩
  | tup h1 h2 => exact arm ⟨_, _, rfl, .tup h1 h2, hs, hn, hdep, hz, q⟩
theorem g_int {i : Int} (q : Q (.int i) H) : rIntU [.int i] H Q := .inl ⟨i, rfl, q⟩
theorem g_intB {k : Bool} (q : Q (.int (if k then 1 else 0)) H) : rIntU [.bl k] H Q := .inr ⟨k, rfl, q⟩
theorem g_abs {i : Int} (q : Q (.int (if i < 0 then -i else i)) H) : rAbsU [.int i] H Q := ⟨i, rfl, q⟩
theorem g_isNn (q : Q (.bl true) H) : rIsN .non .non H Q := ⟨rfl, q⟩
theorem g_isNi {i : Int} (q : Q (.bl false) H) : rIsN (.int i) .non H Q := ⟨rfl, by simpa using q⟩
theorem g_repr {d : PyData} (h : Dp K H v d) (h1 : d.showable = true) (h2 : d.hasDict = false) (h3 : d.depth ≤ 60) (h4 : d.shown.length ≤ sizeLine) (q : Q (.str d.shown) H) : rReprU K [v] H Q :=
  ⟨v, d, rfl, h, h1, h2, h3, h4, q⟩
end

/-! ### what is kept but at q -/
structure SameX (q : Addr) (H H' : Hp) : Prop where
  kept : ∀ b o, b ≠ q → H b = some o → H' b = some o
  cell : ∀ c t r, H q = some (.lst [.ref c, t, r]) → ∃ t' r', H' q = some (.lst [.ref c, t', r'])
instance {q : Addr} {H H' : Hp} : CoeFun (SameX q H H') (fun _ => ∀ b o, b ≠ q → H b = some o → H' b = some o) := ⟨SameX.kept⟩
theorem Same.x {q : Addr} {H H' : Hp} (s : Same H H') : SameX q H H' := ⟨fun b o _ e => s b o e, fun c t r e => ⟨t, r, s _ _ e⟩⟩
theorem SameX.refl (q : Addr) (H : Hp) : SameX q H H := ⟨fun _ _ _ e => e, fun c t r e => ⟨t, r, e⟩⟩
theorem SameX.trans {q : Addr} {H H1 H2 : Hp} (a : SameX q H H1) (b : SameX q H1 H2) : SameX q H H2 := ⟨fun c o n e => b.kept c o n (a.kept c o n e), fun c t r e => by
  obtain ⟨t1, r1, e1⟩ := a.cell c t r e
  exact b.cell c t1 r1 e1⟩
theorem SameX.rd {q a : Addr} {H H' : Hp} {u : HO} (s : SameX q H H') (n : a ≠ q) (h : Rd H a u) : Rd H' a u := by
  rcases h with h | ⟨o, h⟩
  · exact .inl (s _ _ n h)
  · exact .inr ⟨o, s _ _ n h⟩
theorem SameX.seq {K : PySem.W.Frag} {q a : Addr} {H H' : Hp} {xs : List V} (s : SameX q H H') (n : a ≠ q) (h : SqL K H a xs) : SqL K H' a xs := by
  rcases h with h | h
  · exact .inl (s.rd n h)
  · exact .inr h
theorem SameX.tup {K : PySem.W.Frag} {q a : Addr} {H H' : Hp} {xs : List V} (s : SameX q H H') (n : a ≠ q) (h : SqT K H a xs) : SqT K H' a xs := by
  rcases h with h | h
  · exact .inl (s.rd n h)
  · exact .inr h
theorem seqU {K : PySem.W.Frag} {H : Hp} {a : Addr} {xs : List V} (h : H a = some (.lst xs)) : SqL K H a xs := .inl (.inl h)
theorem tupU {K : PySem.W.Frag} {H : Hp} {a : Addr} {xs : List V} (h : H a = some (.tup xs)) : SqT K H a xs := .inl (.inl h)

/-! ### what a value tells: any value of the laws' menus -/
mutual
inductive Dq (q : Addr) (K : PySem.W.Frag) (H : Hp) : V → PyData → Prop
  | non : Dq q K H .non .none
  | bl (b : Bool) : Dq q K H (.bl b) (.bool b)
  | int (i : Int) : Dq q K H (.int i) (.int i)
  | str (x : Str) : x.length ≤ 1000 → Dq q K H (.str x) (.str x)
  | lst {a : Addr} {xs : List V} {ds : List PyData} : a ≠ q → SqL K H a xs → DqAll q K H xs ds → Dq q K H (.ref a) (.list ds)
  | tup {a : Addr} {xs : List V} {ds : List PyData} : a ≠ q → SqT K H a xs → DqAll q K H xs ds → Dq q K H (.ref a) (.tuple ds)
  | dct {a : Addr} {kvs : List (Key × V)} : a ≠ q → H a = some (.dK kvs) → Dq q K H (.ref a) (.dict [])
inductive DqAll (q : Addr) (K : PySem.W.Frag) (H : Hp) : List V → List PyData → Prop
  | nil : DqAll q K H [] []
  | cons {v : V} {vs : List V} {d : PyData} {ds : List PyData} : Dq q K H v d → DqAll q K H vs ds → DqAll q K H (v :: vs) (d :: ds)
end
section
variable {q : Addr} {K : PySem.W.Frag} {H H' : Hp}
mutual
theorem Dq.go (s : SameX q H H') : ∀ {d : PyData} {v : V}, Dq q K H v d → Dq q K H' v d
  | _, _, .non => .non
  | _, _, .bl b => .bl b
  | _, _, .int i => .int i
  | _, _, .str x h => .str x h
  | _, _, .lst n h ha => .lst n (s.seq n h) (DqAll.go s ha)
  | _, _, .tup n h ha => .tup n (s.tup n h) (DqAll.go s ha)
  | _, _, .dct n h => .dct n (s _ _ n h)
theorem DqAll.go (s : SameX q H H') : ∀ {ds : List PyData} {vs : List V}, DqAll q K H vs ds → DqAll q K H' vs ds
  | _, _, .nil => .nil
  | _, _, .cons h t => .cons (Dq.go s h) (DqAll.go s t)
end
theorem DqAll.len : ∀ {vs : List V} {ds : List PyData}, DqAll q K H vs ds → vs.length = ds.length
  | _, _, .nil => rfl
  | _, _, .cons _ t => congrArg Nat.succ (DqAll.len t)
def noDct : PyData → Bool
  | .dict _ => false
  | .list ds | .tuple ds => all ds
  | _ => true
where all : List PyData → Bool
  | [] => true
  | d :: ds => noDct d && all ds
mutual
theorem Dq.dp : ∀ {d : PyData} {v : V}, Dq q K H v d → noDct d = true → Dp K H v d
  | _, _, .non, _ => .non
  | _, _, .bl b, _ => .bl b
  | _, _, .int i, _ => .int i
  | _, _, .str x h, _ => .str x
  | .list ds, _, .lst n h ha, e => .lst h (DqAll.dp ha (by unfold noDct at e; exact e))
  | .tuple ds, _, .tup n h ha, e => .tup h (DqAll.dp ha (by unfold noDct at e; exact e))
  | _, _, .dct n h, e => by unfold noDct at e; exact absurd e (by decide)
theorem DqAll.dp : ∀ {ds : List PyData} {vs : List V}, DqAll q K H vs ds → noDct.all ds = true → DpAll K H vs ds
  | _, _, .nil, _ => .nil
  | d :: ds, _, .cons h t, e => by
    unfold noDct.all at e
    rw [Bool.and_eq_true] at e
    exact .cons (Dq.dp h e.1) (DqAll.dp t e.2)
end
def tyN : PyData → String
  | .none => "NoneType"
  | .bool _ => "bool"
  | .int _ => "int"
  | .str _ => "str"
  | .list _ => "list"
  | .tuple _ => "tuple"
  | .dict _ => "dict"
theorem Dq.ty {d : PyData} {v : V} (h : Dq q K H v d) : TyX K H v (.type (tyN d)) := by
  cases h with
  | non => exact .base .non
  | bl b => exact .base (.bl b)
  | int i => exact .base (.int i)
  | str x => exact .base (.str x)
  | lst n h ha =>
    rcases h with (h | ⟨o, h⟩) | ⟨o, its, m, e, c, _⟩
    · exact .base (.lst h)
    · exact .base (.frz h)
    · exact .kList e c
  | tup n h ha =>
    rcases h with (h | ⟨o, h⟩) | ⟨o, its, m, e, c, _⟩
    · exact .base (.tup h)
    · exact .fTuple h
    · exact .kTuple e c
  | dct n h => exact .base (.dK h)
def isSeqD : PyData → Bool
  | .list _ | .tuple _ => true
  | _ => false
def isIntB : PyData → Bool
  | .int _ | .bool _ => true
  | _ => false
def isIntD : PyData → Bool
  | .int _ => true
  | _ => false
def posD : PyData → Bool
  | .int i => decide (1 ≤ i)
  | _ => false
def isFrD : PyData → Bool
  | .int _ => true
  | .list [a, b] | .tuple [a, b] => isIntD a && posD b
  | _ => false
theorem kit_seq (d : PyData) : PySem.W.kitAny K (.type (tyN d)) [.type "list", .type "tuple"] = some (isSeqD d) := by
  cases d with
  | none => exact kitAny_cons (b := false) (r := false) (kit_ty (show kitB "NoneType" "list" = some false by decide +kernel)) (fun _ => kitAny_cons (b := false) (r := false) (kit_ty (show kitB "NoneType" "tuple" = some false by decide +kernel)) (fun _ => kitAny_nil) (fun z => by cases z)) (fun z => by cases z)
  | bool _ => exact kitAny_cons (b := false) (r := false) (kit_ty (show kitB "bool" "list" = some false by decide +kernel)) (fun _ => kitAny_cons (b := false) (r := false) (kit_ty (show kitB "bool" "tuple" = some false by decide +kernel)) (fun _ => kitAny_nil) (fun z => by cases z)) (fun z => by cases z)
  | int _ => exact kitAny_cons (b := false) (r := false) (kit_ty (show kitB "int" "list" = some false by decide +kernel)) (fun _ => kitAny_cons (b := false) (r := false) (kit_ty (show kitB "int" "tuple" = some false by decide +kernel)) (fun _ => kitAny_nil) (fun z => by cases z)) (fun z => by cases z)
  | str _ => exact kitAny_cons (b := false) (r := false) (kit_ty (show kitB "str" "list" = some false by decide +kernel)) (fun _ => kitAny_cons (b := false) (r := false) (kit_ty (show kitB "str" "tuple" = some false by decide +kernel)) (fun _ => kitAny_nil) (fun z => by cases z)) (fun z => by cases z)
  | list _ => exact kitAny_cons (b := true) (r := true) (kit_ty (show kitB "list" "list" = some true by decide +kernel)) (fun z => by cases z) (fun _ => rfl)
  | tuple _ => exact kitAny_cons (b := false) (r := true) (kit_ty (show kitB "tuple" "list" = some false by decide +kernel)) (fun _ => kitAny_cons (b := true) (r := true) (kit_ty (show kitB "tuple" "tuple" = some true by decide +kernel)) (fun z => by cases z) (fun _ => rfl)) (fun z => by cases z)
  | dict _ => exact kitAny_cons (b := false) (r := false) (kit_ty (show kitB "dict" "list" = some false by decide +kernel)) (fun _ => kitAny_cons (b := false) (r := false) (kit_ty (show kitB "dict" "tuple" = some false by decide +kernel)) (fun _ => kitAny_nil) (fun z => by cases z)) (fun z => by cases z)
theorem kit_int (d : PyData) : PySem.W.kitOne K (.type (tyN d)) (.type "int") = some (isIntB d) := by
  cases d with
  | none => exact kit_ty (show kitB "NoneType" "int" = some false by decide +kernel)
  | bool _ => exact kit_ty (show kitB "bool" "int" = some true by decide +kernel)
  | int _ => exact kit_ty (show kitB "int" "int" = some true by decide +kernel)
  | str _ => exact kit_ty (show kitB "str" "int" = some false by decide +kernel)
  | list _ => exact kit_ty (show kitB "list" "int" = some false by decide +kernel)
  | tuple _ => exact kit_ty (show kitB "tuple" "int" = some false by decide +kernel)
  | dict _ => exact kit_ty (show kitB "dict" "int" = some false by decide +kernel)
def isTupD : PyData → Bool
  | .tuple _ => true
  | _ => false
theorem kit_tuple (d : PyData) : PySem.W.kitOne K (.type (tyN d)) (.type "tuple") = some (isTupD d) := by
  cases d with
  | none => exact kit_ty (show kitB "NoneType" "tuple" = some false by decide +kernel)
  | bool _ => exact kit_ty (show kitB "bool" "tuple" = some false by decide +kernel)
  | int _ => exact kit_ty (show kitB "int" "tuple" = some false by decide +kernel)
  | str _ => exact kit_ty (show kitB "str" "tuple" = some false by decide +kernel)
  | list _ => exact kit_ty (show kitB "list" "tuple" = some false by decide +kernel)
  | tuple _ => exact kit_ty (show kitB "tuple" "tuple" = some true by decide +kernel)
  | dict _ => exact kit_ty (show kitB "dict" "tuple" = some false by decide +kernel)
def isBoolD : PyData → Bool
  | .bool _ => true
  | _ => false
theorem kit_bool (d : PyData) : PySem.W.kitOne K (.type (tyN d)) (.type "bool") = some (isBoolD d) := by
  cases d with
  | none => exact kit_ty (show kitB "NoneType" "bool" = some false by decide +kernel)
  | bool _ => exact kit_ty (show kitB "bool" "bool" = some true by decide +kernel)
  | int _ => exact kit_ty (show kitB "int" "bool" = some false by decide +kernel)
  | str _ => exact kit_ty (show kitB "str" "bool" = some false by decide +kernel)
  | list _ => exact kit_ty (show kitB "list" "bool" = some false by decide +kernel)
  | tuple _ => exact kit_ty (show kitB "tuple" "bool" = some false by decide +kernel)
  | dict _ => exact kit_ty (show kitB "dict" "bool" = some false by decide +kernel)
variable {Q : VK} {σ : L2.St} {te : TE}
def SeqQ (K : PySem.W.Frag) (v : V) (H : Hp) (Q : VK) : Prop := ∃ t b, TyX K H v (.type t) ∧ PySem.W.kitAny K (.type t) [.type "list", .type "tuple"] = some b ∧ Q (.bl b) H
theorem g_seqP (h : te σ H fun x H1 => SeqQ K x H1 Q) : tSeqP K te σ H Q := h
theorem g_seqQ {v : V} {d : PyData} (h : Dq q K H v d) (k : Q (.bl (isSeqD d)) H) : SeqQ K v H Q :=
  ⟨_, _, h.ty, kit_seq d, k⟩
theorem g_isiI {v : V} {d : PyData} (h : Dq q K H v d) (k : Q (.bl (isIntB d)) H) : rIsi K [v, .ty "int"] H Q :=
  ⟨v, .ty "int", _, _, _, rfl, .ty "int", h.ty, kit_int d, k⟩
theorem g_isiT {v : V} {d : PyData} (h : Dq q K H v d) (k : Q (.bl (isTupD d)) H) : rIsi K [v, .ty "tuple"] H Q :=
  ⟨v, .ty "tuple", _, _, _, rfl, .ty "tuple", h.ty, kit_tuple d, k⟩
theorem g_isiB {v : V} {d : PyData} (h : Dq q K H v d) (k : Q (.bl (isBoolD d)) H) : rIsi K [v, .ty "bool"] H Q :=
  ⟨v, .ty "bool", _, _, _, rfl, .ty "bool", h.ty, kit_bool d, k⟩
/-- a list or a tuple -/
def Sq (K : PySem.W.Frag) (H : Hp) (a : Addr) (xs : List V) : Prop := SqL K H a xs ∨ SqT K H a xs
theorem Sq.go {a : Addr} {xs : List V} (s : SameX q H H') (n : a ≠ q) (h : Sq K H a xs) : Sq K H' a xs := by
  rcases h with h | h
  · exact .inl (s.seq n h)
  · exact .inr (s.tup n h)
theorem Dq.seq {d : PyData} {v : V} (h : Dq q K H v d) (e : isSeqD d = true) : ∃ a xs ds, v = .ref a ∧ a ≠ q ∧ Sq K H a xs ∧ DqAll q K H xs ds ∧ (d = .list ds ∨ d = .tuple ds) := by
  cases h with
  | lst n h ha => exact ⟨_, _, _, rfl, n, .inl h, ha, .inl rfl⟩
  | tup n h ha => exact ⟨_, _, _, rfl, n, .inr h, ha, .inr rfl⟩
  | _ => cases e
theorem g_ix {a : Addr} {xs : List V} {i : Int} {v : V} (h : Sq K H a xs) (e : atI xs i = some v) (k : Q v H) : rIx K (.ref a) (.int i) H Q := by
  rcases h with h | h
  · exact .inl ⟨a, xs, i, v, rfl, rfl, h, e, k⟩
  · exact .inr (.inl ⟨a, xs, i, v, rfl, rfl, h, e, k⟩)
theorem g_len {a : Addr} {xs : List V} (h : Sq K H a xs) (k : Q (.int (xs.length : Int)) H) : rLenU K [.ref a] H Q := by
  rcases h with h | h
  · exact ⟨.ref a, xs.length, rfl, .inl ⟨xs, h, rfl⟩, k⟩
  · exact ⟨.ref a, xs.length, rfl, .inr ⟨xs, h, rfl⟩, k⟩
def valD : PyData → Int
  | .int i => i
  | _ => 0
/-- a bound, or none -/
def bdV : Option Int → V
  | none => .non
  | some i => .int i
def loB (l : Option Int) (i : Int) : Bool := match l with | none => true | some m => decide (m ≤ i)
def hiB (l : Option Int) (i : Int) : Bool := match l with | none => true | some m => decide (i ≤ m)
def wthD (d : PyData) (l m : Option Int) : Bool := isIntD d && (loB l (valD d) && hiB m (valD d))
def isPlD : PyData → Bool
  | .list [a, b] | .tuple [a, b] => isFrD a && isFrD b
  | _ => false
theorem posD_eq (d : PyData) : posD d = wthD d (some 1) none := by
  cases d with
  | int i =>
    show decide (1 ≤ i) = (true && (decide (1 ≤ i) && true))
    rw [Bool.true_and, Bool.and_true]
  | _ => rfl
theorem Dq.int_of {d : PyData} {v : V} (h : Dq q K H v d) (e : isIntD d = true) : v = .int (valD d) ∧ d = .int (valD d) := by
  cases h with
  | int i => exact ⟨rfl, rfl⟩
  | _ => cases e
theorem frD_two {d : PyData} {ds : List PyData} (e : d = .list ds ∨ d = .tuple ds) (n : ds.length ≠ 2) : isFrD d = false ∧ isPlD d = false := by
  rcases e with rfl | rfl
  all_goals
    match ds, n with
    | [], _ => exact ⟨rfl, rfl⟩
    | [_], _ => exact ⟨rfl, rfl⟩
    | [_, _], n => exact absurd rfl n
    | _ :: _ :: _ :: _, _ => exact ⟨rfl, rfl⟩
theorem frD_of {d x y : PyData} (e : d = .list [x, y] ∨ d = .tuple [x, y]) : isFrD d = (isIntD x && posD y) ∧ isPlD d = (isFrD x && isFrD y) := by
  rcases e with rfl | rfl <;> exact ⟨rfl, rfl⟩
theorem frD_no {d : PyData} (e : isIntD d = false) (n : isSeqD d = false) : isFrD d = false := by
  cases d with
  | int i => cases e
  | list ds => cases n
  | tuple ds => cases n
  | _ => rfl
theorem plD_no {d : PyData} (n : isSeqD d = false) : isPlD d = false := by
  cases d with
  | list ds => cases n
  | tuple ds => cases n
  | _ => rfl
theorem frD_int {d : PyData} (e : isIntD d = true) : isFrD d = true := by
  cases d with
  | int i => rfl
  | _ => cases e
theorem two_of {vs : List V} {ds : List PyData} (h : DqAll q K H vs ds) (e : vs.length = 2) : ∃ x y a b, vs = [x, y] ∧ ds = [a, b] ∧ Dq q K H x a ∧ Dq q K H y b := by
  cases h with
  | nil => cases e
  | cons h1 t => cases t with
    | nil => cases e
    | cons h2 t => cases t with
      | nil => exact ⟨_, _, _, _, rfl, rfl, h1, h2⟩
      | cons h3 t =>
        rw [List.length_cons, List.length_cons, List.length_cons] at e
        omega
theorem relR {vs : List V} {us : List Value} {ks : List Str} (r : Vals vs us) (_ : us.length = ks.length) : Vals vs.reverse us.reverse := r.reverse
theorem lenR {ps ks : List Str} (h : ps.length = ks.length) (vs : List V) (e : vs.reverse.length = ps.length) : vs.length = ks.length := by
  rw [List.length_reverse] at e
  omega
end
end Mf
namespace Mf
open PySem PySem.Spec PyProof.Rows L2
section
variable {K : PySem.W.Frag} {σ : L2.St} {H H1 : Hp} {Q : VK} {v x y : V} {ta tb te tl : TE} {tt : TT} {tr : TA} {g : TG} {vs : List Nat}
/-! ### slices, comprehensions -/
theorem g_sl {r : V → Option Int → Option Int → Hp → VK → Prop} {to th : TO} (q : te σ H fun x H1 => to σ H1 fun l H2 => th σ H2 fun u H3 => r x l u H3 Q) : tSl r te to th σ H Q := q
theorem g_noPart {R : Option Int → Hp → Prop} (q : R none H) : tNoPart σ H R := q
theorem g_part {R : Option Int → Hp → Prop} (q : te σ H fun x H1 => ∃ i, x = .int i ∧ R (some i) H1) : tPart te σ H R := q
theorem g_ii {i : Int} {R : Int → Prop} (q : R i) : ∃ j, V.int i = .int j ∧ R j := ⟨i, rfl, q⟩
theorem g_slL {a : Addr} {xs : List V} {lo hi : Option Int} (h : SqL K H a xs) (q : ∀ p H2, H p = none → Same H H2 → H2 p = some (.lst (cutV xs lo hi)) → Q (.ref p) H2) : rSlL K (.ref a) lo hi H Q :=
  ⟨a, xs, rfl, h, fun p hp => q p _ hp (same_new hp) upd_same⟩
theorem cut_ints (ns : List Int) (lo hi : Option Int) : ∃ ms : List Int, cutV (ns.map V.int) lo hi = ms.map V.int ∧ ms.length ≤ ns.length := by
  unfold cutV
  refine ⟨(ns.drop (HT.sIx (ns.map V.int).length 0 lo)).take (HT.sIx (ns.map V.int).length (ns.map V.int).length hi - HT.sIx (ns.map V.int).length 0 lo), ?_, ?_⟩
  · rw [List.map_take, List.map_drop]
  · rw [List.length_take, List.length_drop]
    omega
/-- what a comprehension asks once its walked thing is there -/
def LcGo (J : It) (g : TG) (tt : TT) (te : TE) (vs : List Nat) (σ : L2.St) (H1 : Hp) (Q : VK) : Prop := ∀ D, H1 D = none → ∃ W : Nat → Nat → Hp → Prop, (∃ m, W 0 m (upd H1 D (.lst []))) ∧
  ∀ i m H, W i m H → (J.stop i H ∧ Q (.ref D) H) ∨ (J.go i H ∧ ∃ Nx : Hp → Prop, (∀ H', Nx H' → ∃ m', m' < m ∧ W (i + 1) m' H') ∧
    ∀ x H', J.yld i H x H' → g x (wipe σ vs) H' fun σ2 H2 => wipe σ2 vs = wipe σ vs ∧ tt σ2 H2 fun b H3 =>
      if b = true then te σ2 H3 fun y H4 => ∃ acc, H4 D = some (.lst acc) ∧ acc.length < sizeLine ∧ Nx (upd H4 D (.lst (acc ++ [y]))) else Nx H3)
theorem g_lcL (q : tl σ H fun x H1 => ∃ a, x = .ref a ∧ (∃ xs, SqL K H1 a xs) ∧ LcGo (Itl K a) g tt te vs σ H1 Q) : tLc (iList K tl) g tt te vs σ H Q := q
theorem g_lcR (q : tr σ H fun us H1 => ∃ j : Int, us = [.int j] ∧ -(2 ^ 62) ≤ j ∧ j < 2 ^ 62 ∧ LcGo (Itr 0 j.toNat) g tt te vs σ H1 Q) : tLc (iRng1 tr) g tt te vs σ H Q := q
theorem lcgo_list {a : Addr} {xs : List V} {j : Nat} (Pv : Addr → Nat → Hp → Prop) (hw : ∀ x, wipe ((wipe σ vs).set j (some x)) vs = wipe σ vs)
    (h0 : ∀ D, H1 D = none → Pv D 0 (upd H1 D (.lst []))) (hl : ∀ D i H, i ≤ xs.length → Pv D i H → SqL K H a xs)
    (hs : ∀ D i x H, H1 D = none → xs[i]? = some x → Pv D i H → te ((wipe σ vs).set j (some x)) H fun y H4 => ∃ acc, H4 D = some (.lst acc) ∧ acc.length < sizeLine ∧ Pv D (i + 1) (upd H4 D (.lst (acc ++ [y]))))
    (hd : ∀ D H, H1 D = none → Pv D xs.length H → Q (.ref D) H) : LcGo (Itl K a) (gName j) tYes te vs σ H1 Q :=
  fun D hD => lc_list (xs := xs) (Pv D) (h0 D hD) (hl D) (fun i x H e p => ⟨hw x, hs D i x H hD e p⟩) (fun H p => hd D H hD p)
theorem lcgo_range {n j : Nat} (Pv : Addr → Nat → Hp → Prop) (hw : ∀ x, wipe ((wipe σ vs).set j (some x)) vs = wipe σ vs)
    (h0 : ∀ D, H1 D = none → Pv D 0 (upd H1 D (.lst [])))
    (hs : ∀ D i H, H1 D = none → i < n → Pv D i H → te ((wipe σ vs).set j (some (.int (0 + (i : Int))))) H fun y H4 => ∃ acc, H4 D = some (.lst acc) ∧ acc.length < sizeLine ∧ Pv D (i + 1) (upd H4 D (.lst (acc ++ [y]))))
    (hd : ∀ D H, H1 D = none → Pv D n H → Q (.ref D) H) : LcGo (Itr 0 n) (gName j) tYes te vs σ H1 Q :=
  fun D hD => lc_range (lo := 0) (n := n) (Pv D) (h0 D hD) (fun i H e p => ⟨hw _, hs D i H hD e p⟩) (fun H p => hd D H hD p)

/-! ### numbers -/
theorem g_mod {i j : Int} (h : 0 < j) (q : Q (.int (i % j)) H) : rI (fun _ j => 0 < j) (fun i j => .int (i % j)) (.int i) (.int j) H Q := ⟨i, j, rfl, rfl, h, q⟩
theorem g_div {i j : Int} (h : 0 < j) (h2 : j.natAbs.log2 < 9000) (q : Q (.int (i / j)) H) : rI CDivW (fun i j => .int (i / j)) (.int i) (.int j) H Q := ⟨i, j, rfl, rfl, ⟨h, h2⟩, q⟩
theorem g_pow {i j : Int} (h1 : 0 ≤ j) (h2 : j ≤ 1000000) (h : i.natAbs < 2 ^ 64) (q : Q (.int (i ^ j.toNat)) H) : rI CPow (fun i j => .int (i ^ j.toNat)) (.int i) (.int j) H Q := ⟨i, j, rfl, rfl, ⟨h1, h2, h⟩, q⟩
theorem g_mulL {i j : Int} (h1 : -(2 ^ 64) < i) (h2 : i < 2 ^ 64) (q : Q (.int (i * j)) H) : rMulU (.int i) (.int j) H Q := .inl ⟨i, j, rfl, rfl, .inl (.inl ⟨h1, h2⟩), q⟩
theorem g_mulR {i j : Int} (h1 : -(2 ^ 64) < j) (h2 : j < 2 ^ 64) (q : Q (.int (i * j)) H) : rMulU (.int i) (.int j) H Q := .inl ⟨i, j, rfl, rfl, .inl (.inr ⟨h1, h2⟩), q⟩
theorem g_mulW {i j : Int} (h : i.natAbs.log2 + j.natAbs.log2 < 1000000) (q : Q (.int (i * j)) H) : rMulU (.int i) (.int j) H Q := .inl ⟨i, j, rfl, rfl, .inr h, q⟩
theorem g_ltI {i j : Int} (q : Q (.bl (decide (i < j))) H) : rI0 (fun i j => .bl (decide (i < j))) (.int i) (.int j) H Q := ⟨i, j, rfl, rfl, q⟩
theorem g_neNil {c p : Addr} {ns : List Int} (h1 : SqL K H c (ns.map V.int)) (h2 : SqL K H p []) (q : Q (.bl (!ns.isEmpty)) H) : rNeU K (.ref c) (.ref p) H Q := by
  have dall : ∀ l : List Int, DpAll K H (l.map V.int) (l.map PyData.int) := fun l => by
    induction l with
    | nil => exact .nil
    | cons z r ih => exact .cons (.int z) ih
  have lay : ∀ l : List Int, PyData.canLayAll0 (l.map PyData.int) = true := fun l => by
    induction l with
    | nil => rfl
    | cons z r ih =>
      show (true && PyData.canLayAll0 (r.map PyData.int)) = true
      rw [ih]
      rfl
  have dep : ∀ l : List Int, PyData.depthAll (l.map PyData.int) ≤ 1 := fun l => by
    induction l with
    | nil => decide
    | cons z r ih =>
      rw [List.map_cons]
      simp only [PyData.depthAll, PyData.depth]
      omega
  refine .inr ⟨.list (ns.map PyData.int), .list [], .lst h1 (dall ns), .lst h2 .nil, ?_, by decide, ?_⟩
  · unfold SeqAt.shaped
    rw [Bool.and_eq_true]
    refine ⟨lay ns, decide_eq_true ?_⟩
    have := dep ns
    simp only [PyData.depth]
    omega
  · cases ns with
    | nil => exact q
    | cons z r => exact q
theorem g_sub {to ti : TE} {t : TSet} {R : L2.St → Hp → Prop} (q : to σ H fun o H1 => ti σ H1 fun i H2 => t o i v H2 fun H3 => R σ H3) : gSub to ti t v σ H R := q
theorem g_setL {p : Addr} {xs : List V} {k : Int} {j : Nat} {R : Hp → Prop} (h : H p = some (.lst xs)) (e : ixN xs.length k = some j) (q : R (upd H p (.lst (xs.set j v)))) : rSetL (.ref p) (.int k) v H R := ⟨p, xs, k, j, rfl, rfl, h, e, q⟩
theorem stir_bd {s t a b c : Int} (hs0 : 0 ≤ s) (hs : s < 2147483648) (ht0 : 0 ≤ t) (ht : t ≤ 1000000) (ha0 : 0 ≤ a) (ha : a ≤ 100000) (hb0 : 0 ≤ b) (hb : b ≤ 1000000) (hc0 : 0 ≤ c) (hc : c ≤ 1000000) :
    (s * (2 * t + a) + b * t * t + c).natAbs < 2 ^ 64 := by
  have h1 : s * (2 * t + a) ≤ 2147483648 * 2100000 := Int.mul_le_mul (by omega) (by omega) (by omega) (by omega)
  have h2 : 0 ≤ s * (2 * t + a) := Int.mul_nonneg hs0 (by omega)
  have h3 : b * t ≤ 1000000 * 1000000 := Int.mul_le_mul hb ht ht0 (by omega)
  have h4 : 0 ≤ b * t := Int.mul_nonneg hb0 ht0
  have h5 : b * t * t ≤ 1000000000000 * 1000000 := Int.mul_le_mul (by omega) ht ht0 (by omega)
  have h6 : 0 ≤ b * t * t := Int.mul_nonneg h4 ht0
  generalize s * (2 * t + a) = p at *
  generalize b * t * t = r at *
  omega
end

/-! ### what draws -/
/-- q holds the cells, how many were begun, what is left -/
def Qy (K : PySem.W.Frag) (q : Addr) (t : Int) (H : Hp) : Prop := ∃ (c : Addr) (ns : List Int) (r : Int), H q = some (.lst [.ref c, .int t, .int r]) ∧ H c = some (.lst (ns.map V.int)) ∧ c ≠ q ∧ ns.length ≤ 63 ∧ 0 ≤ r ∧ 0 ≤ t
theorem Qy.same {K : PySem.W.Frag} {q : Addr} {t : Int} {H H' : Hp} (s : Same H H') (h : Qy K q t H) : Qy K q t H' := by
  obtain ⟨c, ns, r, h1, h2, h3, h4, h5, h6⟩ := h
  exact ⟨c, ns, r, s _ _ h1, s _ _ h2, h3, h4, h5, h6⟩
theorem Qy.nn {K : PySem.W.Frag} {q : Addr} {t : Int} {H : Hp} (h : Qy K q t H) : 0 ≤ t := by
  obtain ⟨c, ns, r, h1, h2, h3, h4, h5, h6⟩ := h
  exact h6
theorem Qy.at {K : PySem.W.Frag} {q : Addr} {t : Int} {H : Hp} (h : Qy K q t H) : ∃ o, H q = some o := by
  obtain ⟨c, ns, r, h1, _⟩ := h
  exact ⟨_, h1⟩
theorem Qy.ne {K : PySem.W.Frag} {q p : Addr} {t : Int} {H : Hp} (h : Qy K q t H) (e : H p = none) : p ≠ q := by
  obtain ⟨o, h1⟩ := h.at
  exact (ne_of_none h1 e).symm
theorem upd_x {q c : Addr} {H : Hp} {t r t' r' : V} (h : H q = some (.lst [.ref c, t, r])) : SameX q H (upd H q (.lst [.ref c, t', r'])) := by
  refine ⟨fun b z n e => ?_, fun c2 t2 r2 e => ⟨t', r', ?_⟩⟩
  · rw [upd_ne n]
    exact e
  · rw [h] at e
    cases e
    exact upd_same
/-- the cells' address is not d -/
def Qn (q d : Addr) (H : Hp) : Prop := ∀ c t r, H q = some (.lst [.ref c, t, r]) → c ≠ d
theorem Qn.go {K : PySem.W.Frag} {q d : Addr} {t : Int} {H H' : Hp} (h : Qn q d H) (hq : Qy K q t H) (s : SameX q H H') : Qn q d H' := by
  obtain ⟨c, ns, r, h1, _⟩ := hq
  obtain ⟨t2, r2, e2⟩ := s.cell c _ _ h1
  intro c' t' r' e'
  rw [e2] at e'
  cases e'
  exact h c _ _ h1
theorem Qn.new {K : PySem.W.Frag} {q d : Addr} {t : Int} {H : Hp} (hq : Qy K q t H) (e : H d = none) : Qn q d H := by
  obtain ⟨c, ns, r, h1, h2, _⟩ := hq
  intro c' t' r' e'
  rw [h1] at e'
  cases e'
  exact ne_of_none h2 e
theorem Qy.upd {K : PySem.W.Frag} {q d : Addr} {t : Int} {H : Hp} {o : HO} (hq : Qy K q t H) (hn : Qn q d H) (n : d ≠ q) : Qy K q t (upd H d o) := by
  obtain ⟨c, ns, r, h1, h2, h3, h4, h5, h6⟩ := hq
  refine ⟨c, ns, r, ?_, ?_, h3, h4, h5, h6⟩
  · rw [upd_ne n.symm]
    exact h1
  · rw [upd_ne (hn c _ _ h1)]
    exact h2
theorem Qn.upd {K : PySem.W.Frag} {q d : Addr} {t : Int} {H : Hp} {o : HO} (hq : Qy K q t H) (hn : Qn q d H) (n : d ≠ q) : Qn q d (L2.upd H d o) := by
  intro c' t' r' e'
  rw [upd_ne n.symm] at e'
  exact hn c' t' r' e'
def sp_quay (K : PySem.W.Frag) : Sp := fun vs H Q _ => ∃ (a : Addr) (ns : List Int), vs = [.ref a] ∧ SqL K H a (ns.map V.int) ∧ ns.length ≤ 63 ∧ ∀ q H', Same H H' → H q = none → Qy K q 0 H' → Q (.ref q) H'
def sp_moor (K : PySem.W.Frag) : Sp := fun vs H Q _ => ∃ (q : Addr) (t n : Int), vs = [.ref q, .int n] ∧ Qy K q t H ∧ t ≤ 1000000 ∧ 0 < n ∧ n.natAbs.log2 < 9000 ∧
  ∀ t' H' i, SameX q H H' → Qy K q t' H' → t ≤ t' → t' ≤ t + 1 → 0 ≤ i → i < n → Q (.int i) H'
def sp_pick (K : PySem.W.Frag) : Sp := fun vs H Q _ => ∃ (q a : Addr) (t : Int) (xs : List V), vs = [.ref q, .ref a] ∧ Qy K q t H ∧ t ≤ 1000000 ∧ a ≠ q ∧ Sq K H a xs ∧ xs ≠ [] ∧ xs.length ≤ 1000 ∧
  ∀ t' H' x, SameX q H H' → Qy K q t' H' → t ≤ t' → t' ≤ t + 1 → x ∈ xs → Q x H'
end Mf
namespace Mf
open PySem PySem.Spec PyProof.Rows L2
/-! ### what a menu's items come to -/
def EvD (q : Addr) (K : PySem.W.Frag) (te : TE) (σ : L2.St) (H : Hp) (d : PyData) : Prop := ∀ H1, Same H H1 → ∀ Q : VK, (∀ v H2, Same H1 H2 → Dq q K H2 v d → Q v H2) → te σ H1 Q
def EvDs (q : Addr) (K : PySem.W.Frag) (ta : TA) (σ : L2.St) (H : Hp) (ds : List PyData) : Prop := ∀ H1, Same H H1 → ∀ Q : List V → Hp → Prop, (∀ vs H2, Same H1 H2 → DqAll q K H2 vs ds → Q vs H2) → ta σ H1 Q
section
variable {q : Addr} {K : PySem.W.Frag} {σ : L2.St} {H : Hp} {te tb : TE} {ta : TA} {d : PyData} {ds : List PyData}
theorem ed_var {i : Nat} {v : V} (e : σ[i]? = some (some v)) (h : Dq q K H v d) : EvD q K (tVar i) σ H d := fun H1 s Q k => ⟨v, e, k v H1 (Same.refl _) (h.go (Same.x s))⟩
theorem ed_int {i : Int} : EvD q K (tC (.int i)) σ H (.int i) := fun H1 _ Q k => k _ H1 (Same.refl _) (.int i)
theorem ed_bl {b : Bool} : EvD q K (tC (.bl b)) σ H (.bool b) := fun H1 _ Q k => k _ H1 (Same.refl _) (.bl b)
theorem ed_non : EvD q K (tC .non) σ H .none := fun H1 _ Q k => k _ H1 (Same.refl _) .non
theorem ed_str {x : Str} (h : x.length ≤ 1000) : EvD q K (tC (.str x)) σ H (.str x) := fun H1 _ Q k => k _ H1 (Same.refl _) (.str x h)
theorem ed_neg {i : Int} (h : EvD q K te σ H (.int i)) : EvD q K (tUn (rU fun i => .int (-i)) te) σ H (.int (-i)) := fun H1 s Q k => h H1 s _ fun v H2 s2 hd => by
  cases hd
  exact ⟨i, rfl, k _ H2 s2 (.int _)⟩
theorem ed_pow {i j : Int} (h1 : EvD q K te σ H (.int i)) (h2 : EvD q K tb σ H (.int j)) (c : CPow i j) : EvD q K (tOp (rI CPow fun i j => .int (i ^ j.toNat)) te tb) σ H (.int (i ^ j.toNat)) := fun H1 s Q k => h1 H1 s _ fun v H2 s2 hd => by
  cases hd
  exact h2 H2 (s.trans s2) _ fun v H3 s3 hd => by
    cases hd
    exact ⟨i, j, rfl, rfl, c, k _ H3 (s2.trans s3) (.int _)⟩
theorem ed_mul {i j : Int} (h1 : EvD q K te σ H (.int i)) (h2 : EvD q K tb σ H (.int j)) (c : CMulU i j) : EvD q K (tOp rMulU te tb) σ H (.int (i * j)) := fun H1 s Q k => h1 H1 s _ fun v H2 s2 hd => by
  cases hd
  exact h2 H2 (s.trans s2) _ fun v H3 s3 hd => by
    cases hd
    exact .inl ⟨i, j, rfl, rfl, c, k _ H3 (s2.trans s3) (.int _)⟩
theorem eds_nil : EvDs q K tNil σ H [] := fun H1 _ Q k => k [] H1 (Same.refl _) .nil
theorem eds_cons (h : EvD q K te σ H d) (t : EvDs q K ta σ H ds) : EvDs q K (tCons te ta) σ H (d :: ds) := fun H1 s Q k => h H1 s _ fun v H2 s2 hd => t H2 (s.trans s2) _ fun vs H3 s3 hds =>
  k (v :: vs) H3 (s2.trans s3) (.cons (hd.go (Same.x s3)) hds)
theorem ed_tup {o : HO} (hq : H q = some o) (h : EvDs q K ta σ H ds) (hl : ds.length ≤ 1000) : EvD q K (tTup ta) σ H (.tuple ds) := fun H1 s Q k => h H1 s _ fun vs H2 s2 hds =>
  ⟨by rw [hds.len]; exact Nat.le_of_lt (small1000 hl), fun p hp => k _ _ (s2.trans (same_new hp)) (.tup (ne_of_none ((s.trans s2) _ _ hq) hp).symm (tupU upd_same) (hds.go (Same.x (same_new hp))))⟩
theorem ed_lst {o : HO} (hq : H q = some o) (h : EvDs q K ta σ H ds) (hl : ds.length ≤ 1000) : EvD q K (tLst ta) σ H (.list ds) := fun H1 s Q k => h H1 s _ fun vs H2 s2 hds =>
  ⟨by rw [hds.len]; exact Nat.le_of_lt (small1000 hl), fun p hp => k _ _ (s2.trans (same_new hp)) (.lst (ne_of_none ((s.trans s2) _ _ hq) hp).symm (seqU upd_same) (hds.go (Same.x (same_new hp))))⟩
theorem ed_dict0 {o : HO} (hq : H q = some o) : EvD q K tDNewK σ H (.dict []) := fun H1 s Q k p hp => k _ _ (same_new hp) (.dct (ne_of_none (s _ _ hq) hp).symm upd_same)
theorem ed_dict2 {o : HO} (hq : H q = some o) {a b c d : Int} : EvD q K (tDisp [(tC (.int a), tC (.int b)), (tC (.int c), tC (.int d))]) σ H (.dict []) := fun H1 s Q k p hp =>
  ⟨upd_same, [(.inl a, .int b), (.inl c, .int d)], rfl, by show 2 ≤ 15; decide, by
    rw [upd_upd]
    exact k _ _ (same_new hp) (.dct (ne_of_none (s _ _ hq) hp).symm upd_same)⟩
/-- .. and used -/
theorem EvDs.run {Q : List V → Hp → Prop} (h : EvDs q K ta σ H ds) (k : ∀ vs H2, Same H H2 → DqAll q K H2 vs ds → Q vs H2) : ta σ H Q := h H (Same.refl _) Q k
theorem EvD.run {Q : VK} (h : EvD q K te σ H d) (k : ∀ v H2, Same H H2 → Dq q K H2 v d → Q v H2) : te σ H Q := h H (Same.refl _) Q k
theorem DqAll.mem : ∀ {vs : List V} {ds : List PyData} {x : V}, DqAll q K H vs ds → x ∈ vs → ∃ d ∈ ds, Dq q K H x d
  | _, _, _, .nil, h => absurd h List.not_mem_nil
  | _, _, _, .cons h t, hx => by
    rcases List.mem_cons.mp hx with rfl | hx
    · exact ⟨_, List.mem_cons_self, h⟩
    · obtain ⟨d, m, e⟩ := DqAll.mem t hx
      exact ⟨d, List.mem_cons_of_mem _ m, e⟩
theorem DqAll.app : ∀ {vs ws : List V} {ds es : List PyData}, DqAll q K H vs ds → DqAll q K H ws es → DqAll q K H (vs ++ ws) (ds ++ es)
  | _, _, _, _, .nil, h => h
  | _, _, _, _, .cons h t, h2 => .cons h (DqAll.app t h2)
/-- data that can be compared and shown -/
def okD (d : PyData) : Bool := noDct d && (d.canLay0 && decide (d.depth ≤ 60))
def okV (d : PyData) : Bool := match d with | .dict _ => true | d => okD d
def okO (d : PyData) : Bool := match d with | .list [a, b] | .tuple [a, b] => okD a && okD b | _ => true
end
theorem noDct_parts : ∀ {ds : List PyData}, noDct.all ds = true → ∀ d ∈ ds, noDct d = true
  | [], _, d, hd => absurd hd List.not_mem_nil
  | x :: r, h, d, hd => by
    unfold noDct.all at h
    rw [Bool.and_eq_true] at h
    rcases List.mem_cons.mp hd with rfl | hd
    · exact h.1
    · exact noDct_parts h.2 d hd
theorem lay_parts : ∀ {ds : List PyData}, PyData.canLayAll0 ds = true → PyData.depthAll ds ≤ 60 → ∀ d ∈ ds, d.canLay0 = true ∧ d.depth ≤ 60
  | [], _, _, d, hd => absurd hd List.not_mem_nil
  | x :: r, h, e, d, hd => by
    have h' : (x.canLay0 && PyData.canLayAll0 r) = true := h
    rw [Bool.and_eq_true] at h'
    simp only [PyData.depthAll] at e
    rcases List.mem_cons.mp hd with rfl | hd
    · exact ⟨h'.1, by omega⟩
    · exact lay_parts h'.2 (by omega) d hd
theorem okD_parts {d : PyData} {ds : List PyData} (e : d = .list ds ∨ d = .tuple ds) (h : okD d = true) : ∀ x ∈ ds, okD x = true := by
  unfold okD at h
  rw [Bool.and_eq_true, Bool.and_eq_true] at h
  obtain ⟨h1, h2, h3⟩ := h
  have h3 := of_decide_eq_true h3
  intro x hx
  have key : noDct.all ds = true ∧ PyData.canLayAll0 ds = true ∧ PyData.depthAll ds ≤ 60 := by
    rcases e with rfl | rfl
    all_goals
      unfold noDct at h1
      simp only [PyData.depth] at h3
      exact ⟨h1, h2, by omega⟩
  obtain ⟨k1, k2, k3⟩ := key
  have := lay_parts k2 k3 x hx
  unfold okD
  rw [Bool.and_eq_true, Bool.and_eq_true]
  exact ⟨noDct_parts k1 x hx, this.1, decide_eq_true this.2⟩
theorem okO_of {d : PyData} (h : okV d = true) : okO d = true := by
  unfold okO
  split
  · rename_i a b
    rw [Bool.and_eq_true]
    exact ⟨okD_parts (.inl rfl) h a (List.mem_cons_self), okD_parts (.inl rfl) h b (List.mem_cons_of_mem _ List.mem_cons_self)⟩
  · rename_i a b
    rw [Bool.and_eq_true]
    exact ⟨okD_parts (.inr rfl) h a (List.mem_cons_self), okD_parts (.inr rfl) h b (List.mem_cons_of_mem _ List.mem_cons_self)⟩
  · rfl
section
variable {q : Addr} {K : PySem.W.Frag} {H : Hp} {Q : VK} {σ : L2.St} {te : TE}
theorem okD_all : ∀ {ds : List PyData}, (∀ d ∈ ds, okD d = true) → noDct.all ds = true ∧ PyData.canLayAll0 ds = true ∧ PyData.depthAll ds ≤ 60
  | [], _ => ⟨rfl, rfl, by decide⟩
  | d :: ds, h => by
    have h1 := h d List.mem_cons_self
    obtain ⟨i1, i2, i3⟩ := okD_all fun e he => h e (List.mem_cons_of_mem _ he)
    unfold okD at h1
    rw [Bool.and_eq_true, Bool.and_eq_true] at h1
    obtain ⟨k1, k2, k3⟩ := h1
    have k3 := of_decide_eq_true k3
    refine ⟨?_, ?_, ?_⟩
    · unfold noDct.all
      rw [k1, i1]
      rfl
    · show (d.canLay0 && PyData.canLayAll0 ds) = true
      rw [k2, i2]
      rfl
    · simp only [PyData.depthAll]
      omega
/-- a list of such == [] -/
theorem g_eqNilD {c p : Addr} {vs : List V} {ds : List PyData} (h1 : SqL K H c vs) (hall : DqAll q K H vs ds) (hok : ∀ d ∈ ds, okD d = true) (h2 : SqL K H p []) (k : Q (.bl vs.isEmpty) H) : rEqU K (.ref c) (.ref p) H Q := by
  obtain ⟨i1, i2, i3⟩ := okD_all hok
  refine .inr ⟨.list ds, .list [], .lst h1 (hall.dp i1), .lst h2 .nil, ?_, by decide, ?_⟩
  · unfold SeqAt.shaped
    rw [Bool.and_eq_true]
    refine ⟨i2, decide_eq_true ?_⟩
    simp only [PyData.depth]
    omega
  · cases hall with
    | nil => exact k
    | cons _ _ => exact k
/-- what is reckoned apart -/
theorem cut_te {v : V} (h1 : ∀ Q : VK, Q v H → te σ H Q) (h2 : Q v H) : te σ H Q := h1 Q h2
theorem cut_teS {v : V} (h1 : ∀ Q : VK, (∀ H', Same H H' → Q v H') → te σ H Q) (h2 : ∀ H', Same H H' → Q v H') : te σ H Q := h1 Q h2
theorem bb_len : ∀ b c : Bool, (PyData.list [.bool b, .bool c]).shown.length ≤ sizeLine := by decide +kernel
theorem b_len : ∀ b : Bool, (PyData.bool b).shown.length ≤ sizeLine := by decide +kernel
theorem g_reprBB {p : Addr} {b c : Bool} (e : H p = some (.lst [.bl b, .bl c])) (k : Q (.str (PyData.list [.bool b, .bool c]).shown) H) : rReprU K [.ref p] H Q :=
  g_repr (.lst (seqU e) (.cons (.bl b) (.cons (.bl c) .nil))) rfl rfl (Nat.le_of_ble_eq_true rfl) (bb_len b c) k
theorem g_reprB {b : Bool} (k : Q (.str (PyData.bool b).shown) H) : rReprU K [.bl b] H Q := g_repr (.bl b) rfl rfl (Nat.le_of_ble_eq_true rfl) (b_len b) k
theorem g_neSs {x : Str} (k : Q (.bl false) H) : rNeU K (.str x) (.str x) H Q := g_neS (by rw [decide_eq_true rfl]; exact k)
theorem g_par {i j : Nat} {ta : TA} {D : Ends} (k : ta σ H fun vs H1 => ∃ u v, vs = [u, v] ∧ D.nx ((σ.set i (some u)).set j (some v)) H1) : tPar i j ta D σ H := k
theorem g_par3 {i j l : Nat} {ta : TA} {D : Ends} (k : ta σ H fun vs H1 => ∃ u v w, vs = [u, v, w] ∧ D.nx (((σ.set i (some u)).set j (some v)).set l (some w)) H1) : tPar3 i j l ta D σ H := k
theorem g_vv {x y : V} {P : V → V → Prop} (k : P x y) : ∃ u v, [x, y] = [u, v] ∧ P u v := ⟨x, y, rfl, k⟩
theorem g_vvv {x y z : V} {P : V → V → V → Prop} (k : P x y z) : ∃ u v w, [x, y, z] = [u, v, w] ∧ P u v w := ⟨x, y, z, rfl, k⟩
/-- a for over range(n) -/
theorem g_for1 {n : Int} {j : Nat} {tb : TS} {D : Ends} (hn : 0 ≤ n ∧ n ≤ 1000) (Pv : Nat → L2.St → Hp → Prop) (h0 : Pv 0 σ H)
    (hs : ∀ i σ H, i < n.toNat → Pv i σ H → tb ⟨Pv (i + 1), D.rt, D.nx, Pv (i + 1)⟩ (σ.set j (some (.int (0 + (i : Int))))) H) (hd : ∀ σ H, Pv n.toNat σ H → D.nx σ H) :
    tFor (iRng1 (tCons (tC (.int n)) tNil)) (gName j) tb D σ H :=
  ⟨n, rfl, by omega, by omega, for_range (lo := 0) (n := n.toNat) Pv h0 (fun i σ H hi p => hs i σ H hi p) hd⟩
theorem mem_bd {x : V} {ls : List (Option Int)} (h : x ∈ ls.map bdV) : ∃ l, x = bdV l := by
  obtain ⟨l, _, e⟩ := List.mem_map.mp h
  exact ⟨l, e.symm⟩
end
section
variable {K : PySem.W.Frag} {σ : L2.St} {H H1 : Hp} {Q : VK} {te : TE} {tt : TT} {vs : List Nat}
theorem g_lcO1 {g : TG} {tl : TE} (q : tl σ H fun x H1 => ∃ a, x = .ref a ∧ (∃ xs, SqL K H1 a xs) ∧ LcGo (Itl K a) g tt te vs σ H1 Q) : tLc (fun σ H R => iList K tl σ H R ∨ iTup K tl σ H R) g tt te vs σ H Q := .inl q
theorem g_lcO2 {g : TG} {tl : TE} (q : tl σ H fun x H1 => ∃ a, x = .ref a ∧ (∃ xs, SqT K H1 a xs) ∧ LcGo (Itt K a) g tt te vs σ H1 Q) : tLc (fun σ H R => iList K tl σ H R ∨ iTup K tl σ H R) g tt te vs σ H Q := .inr q
/-- .. with a test -/
theorem lcgo_listF {a : Addr} {xs : List V} {j : Nat} (Pv : Addr → Nat → Hp → Prop) (hw : ∀ x, wipe ((wipe σ vs).set j (some x)) vs = wipe σ vs)
    (h0 : ∀ D, H1 D = none → Pv D 0 (upd H1 D (.lst []))) (hl : ∀ D i H, i ≤ xs.length → Pv D i H → SqL K H a xs)
    (hs : ∀ D i x H, H1 D = none → xs[i]? = some x → Pv D i H → tt ((wipe σ vs).set j (some x)) H fun b H3 => if b = true then te ((wipe σ vs).set j (some x)) H3 fun y H4 => ∃ acc, H4 D = some (.lst acc) ∧ acc.length < sizeLine ∧ Pv D (i + 1) (upd H4 D (.lst (acc ++ [y]))) else Pv D (i + 1) H3)
    (hd : ∀ D H, H1 D = none → Pv D xs.length H → Q (.ref D) H) : LcGo (Itl K a) (gName j) tt te vs σ H1 Q :=
  fun D hD => lc_list (xs := xs) (Pv D) (h0 D hD) (hl D) (fun i x H e p => ⟨hw x, hs D i x H hD e p⟩) (fun H p => hd D H hD p)
theorem lcgo_tupF {a : Addr} {xs : List V} {j : Nat} (Pv : Addr → Nat → Hp → Prop) (hw : ∀ x, wipe ((wipe σ vs).set j (some x)) vs = wipe σ vs)
    (h0 : ∀ D, H1 D = none → Pv D 0 (upd H1 D (.lst []))) (hl : ∀ D i H, i ≤ xs.length → Pv D i H → SqT K H a xs)
    (hs : ∀ D i x H, H1 D = none → xs[i]? = some x → Pv D i H → tt ((wipe σ vs).set j (some x)) H fun b H3 => if b = true then te ((wipe σ vs).set j (some x)) H3 fun y H4 => ∃ acc, H4 D = some (.lst acc) ∧ acc.length < sizeLine ∧ Pv D (i + 1) (upd H4 D (.lst (acc ++ [y]))) else Pv D (i + 1) H3)
    (hd : ∀ D H, H1 D = none → Pv D xs.length H → Q (.ref D) H) : LcGo (Itt K a) (gName j) tt te vs σ H1 Q :=
  fun D hD => lc_tup (xs := xs) (Pv D) (h0 D hD) (hl D) (fun i x H e p => ⟨hw x, hs D i x H hD e p⟩) (fun H p => hd D H hD p)
end
end Mf
namespace Mf
open PySem PySem.Spec PyProof.Rows L2
/-! ### fractions: the mathematics -/
theorem red_num (u d : Int) (h : 1 ≤ d) : u / ((Nat.gcd u.natAbs d.natAbs : Nat) : Int) = (Rat.divInt u d).num := by
  rw [Rat.num_divInt, Int.sign_eq_one_of_pos (by omega), Int.one_mul]
  show _ = u / ((Nat.gcd d.natAbs u.natAbs : Nat) : Int)
  rw [Nat.gcd_comm]
theorem red_den (u d : Int) (h : 1 ≤ d) : d / ((Nat.gcd u.natAbs d.natAbs : Nat) : Int) = ((Rat.divInt u d).den : Int) := by
  rw [Rat.den_divInt, if_neg (by omega)]
  show _ = ((d.natAbs / Nat.gcd d.natAbs u.natAbs : Nat) : Int)
  rw [Nat.gcd_comm, Int.natCast_ediv, Int.natAbs_of_nonneg (by omega : 0 ≤ d)]
theorem num_le (u d : Int) (h : 1 ≤ d) : (Rat.divInt u d).num.natAbs ≤ u.natAbs := by
  rw [← red_num u d h]
  exact Int.natAbs_ediv_le_natAbs _ _
theorem den_le (u d : Int) (h : 1 ≤ d) : (Rat.divInt u d).den ≤ d.natAbs := by
  rw [Rat.den_divInt, if_neg (by omega)]
  exact Nat.div_le_self _ _
/-- x is below 2 ^ n -/
def Bt (n : Nat) (x : Int) : Prop := x.natAbs < 2 ^ n
theorem Bt.mono {m n : Nat} {x : Int} (h : Bt m x) (l : m ≤ n) : Bt n x := Nat.lt_of_lt_of_le h (Nat.pow_le_pow_right (by decide) l)
theorem Bt.mul {m n : Nat} {x y : Int} (h1 : Bt m x) (h2 : Bt n y) : Bt (m + n) (x * y) := by
  unfold Bt at *
  rw [Int.natAbs_mul, Nat.pow_add]
  exact Nat.mul_lt_mul'' h1 h2
theorem Bt.add {m : Nat} {x y : Int} (h1 : Bt m x) (h2 : Bt m y) : Bt (m + 1) (x + y) := by
  unfold Bt at *
  have := Int.natAbs_add_le x y
  rw [Nat.pow_succ]
  omega
theorem Bt.neg {m : Nat} {x : Int} (h : Bt m x) : Bt m (-x) := by
  unfold Bt at *
  rw [Int.natAbs_neg]
  exact h
theorem Bt.sub {m : Nat} {x y : Int} (h1 : Bt m x) (h2 : Bt m y) : Bt (m + 1) (x - y) := by
  rw [Int.sub_eq_add_neg]
  exact h1.add h2.neg
theorem Bt.log {n : Nat} {x : Int} (h : Bt n x) (l : n ≤ 8999) : x.natAbs.log2 < 9000 :=
  Nat.lt_of_le_of_lt (Nat.le_of_lt_succ (Nat.lt_of_lt_of_le (PySem.Flt.log2_lt_of (Nat.succ_pos _) (Nat.lt_of_lt_of_le h (Nat.pow_le_pow_right (by decide) l))) (Nat.le_refl _))) (by decide)
theorem Bt.show {n : Nat} {x : Int} (h : Bt n x) (l : n ≤ 1900) : x.natAbs.log2 < 1920 :=
  Nat.lt_of_lt_of_le (PySem.Flt.log2_lt_of (by decide : 0 < 1900) (Nat.lt_of_lt_of_le h (Nat.pow_le_pow_right (by decide) l))) (by decide)
theorem Bt.cm {m n : Nat} {x y : Int} (h1 : Bt m x) (h2 : Bt n y) (l : m + n ≤ 900000) : CMulU x y := by
  refine .inr (wide_mul (a := m + 1) (b := n + 1) ?_ ?_ (by omega) (by omega) (by omega))
  · exact Nat.lt_of_lt_of_le h1 (Nat.pow_le_pow_right (by decide) (by omega))
  · exact Nat.lt_of_lt_of_le h2 (Nat.pow_le_pow_right (by decide) (by omega))
/-- .. of a fraction -/
def Rb (n : Nat) (r : Rat) : Prop := Bt n r.num ∧ Bt n (r.den : Int)
theorem Rb.mono {m n : Nat} {r : Rat} (h : Rb m r) (l : m ≤ n) : Rb n r := ⟨h.1.mono l, h.2.mono l⟩
theorem Rb.of {n : Nat} {u d : Int} (hd : 1 ≤ d) (h1 : Bt n u) (h2 : Bt n d) : Rb n (Rat.divInt u d) := by
  refine ⟨Nat.lt_of_le_of_lt (num_le u d hd) h1, ?_⟩
  show ((Rat.divInt u d).den : Int).natAbs < _
  rw [Int.natAbs_natCast]
  exact Nat.lt_of_le_of_lt (den_le u d hd) h2
theorem den1 (r : Rat) : 1 ≤ (r.den : Int) := by
  have := r.den_pos
  omega
theorem add_div (r s : Rat) : Rat.divInt (r.num * s.den + s.num * r.den) (r.den * s.den) = r + s := by
  rw [Rat.add_def', ← Rat.divInt_ofNat, Int.natCast_mul]
theorem sub_div (r s : Rat) : Rat.divInt (r.num * s.den - s.num * r.den) (r.den * s.den) = r - s := by
  rw [Rat.sub_def', ← Rat.divInt_ofNat, Int.natCast_mul]
theorem mul_div (r s : Rat) : Rat.divInt (r.num * s.num) (r.den * s.den) = r * s := by
  rw [Rat.mul_def', ← Rat.divInt_ofNat, Int.natCast_mul]
theorem div_div (r s : Rat) : Rat.divInt (r.num * s.den) (s.num * r.den) = r / s := by
  have e : r / s = Rat.divInt r.num r.den * Rat.divInt s.den s.num := by
    rw [Rat.div_def, Rat.inv_def, Rat.num_divInt_den]
  rw [e, Rat.divInt_mul_divInt, Int.mul_comm (r.den : Int) s.num]
theorem div_neg (r s : Rat) : Rat.divInt (-r.num * s.den) (-s.num * r.den) = r / s := by
  rw [Int.neg_mul, Int.neg_mul, Rat.neg_divInt_neg, div_div]
theorem Rb.add {m n : Nat} {r s : Rat} (h : Rb m r) (k : Rb n s) : Rb (m + n + 1) (r + s) := by
  rw [← add_div]
  exact Rb.of (by have := den1 r; have := den1 s; exact Int.le_trans (by decide) (Int.mul_le_mul (show 1 ≤ (r.den : Int) from den1 r) (den1 s) (by decide) (by omega))) ((h.1.mul k.2).add ((k.1.mul h.2).mono (by omega))) ((h.2.mul k.2).mono (by omega))
theorem dd1 (r s : Rat) : 1 ≤ (r.den : Int) * s.den := Int.le_trans (by decide) (Int.mul_le_mul (den1 r) (den1 s) (by decide) (by have := den1 r; omega))
theorem Rb.sub {m n : Nat} {r s : Rat} (h : Rb m r) (k : Rb n s) : Rb (m + n + 1) (r - s) := by
  rw [← sub_div]
  exact Rb.of (dd1 r s) ((h.1.mul k.2).sub ((k.1.mul h.2).mono (by omega))) ((h.2.mul k.2).mono (by omega))
theorem Rb.mul {m n : Nat} {r s : Rat} (h : Rb m r) (k : Rb n s) : Rb (m + n) (r * s) := by
  rw [← mul_div]
  exact Rb.of (dd1 r s) (h.1.mul k.1) (h.2.mul k.2)
theorem Rb.div {m n : Nat} {r s : Rat} (h : Rb m r) (k : Rb n s) (hs : s ≠ 0) : Rb (m + n) (r / s) := by
  have hn : s.num ≠ 0 := fun e => hs (Rat.num_eq_zero.mp e)
  have d1 := den1 r
  by_cases hp : 0 < s.num
  · rw [← div_div]
    exact Rb.of (Int.le_trans (by decide) (Int.mul_le_mul (show 1 ≤ s.num by omega) d1 (by decide) (by omega))) (h.1.mul k.2) ((k.1.mul h.2).mono (by omega))
  · rw [← div_neg]
    exact Rb.of (Int.le_trans (by decide) (Int.mul_le_mul (show 1 ≤ -s.num by omega) d1 (by decide) (by omega))) (h.1.neg.mul k.2) ((k.1.neg.mul h.2).mono (by omega))

/-! ### fractions as values -/
def upD : PyData → Int
  | .int i => i
  | .list [a, _] | .tuple [a, _] => valD a
  | _ => 0
def dnD : PyData → Int
  | .list [_, b] | .tuple [_, b] => valD b
  | _ => 1
def valQ (d : PyData) : Rat := Rat.divInt (upD d) (dnD d)
/-- the reduced tuple -/
abbrev rv (r : Rat) : List V := [.int r.num, .int (r.den : Int)]
def rd (r : Rat) : PyData := .tuple [.int r.num, .int (r.den : Int)]
/-- v tells the fraction r, numbers below 2 ^ n -/
def Fr (q : Addr) (K : PySem.W.Frag) (H : Hp) (v : V) (r : Rat) (n : Nat) : Prop := ∃ d, Dq q K H v d ∧ isFrD d = true ∧ valQ d = r ∧ Bt n (upD d) ∧ Bt n (dnD d) ∧ 1 ≤ dnD d
theorem Fr.go {q : Addr} {K : PySem.W.Frag} {H H' : Hp} {v : V} {r : Rat} {n : Nat} (s : SameX q H H') (h : Fr q K H v r n) : Fr q K H' v r n := by
  obtain ⟨d, h1, h2⟩ := h
  exact ⟨d, h1.go s, h2⟩
theorem Fr.rb {q : Addr} {K : PySem.W.Frag} {H : Hp} {v : V} {r : Rat} {n : Nat} (h : Fr q K H v r n) : Rb n r := by
  obtain ⟨d, h1, h2, rfl, h4, h5, h6⟩ := h
  exact Rb.of h6 h4 h5
theorem Fr.mono {q : Addr} {K : PySem.W.Frag} {H : Hp} {v : V} {r : Rat} {m n : Nat} (h : Fr q K H v r m) (l : m ≤ n) : Fr q K H v r n := by
  obtain ⟨d, h1, h2, h3, h4, h5, h6⟩ := h
  exact ⟨d, h1, h2, h3, h4.mono l, h5.mono l, h6⟩
theorem rd_fr (r : Rat) : isFrD (rd r) = true := by
  show (true && decide (1 ≤ (r.den : Int))) = true
  rw [Bool.true_and]
  exact decide_eq_true (den1 r)
theorem rd_val (r : Rat) : valQ (rd r) = r := Rat.num_divInt_den r
theorem Fr.tup {q : Addr} {K : PySem.W.Frag} {H : Hp} {p : Addr} {r : Rat} {n : Nat} (h : SqT K H p (rv r)) (np : p ≠ q) (b : Rb n r) : Fr q K H (.ref p) r n :=
  ⟨rd r, .tup np h (.cons (.int _) (.cons (.int _) .nil)), rd_fr r, rd_val r, b.1, b.2, den1 r⟩
theorem Fr.int {q : Addr} {K : PySem.W.Frag} {H : Hp} {i : Int} {n : Nat} (b : Bt n i) (hn : 1 ≤ n) : Fr q K H (.int i) (Rat.divInt i 1) n :=
  ⟨.int i, .int i, rfl, rfl, b, Bt.mono (m := 1) (by show 1 < 2 ^ 1; decide) hn, by show (1 : Int) ≤ 1; omega⟩
/-- a new tuple tells it -/
def RetT (r : Rat) (H : Hp) (Q : VK) : Prop := ∀ p H', Same H H' → H p = none → H' p = some (.tup (rv r)) → Q (.ref p) H'
theorem RetT.same {r : Rat} {H H1 : Hp} {Q : VK} (k : RetT r H Q) (s : Same H H1) : RetT r H1 Q := fun p H' s' n e => k p H' (s.trans s') (s.free n) e
section
variable {K : PySem.W.Frag} {σ : L2.St} {H : Hp} {Q : VK}
theorem pg_or {X : Cx} {tg : Expr} {t1 t2 : TG} (h1 : PG X tg t1) (h2 : PG X tg t2) : PG X tg (fun v σ H Q => t1 v σ H Q ∨ t2 v σ H Q) := by
  refine ⟨fun pins s σ H v u Q I r h => ?_⟩
  cases h with
  | inl h => exact h1.run pins s σ H v u Q I r h
  | inr h => exact h2.run pins s σ H v u Q I r h
theorem g_tupG {a : Addr} {xs : List V} {n : Nat} {t : TGs} {R : L2.St → Hp → Prop} (h : SqT K H a xs) (hl : xs.length = n) (q : t xs σ H R) : gTup K n t (.ref a) σ H R := ⟨a, xs, rfl, h, hl, q⟩
theorem g_unl {a : Addr} {xs : List V} {n : Nat} {t : TGs} {R : L2.St → Hp → Prop} (h : SqL K H a xs) (hl : xs.length = n) (q : t xs σ H R) : gUnl K n t (.ref a) σ H R := ⟨a, xs, rfl, h, hl, q⟩
theorem g_consG {v : V} {vr : List V} {t : TG} {u : TGs} {R : L2.St → Hp → Prop} (q : t v σ H fun σ' H' => u vr σ' H' R) : gCons t u (v :: vr) σ H R := ⟨v, vr, rfl, q⟩
theorem g_nilG {R : L2.St → Hp → Prop} (q : R σ H) : gNil [] σ H R := ⟨rfl, q⟩
theorem g_seqG {a : Addr} {xs : List V} {n : Nat} {t : TGs} {R : L2.St → Hp → Prop} (h : Sq K H a xs) (hl : xs.length = n) (q : t xs σ H R) : (fun v σ H Q => gTup K n t v σ H Q ∨ gUnl K n t v σ H Q : TG) (.ref a) σ H R := by
  rcases h with h | h
  · exact .inr ⟨a, xs, rfl, h, hl, q⟩
  · exact .inl ⟨a, xs, rfl, h, hl, q⟩
theorem g_gcd {a b : Int} (q : Q (.int ((Nat.gcd a.natAbs b.natAbs : Nat) : Int)) H) : rGcd [.int a, .int b] H Q := ⟨a, b, rfl, q⟩
theorem g_mulU {i j : Int} (c : CMulU i j) (q : Q (.int (i * j)) H) : rMulU (.int i) (.int j) H Q := .inl ⟨i, j, rfl, rfl, c, q⟩
/-- reading a value: an int, or two ints -/
theorem posD_int {d : PyData} (h : posD d = true) : isIntD d = true ∧ 1 ≤ valD d := by
  cases d with
  | int i => exact ⟨rfl, of_decide_eq_true h⟩
  | _ => cases h
theorem Fr.cases {q : Addr} {v : V} {r : Rat} {n : Nat} (h : Fr q K H v r n) : (∃ i : Int, v = .int i ∧ Dq q K H v (.int i) ∧ r = Rat.divInt i 1 ∧ Bt n i) ∨
    ∃ a d x y, v = .ref a ∧ a ≠ q ∧ Dq q K H v d ∧ isIntD d = false ∧ isFrD d = true ∧ Sq K H a [.int x, .int y] ∧ 1 ≤ y ∧ r = Rat.divInt x y ∧ Bt n x ∧ Bt n y := by
  obtain ⟨d, h1, h2, h3, h4, h5, h6⟩ := h
  by_cases e : isSeqD d = true
  · obtain ⟨a, xs, ds, rfl, na, hs, hall, ed⟩ := h1.seq e
    by_cases e2 : ds.length = 2
    · obtain ⟨x, y, da, db, rfl, rfl, hx, hy⟩ := two_of hall (by rw [hall.len]; exact e2)
      have e3 := h2
      rw [(frD_of ed).1, Bool.and_eq_true] at e3
      obtain ⟨p1, p2⟩ := posD_int e3.2
      obtain ⟨rfl, ea⟩ := hx.int_of e3.1
      obtain ⟨rfl, eb⟩ := hy.int_of p1
      have u1 : upD d = valD da := by rcases ed with rfl | rfl <;> rfl
      have u2 : dnD d = valD db := by rcases ed with rfl | rfl <;> rfl
      have u3 : isIntD d = false := by rcases ed with rfl | rfl <;> rfl
      rw [u1] at h4
      rw [u2] at h5
      refine .inr ⟨a, d, valD da, valD db, rfl, na, h1, u3, h2, hs, p2, ?_, h4, h5⟩
      rw [← h3]
      unfold valQ
      rw [u1, u2]
    · rw [(frD_two ed e2).1] at h2
      cases h2
  · cases h1 with
    | int i => exact .inl ⟨i, rfl, .int i, h3.symm, h4⟩
    | lst _ _ _ => exact absurd rfl e
    | tup _ _ _ => exact absurd rfl e
    | _ => cases h2
end
/-! ### the promises -/
def sp_reduced (K : PySem.W.Frag) : Sp := fun vs H Q _ => ∃ (u d : Int), vs = [.int u, .int d] ∧ 1 ≤ d ∧ Bt 8000 d ∧ RetT (Rat.divInt u d) H Q
def sp_read (K : PySem.W.Frag) : Sp := fun vs H Q _ => ∃ q v part r n, vs = [v, part] ∧ Fr q K H v r n ∧ n ≤ 8000 ∧ RetT r H Q
def sp_frof (K : PySem.W.Frag) : Sp := fun vs H Q _ => ∃ q v r n, vs = [v] ∧ Fr q K H v r n ∧ n ≤ 8000 ∧ RetT r H Q
def sp_bin (f : Rat → Rat → Rat) (K : PySem.W.Frag) : Sp := fun vs H Q _ => ∃ q v1 v2 r1 r2 m n, vs = [v1, v2] ∧ Fr q K H v1 r1 m ∧ Fr q K H v2 r2 n ∧ m + n ≤ 7000 ∧ RetT (f r1 r2) H Q
def sp_divd (K : PySem.W.Frag) : Sp := fun vs H Q _ => ∃ q v1 v2 r1 r2 m n, vs = [v1, v2] ∧ Fr q K H v1 r1 m ∧ Fr q K H v2 r2 n ∧ m + n ≤ 7000 ∧ r2 ≠ 0 ∧ RetT (r1 / r2) H Q
end Mf
namespace Mf
open PySem PySem.Spec PyProof.Rows L2
/-! ### what the laws draw, and how they look -/
/-- numbers that can be shown -/
def Shw (d : PyData) : Prop := d.showable = true ∧ d.leavesShort 1921 = true
theorem shw_int {i : Int} {n : Nat} (b : Bt n i) (l : n ≤ 1900) : Shw (.int i) := by
  have h := b.show l
  refine ⟨decide_eq_true h, ?_⟩
  show decide ((PyData.shown (.int i)).length ≤ 1921) = true
  exact decide_eq_true (int_text_len_1921 h)
theorem int_w {i : Int} {n : Nat} (b : Bt n i) (l : n ≤ 1900) : (PyData.int i).weight ≤ 1921 := by
  have h := b.show l
  show (if (i == 0) = true then 0 else i.natAbs.log2 + 1) ≤ 1921
  split <;> omega
theorem shw_tup2 {a b : PyData} (h1 : Shw a) (h2 : Shw b) : Shw (.tuple [a, b]) := by
  constructor
  · show (a.showable && (b.showable && true)) = true
    rw [h1.1, h2.1] <;> rfl
  · show (a.leavesShort 1921 && (b.leavesShort 1921 && true)) = true
    rw [h1.2, h2.2] <;> rfl
theorem shw_lst2 {a b : PyData} (h1 : Shw a) (h2 : Shw b) : Shw (.list [a, b]) := by
  constructor
  · show (a.showable && (b.showable && true)) = true
    rw [h1.1, h2.1] <;> rfl
  · show (a.leavesShort 1921 && (b.leavesShort 1921 && true)) = true
    rw [h1.2, h2.2] <;> rfl
theorem Shw.len {d : PyData} (h : Shw d) (w : d.weight ≤ 8000) : d.shown.length ≤ sizeLine := by
  have := PyData.shown_le 1921 (by decide) d h.2
  have e : sizeLine = 16777216 := sizeLine_eq
  have : (1921 + 2) * d.weight ≤ (1921 + 2) * 8000 := Nat.mul_le_mul_left _ w
  omega
/-- what a fraction's data is -/
theorem fr_shape {d : PyData} (h : isFrD d = true) : (∃ i, d = .int i) ∨ ∃ x y, 1 ≤ y ∧ (d = .list [.int x, .int y] ∨ d = .tuple [.int x, .int y]) := by
  have two : ∀ a b : PyData, (isIntD a && posD b) = true → ∃ x y, 1 ≤ y ∧ a = .int x ∧ b = .int y := by
    intro a b e
    rw [Bool.and_eq_true] at e
    obtain ⟨p1, p2⟩ := posD_int e.2
    cases a with
    | int x => cases b with
      | int y => exact ⟨x, y, p2, rfl, rfl⟩
      | _ => cases p1
    | _ => cases e.1
  cases d with
  | int i => exact .inl ⟨i, rfl⟩
  | list ds =>
    match ds, h with
    | [a, b], h =>
      obtain ⟨x, y, h1, rfl, rfl⟩ := two a b h
      exact .inr ⟨x, y, h1, .inl rfl⟩
    | [], h => cases h
    | [_], h => cases h
    | _ :: _ :: _ :: _, h => cases h
  | tuple ds =>
    match ds, h with
    | [a, b], h =>
      obtain ⟨x, y, h1, rfl, rfl⟩ := two a b h
      exact .inr ⟨x, y, h1, .inr rfl⟩
    | [], h => cases h
    | [_], h => cases h
    | _ :: _ :: _ :: _, h => cases h
  | _ => cases h
theorem fr_dn {d : PyData} (h : isFrD d = true) : 1 ≤ dnD d := by
  rcases fr_shape h with ⟨i, rfl⟩ | ⟨x, y, hy, rfl | rfl⟩
  · show (1 : Int) ≤ 1; omega
  · exact hy
  · exact hy
theorem fr_shw {d : PyData} {n : Nat} (h : isFrD d = true) (b1 : Bt n (upD d)) (b2 : Bt n (dnD d)) (l : n ≤ 1900) : Shw d ∧ d.weight ≤ 3850 ∧ d.depth ≤ 5 ∧ noDct d = true ∧ d.hasDict = false ∧ d.canLay0 = true := by
  rcases fr_shape h with ⟨i, rfl⟩ | ⟨x, y, hy, rfl | rfl⟩
  · exact ⟨shw_int b1 l, Nat.le_trans (int_w b1 l) (by decide), by simp [PyData.depth], rfl, rfl, rfl⟩
  · exact ⟨shw_lst2 (shw_int b1 l) (shw_int b2 l), by have := int_w b1 l; have := int_w b2 l; simp only [upD, dnD, valD] at *; rw [PyData.weight]; simp only [PyData.weightAll]; omega, by simp [PyData.depth, PyData.depthAll], rfl, rfl, rfl⟩
  · exact ⟨shw_tup2 (shw_int b1 l) (shw_int b2 l), by have := int_w b1 l; have := int_w b2 l; simp only [upD, dnD, valD] at *; rw [PyData.weight]; simp only [PyData.weightAll]; omega, by simp [PyData.depth, PyData.depthAll], rfl, rfl, rfl⟩
section
variable {q : Addr} {K : PySem.W.Frag} {σ : L2.St} {H : Hp} {Q : VK}
theorem Fr.of {v : V} {d : PyData} {n : Nat} (h : Dq q K H v d) (f : isFrD d = true) (b1 : Bt n (upD d)) (b2 : Bt n (dnD d)) : Fr q K H v (valQ d) n := ⟨d, h, f, rfl, b1, b2, fr_dn f⟩
theorem cut_tt {t : TT} {R : Bool → Hp → Prop} {b : Bool} (h1 : ∀ R' : Bool → Hp → Prop, (∀ H', Same H H' → R' b H') → t σ H R') (h2 : ∀ H', Same H H' → R b H') : t σ H R := h1 R h2
/-- two tuples of one fraction -/
theorem g_neFF {p1 p2 : Addr} {r : Rat} (e1 : SqT K H p1 (rv r)) (e2 : SqT K H p2 (rv r)) (k : Q (.bl false) H) : rNeU K (.ref p1) (.ref p2) H Q := by
  refine .inr ⟨rd r, rd r, .tup e1 (.cons (.int _) (.cons (.int _) .nil)), .tup e2 (.cons (.int _) (.cons (.int _) .nil)), by rfl, by rfl, ?_⟩
  rw [SeqAt.eqv_refl (rd r) (by rfl)]
  exact k
/-- the text of a pair of ints, of two fractions -/
theorem g_reprT {p : Addr} {x y : Int} {n : Nat} (e : SqT K H p [.int x, .int y]) (bx : Bt n x) (by_ : Bt n y) (l : n ≤ 1900) (k : Q (.str (PyData.tuple [.int x, .int y]).shown) H) : rReprU K [.ref p] H Q :=
  g_repr (.tup e (.cons (.int _) (.cons (.int _) .nil))) (shw_tup2 (shw_int bx l) (shw_int by_ l)).1 rfl (by simp [PyData.depth, PyData.depthAll]) ((shw_tup2 (shw_int bx l) (shw_int by_ l)).len (by have := int_w bx l; have := int_w by_ l; rw [PyData.weight]; simp only [PyData.weightAll]; omega)) k
theorem g_reprFF {p : Addr} {v1 v2 : V} {d1 d2 : PyData} {n : Nat} (e : SqL K H p [v1, v2]) (h1 : Dq q K H v1 d1) (h2 : Dq q K H v2 d2) (f1 : isFrD d1 = true) (f2 : isFrD d2 = true)
    (b1 : Bt n (upD d1)) (b2 : Bt n (dnD d1)) (b3 : Bt n (upD d2)) (b4 : Bt n (dnD d2)) (l : n ≤ 1900) (k : Q (.str (PyData.list [d1, d2]).shown) H) : rReprU K [.ref p] H Q := by
  obtain ⟨s1, w1, e1, n1, g1, _⟩ := fr_shw f1 b1 b2 l
  obtain ⟨s2, w2, e2, n2, g2, _⟩ := fr_shw f2 b3 b4 l
  refine g_repr (.lst e (.cons (h1.dp n1) (.cons (h2.dp n2) .nil))) (shw_lst2 s1 s2).1 ?_ ?_ ((shw_lst2 s1 s2).len ?_) k
  · show (d1.hasDict || (d2.hasDict || false)) = false
    rw [g1, g2] <;> rfl
  · simp only [PyData.depth, PyData.depthAll]
    omega
  · rw [PyData.weight]
    simp only [PyData.weightAll]
    omega
end
theorem cross {r : Rat} {U D : Int} (hD : 1 ≤ D) (e : r = Rat.divInt U D) : r.num * D = U * r.den := by
  have h : Rat.divInt r.num r.den = Rat.divInt U D := by rw [Rat.num_divInt_den]; exact e
  exact (Rat.divInt_eq_divInt_iff (by have := den1 r; omega) (by omega)).mp h
theorem div_cross {a b c d : Int} : Rat.divInt a b / Rat.divInt c d = Rat.divInt (a * d * (if 0 < c then 1 else -1)) ((if c < 0 then -c else c) * b) ∨ c = 0 := by
  by_cases hc : c = 0
  · exact .inr hc
  · refine .inl ?_
    rw [Rat.div_def, Rat.inv_divInt, Rat.divInt_mul_divInt]
    by_cases h : 0 < c
    · rw [if_pos h, if_neg (by omega), Int.mul_one, Int.mul_comm b c]
    · rw [if_neg h, if_pos (by omega), Int.mul_neg, Int.mul_one, Int.neg_mul, Rat.neg_divInt_neg, Int.mul_comm b c]
theorem valQ_ne {d : PyData} (h : isFrD d = true) (hc : upD d ≠ 0) : valQ d ≠ 0 := by
  intro e
  have h1 := fr_dn h
  have e2 : Rat.divInt (upD d) (dnD d) = Rat.divInt 0 1 := by
    rw [Rat.zero_divInt]
    exact e
  have := (Rat.divInt_eq_divInt_iff (by omega) (by decide)).mp e2
  omega
theorem coprime_r (r : Rat) : Nat.gcd r.num.natAbs ((r.den : Int)).natAbs = 1 := by
  rw [Int.natAbs_natCast]
  exact r.reduced
/-- a drawn fraction; a pair; the law's own look at a fraction -/
def sp_lfrac (K : PySem.W.Frag) : Sp := fun vs H Q _ => ∃ (q : Addr) (t m : Int), vs = [.ref q, .int m] ∧ Qy K q t H ∧ t ≤ 999990 ∧ 1 ≤ m ∧ m ≤ 10000000000000000000000000000000000000000 ∧
  ∀ t' H' v d, SameX q H H' → Qy K q t' H' → t ≤ t' → t' ≤ t + 4 → Dq q K H' v d → isFrD d = true → Bt 140 (upD d) → Bt 140 (dnD d) → Q v H'
def sp_lpair (K : PySem.W.Frag) : Sp := fun vs H Q _ => ∃ (q : Addr) (v : V) (d : PyData), vs = [v] ∧ Dq q K H v d ∧ isFrD d = true ∧
  ∀ p H', Same H H' → H p = none → H' p = some (.tup [.int (upD d), .int (dnD d)]) → Q (.ref p) H'
def sp_lis (K : PySem.W.Frag) : Sp := fun vs H Q _ => ∃ (p : Addr) (U D : Int) (r : Rat) (n : Nat), vs = [.ref p, .int U, .int D] ∧ SqT K H p (rv r) ∧ 1 ≤ D ∧ r = Rat.divInt U D ∧ Rb n r ∧ Bt n U ∧ Bt n D ∧ n ≤ 1900 ∧ ∀ H', Same H H' → Q (.bl true) H'
theorem fr_pair {x y : Int} {n : Nat} (hy : 1 ≤ y) (bx : Bt n x) (b : Bt n y) : (isFrD (.tuple [.int x, .int y]) = true ∧ Bt n (upD (.tuple [.int x, .int y])) ∧ Bt n (dnD (.tuple [.int x, .int y]))) ∧
    (isFrD (.list [.int x, .int y]) = true ∧ Bt n (upD (.list [.int x, .int y])) ∧ Bt n (dnD (.list [.int x, .int y]))) := by
  have e : (true && decide (1 ≤ y)) = true := by rw [Bool.true_and]; exact decide_eq_true hy
  exact ⟨⟨e, bx, b⟩, ⟨e, bx, b⟩⟩
end Mf
namespace Mf
open PySem PySem.Spec PyProof.Rows L2
/-! ### drawn fractions by their addresses -/
/-- v tells x / y; where it is an object, its address is not among ex -/
def Fz (ex : Addr → Prop) (H : Hp) (v : V) (x y : Int) : Prop := (v = .int x ∧ y = 1) ∨ ∃ a, v = .ref a ∧ ¬ ex a ∧ (H a = some (.tup [.int x, .int y]) ∨ H a = some (.lst [.int x, .int y]))
theorem Fz.go {ex ex' : Addr → Prop} {H H' : Hp} {v : V} {x y : Int} (h : Fz ex H v x y) (s : ∀ b o, ¬ ex b → H b = some o → H' b = some o ∧ ¬ ex' b) : Fz ex' H' v x y := by
  rcases h with h | ⟨a, rfl, n, e⟩
  · exact .inl h
  · refine .inr ⟨a, rfl, ?_, ?_⟩
    · rcases e with e | e
      · exact (s _ _ n e).2
      · exact (s _ _ n e).2
    · rcases e with e | e
      · exact .inl (s _ _ n e).1
      · exact .inr (s _ _ n e).1
/-- the data -/
theorem Fz.dq {ex : Addr → Prop} {H : Hp} {v : V} {x y : Int} {q : Addr} {K : PySem.W.Frag} {n : Nat} (h : Fz ex H v x y) (hq : ex q) (hy : 1 ≤ y) (bx : Bt n x) (b : Bt n y) :
    ∃ d, Dq q K H v d ∧ isFrD d = true ∧ upD d = x ∧ dnD d = y := by
  rcases h with ⟨rfl, rfl⟩ | ⟨a, rfl, na, e | e⟩
  · exact ⟨.int x, .int x, rfl, rfl, rfl⟩
  · have na' : a ≠ q := fun z => na (z ▸ hq)
    exact ⟨.tuple [.int x, .int y], .tup na' (tupU e) (.cons (.int _) (.cons (.int _) .nil)), (fr_pair hy bx b).1.1, rfl, rfl⟩
  · have na' : a ≠ q := fun z => na (z ▸ hq)
    exact ⟨.list [.int x, .int y], .lst na' (seqU e) (.cons (.int _) (.cons (.int _) .nil)), (fr_pair hy bx b).2.1, rfl, rfl⟩
def sp_lfz (K : PySem.W.Frag) : Sp := fun vs H Q _ => ∃ (q : Addr) (t m : Int), vs = [.ref q, .int m] ∧ Qy K q t H ∧ t ≤ 999990 ∧ 1 ≤ m ∧ m ≤ 10000000000000000000000000000000000000000 ∧
  ∀ t' H' v x y, SameX q H H' → Qy K q t' H' → t ≤ t' → t' ≤ t + 4 → Fz (fun a => H a ≠ none) H' v x y → 1 ≤ y → Bt 140 x → Bt 140 y → Q v H'
/-- several -/
structure Fq where
  x : Int
  y : Int
  pos : 1 ≤ y
  bx : Bt 140 x
  by_ : Bt 140 y
inductive FzAll (ex : Addr → Prop) (H : Hp) : List V → List Fq → Prop
  | nil : FzAll ex H [] []
  | cons {v : V} {vs : List V} {f : Fq} {fs : List Fq} : Fz ex H v f.x f.y → FzAll ex H vs fs → FzAll ex H (v :: vs) (f :: fs)
theorem FzAll.go {ex ex' : Addr → Prop} {H H' : Hp} (s : ∀ b o, ¬ ex b → H b = some o → H' b = some o ∧ ¬ ex' b) : ∀ {vs : List V} {fs : List Fq}, FzAll ex H vs fs → FzAll ex' H' vs fs
  | _, _, .nil => .nil
  | _, _, .cons h t => .cons (h.go s) (FzAll.go s t)
theorem FzAll.app {ex : Addr → Prop} {H : Hp} {v : V} {f : Fq} (h : Fz ex H v f.x f.y) : ∀ {vs : List V} {fs : List Fq}, FzAll ex H vs fs → FzAll ex H (vs ++ [v]) (fs ++ [f])
  | _, _, .nil => .cons h .nil
  | _, _, .cons g t => .cons g (FzAll.app h t)
theorem FzAll.len {ex : Addr → Prop} {H : Hp} : ∀ {vs : List V} {fs : List Fq}, FzAll ex H vs fs → vs.length = fs.length
  | _, _, .nil => rfl
  | _, _, .cons _ t => congrArg Nat.succ (FzAll.len t)
def Fq.q (f : Fq) : Rat := Rat.divInt f.x f.y
theorem FzAll.dq {ex : Addr → Prop} {H : Hp} {q : Addr} {K : PySem.W.Frag} (hq : ex q) : ∀ {vs : List V} {fs : List Fq}, FzAll ex H vs fs →
    ∃ ds, DqAll q K H vs ds ∧ (∀ d ∈ ds, isFrD d = true ∧ Bt 140 (upD d) ∧ Bt 140 (dnD d)) ∧ ds.map valQ = fs.map Fq.q
  | _, _, .nil => ⟨[], .nil, fun _ h => absurd h List.not_mem_nil, rfl⟩
  | _, _, .cons (f := f) h t => by
    obtain ⟨ds, h1, h2, h3⟩ := FzAll.dq (K := K) hq t
    obtain ⟨d, k1, k2, k3, k4⟩ := h.dq (K := K) hq f.pos f.bx f.by_
    refine ⟨d :: ds, .cons k1 h1, ?_, ?_⟩
    · intro e he
      rcases List.mem_cons.mp he with rfl | he
      · exact ⟨k2, by rw [k3]; exact f.bx, by rw [k4]; exact f.by_⟩
      · exact h2 e he
    · rw [List.map_cons, List.map_cons, h3]
      show valQ d :: _ = f.q :: _
      unfold valQ Fq.q
      rw [k3, k4]
/-! ### sums -/
def sumQ (rs : List Rat) : Rat := rs.foldl (· + ·) 0
theorem sumQ_snoc (rs : List Rat) (r : Rat) : sumQ (rs ++ [r]) = sumQ rs + r := by
  unfold sumQ
  rw [List.foldl_append]
  rfl
theorem Rb_fold : ∀ (rs : List Rat) (r0 : Rat) (m : Nat), Rb m r0 → (∀ r ∈ rs, Rb 140 r) → Rb (m + 141 * rs.length) (rs.foldl (· + ·) r0)
  | [], r0, m, h0, _ => h0
  | r :: rs, r0, m, h0, h => by
    have h1 := Rb_fold rs (r0 + r) (m + 140 + 1) (h0.add (h r List.mem_cons_self)) fun e he => h e (List.mem_cons_of_mem _ he)
    exact h1.mono (by rw [List.length_cons]; omega)
theorem Rb0 : Rb 1 0 := ⟨by show (0 : Int).natAbs < _; decide, by show ((1 : Nat) : Int).natAbs < _; decide⟩
theorem Rb_sum (rs : List Rat) (h : ∀ r ∈ rs, Rb 140 r) : Rb (1 + 141 * rs.length) (sumQ rs) := Rb_fold rs 0 1 Rb0 h
/-- the sum of a list or tuple of fractions -/
def sp_sum (K : PySem.W.Frag) : Sp := fun vs H Q _ => ∃ (q p : Addr) (xs : List V) (ds : List PyData), vs = [.ref p] ∧ H q ≠ none ∧ p ≠ q ∧ Sq K H p xs ∧ DqAll q K H xs ds ∧ (∀ d ∈ ds, isFrD d = true ∧ Bt 140 (upD d) ∧ Bt 140 (dnD d)) ∧ ds.length ≤ 9 ∧ RetT (sumQ (ds.map valQ)) H Q
def sp_mixd (K : PySem.W.Frag) : Sp := fun vs H Q _ => ∃ q v1 v2 v3 r1 r2 r3, vs = [v1, v2, v3] ∧ H q ≠ none ∧ Fr q K H v1 r1 500 ∧ Fr q K H v2 r2 500 ∧ Fr q K H v3 r3 500 ∧ RetT ((1 - r3) * r1 + r3 * r2) H Q
def sgn (n : Int) : Int := if n < 0 then -1 else if 0 < n then 1 else 0
def sp_sign (K : PySem.W.Frag) : Sp := fun vs H Q _ => ∃ q v r n, vs = [v] ∧ Fr q K H v r n ∧ n ≤ 8000 ∧ ∀ H', Same H H' → Q (.int (sgn r.num)) H'
theorem sgn_div {x y : Int} (hy : 1 ≤ y) : sgn (Rat.divInt x y).num = sgn x := by
  have h1 := cross hy rfl (r := Rat.divInt x y) (U := x)
  have h2 := den1 (Rat.divInt x y)
  generalize (Rat.divInt x y).num = n at *
  generalize ((Rat.divInt x y).den : Int) = d at *
  unfold sgn
  by_cases a : n < 0
  · have : n * y < 0 := Int.mul_neg_of_neg_of_pos a (by omega)
    have : x < 0 := by
      by_cases z : x < 0
      · exact z
      · have := Int.mul_nonneg (show 0 ≤ x by omega) (show 0 ≤ d by omega)
        omega
    rw [if_pos a, if_pos this]
  · rw [if_neg a]
    by_cases b : 0 < n
    · have : 0 < n * y := Int.mul_pos b (by omega)
      have : 0 < x := by
        by_cases z : 0 < x
        · exact z
        · have := Int.mul_nonneg (show 0 ≤ -x by omega) (show 0 ≤ d by omega)
          rw [Int.neg_mul] at this
          omega
      rw [if_pos b, if_neg (by omega), if_pos this]
    · have e : n = 0 := by omega
      rw [e, Int.zero_mul] at h1
      have : x = 0 := by
        rcases Int.mul_eq_zero.mp h1.symm with z | z
        · exact z
        · omega
      rw [if_neg b, this]
      decide
section
variable {K : PySem.W.Frag} {σ : L2.St} {H : Hp} {Q : VK}
/-- for over a list or a tuple that stands in a slot -/
theorem g_forS {i0 j : Nat} {a : Addr} {xs : List V} {tb : TS} {D : Ends} (e : σ[i0]? = some (some (.ref a))) (hs : Sq K H a xs) (Pv : Nat → L2.St → Hp → Prop) (h0 : Pv 0 σ H) (hx : ∀ i σ' H', Pv i σ' H' → Same H H')
    (hb : ∀ i x σ' H', xs[i]? = some x → Pv i σ' H' → tb ⟨Pv (i + 1), D.rt, D.nx, Pv (i + 1)⟩ (σ'.set j (some x)) H') (hd : ∀ σ' H', Pv xs.length σ' H' → D.nx σ' H') :
    tFor (fun σ H R => iList K (tVar i0) σ H R ∨ iTup K (tVar i0) σ H R) (gName j) tb D σ H := by
  rcases hs with hs | hs
  · exact .inl ⟨.ref a, e, a, rfl, ⟨xs, hs⟩, for_list (xs := xs) Pv h0 (fun i σ' H' _ p => (hx i σ' H' p).seq hs) (fun i x σ' H' ex p => hb i x σ' H' ex p) hd⟩
  · exact .inr ⟨.ref a, e, a, rfl, ⟨xs, hs⟩, for_tup (xs := xs) Pv h0 (fun i σ' H' _ p => (Same.x (q := a + 1) (hx i σ' H' p)).tup (Nat.ne_of_lt (Nat.lt_succ_self a)) hs) (fun i x σ' H' ex p => hb i x σ' H' ex p) hd⟩
theorem g_forL {i0 j : Nat} {a : Addr} {xs : List V} {tb : TS} {D : Ends} (e : σ[i0]? = some (some (.ref a))) (hs : SqL K H a xs) (Pv : Nat → L2.St → Hp → Prop) (h0 : Pv 0 σ H) (hx : ∀ i σ' H', Pv i σ' H' → Same H H')
    (hb : ∀ i x σ' H', xs[i]? = some x → Pv i σ' H' → tb ⟨Pv (i + 1), D.rt, D.nx, Pv (i + 1)⟩ (σ'.set j (some x)) H') (hd : ∀ σ' H', Pv xs.length σ' H' → D.nx σ' H') :
    tFor (iList K (tVar i0)) (gName j) tb D σ H :=
  ⟨.ref a, e, a, rfl, ⟨xs, hs⟩, for_list (xs := xs) Pv h0 (fun i σ' H' _ p => (hx i σ' H' p).seq hs) (fun i x σ' H' ex p => hb i x σ' H' ex p) hd⟩
theorem g_yes {R : Bool → Hp → Prop} (q : R true H) : tYes σ H R := q
theorem ne_trk {q p : Addr} (h : H q ≠ none) (e : H p = none) : p ≠ q := fun z => h (z ▸ e)
theorem Same.trk {H' : Hp} {q : Addr} (s : Same H H') (h : H q ≠ none) : H' q ≠ none := by
  cases e : H q with
  | none => exact absurd e h
  | some o =>
    rw [s _ _ e]
    exact Option.some_ne_none _
theorem fresh_x {q p : Addr} {Hz : Hp} (sx : SameX q H Hz) (hq : ∃ o, Hz q = some o) (h : Hz p = none) : ¬ (H p ≠ none) := by
  intro z
  obtain ⟨oq, hq⟩ := hq
  have npq : p ≠ q := by
    intro e
    rw [e, hq] at h
    cases h
  cases e : H p with
  | none => exact z e
  | some o =>
    rw [sx _ _ npq e] at h
    cases h
theorem DqAll.get {q : Addr} : ∀ {xs : List V} {ds : List PyData} {i : Nat} {x : V}, DqAll q K H xs ds → xs[i]? = some x → ∃ d, ds[i]? = some d ∧ Dq q K H x d
  | _, _, _, _, .nil, e => by simp at e
  | _, _, 0, x, .cons h _, e => by
    cases e
    exact ⟨_, rfl, h⟩
  | _, _, i + 1, x, .cons _ t, e => by
    obtain ⟨d, h1, h2⟩ := DqAll.get (i := i) (x := x) t (by simpa using e)
    exact ⟨d, by simpa using h1, h2⟩
theorem all_rep (n : Nat) : (List.replicate n true).all id = true := by
  induction n with
  | zero => rfl
  | succ n ih => rw [List.replicate_succ, List.all_cons, ih] <;> rfl
theorem take_snoc {α : Type} {l : List α} {i : Nat} {x : α} (h : l[i]? = some x) : l.take (i + 1) = l.take i ++ [x] := by
  rw [List.take_add_one, h]
  rfl
theorem mix_cross {A B C D E F : Int} (hB : 1 ≤ B) (hD : 1 ≤ D) (hF : 1 ≤ F) : (1 - Rat.divInt E F) * Rat.divInt A B + Rat.divInt E F * Rat.divInt C D = Rat.divInt ((F - E) * A * D + E * C * B) (F * B * D) := by
  have e1 : (1 : Rat) = Rat.divInt F F := (Rat.divInt_self' (by omega)).symm
  have n1 : F * F * B ≠ 0 := Int.mul_ne_zero (Int.mul_ne_zero (by omega) (by omega)) (by omega)
  have n2 : F * D ≠ 0 := Int.mul_ne_zero (by omega) (by omega)
  have n3 : F * B * D ≠ 0 := Int.mul_ne_zero (Int.mul_ne_zero (by omega) (by omega)) (by omega)
  rw [e1, Rat.divInt_sub_divInt _ _ (by omega) (by omega), Rat.divInt_mul_divInt, Rat.divInt_mul_divInt, Rat.divInt_add_divInt _ _ n1 n2, Rat.divInt_eq_divInt_iff (Int.mul_ne_zero n1 n2) n3]
  grind
theorem sgn_eq (n : Int) : (if decide (0 < n) = true then (1 : Int) else 0) - (if decide (n < 0) = true then 1 else 0) = sgn n := by
  unfold sgn
  by_cases a : n < 0
  · rw [if_pos a, decide_eq_true a, decide_eq_false (by omega)]
    rfl
  · rw [if_neg a, decide_eq_false a]
    by_cases b : 0 < n
    · rw [if_pos b, decide_eq_true b]
      rfl
    · rw [if_neg b, decide_eq_false b]
      rfl
theorem sgn_b (n : Int) : Bt 2 (sgn n) := by
  unfold sgn
  split
  · show (-1 : Int).natAbs < 2 ^ 2; decide
  · split
    · show (1 : Int).natAbs < 2 ^ 2; decide
    · show (0 : Int).natAbs < 2 ^ 2; decide
theorem Qy.trk {t : Int} {q : Addr} (h : Qy K q t H) : H q ≠ none := by
  obtain ⟨o, e⟩ := h.at
  rw [e]
  exact Option.some_ne_none _
theorem one1 : Rat.divInt 1 1 = 1 := Rat.divInt_self' (by decide)
theorem zero1 : Rat.divInt 0 1 = 0 := Rat.zero_divInt 1
theorem cut_lc {te : TE} (P : Hp → Addr → Prop) (h1 : ∀ Q' : VK, (∀ H1 D, Same H H1 → P H1 D → Q' (.ref D) H1) → te σ H Q') (h2 : ∀ H1 D, Same H H1 → P H1 D → Q (.ref D) H1) : te σ H Q := h1 Q h2
theorem g_all {a : Addr} {bs : List Bool} (h : SqL K H a (bs.map V.bl)) (q : Q (.bl (bs.all id)) H) : rAll K [.ref a] H Q := ⟨a, bs, rfl, h, q⟩
theorem g_thenT {te : TE} (q : te σ H fun x H1 => kTup K x H1 Q) : tThen te (kTup K) σ H Q := q
theorem g_tupOf {a : Addr} {xs : List V} (h : SqL K H a xs) (q : ∀ p H2, H p = none → Same H H2 → H2 p = some (.tup xs) → Q (.ref p) H2) : kTup K (.ref a) H Q :=
  .inl ⟨a, xs, rfl, h, fun p hp => q p _ hp (same_new hp) upd_same⟩
theorem g_reprII {p : Addr} {x y : Int} {n : Nat} (e : SqL K H p [.int x, .int y]) (bx : Bt n x) (by_ : Bt n y) (l : n ≤ 1900) (k : Q (.str (PyData.list [.int x, .int y]).shown) H) : rReprU K [.ref p] H Q :=
  g_repr (.lst e (.cons (.int _) (.cons (.int _) .nil))) (shw_lst2 (shw_int bx l) (shw_int by_ l)).1 rfl (by simp [PyData.depth, PyData.depthAll]) ((shw_lst2 (shw_int bx l) (shw_int by_ l)).len (by have := int_w bx l; have := int_w by_ l; rw [PyData.weight]; simp only [PyData.weightAll]; omega)) k
end
end Mf
namespace Mf
open PySem PySem.Spec PyProof.Rows L2
theorem Rb1 : Rb 1 1 := ⟨by show (1 : Int).natAbs < 2 ^ 1; decide, by show ((1 : Nat) : Int).natAbs < 2 ^ 1; decide⟩
theorem Rb.mix {n1 n2 n3 : Nat} {r1 r2 r3 : Rat} (h1 : Rb n1 r1) (h2 : Rb n2 r2) (h3 : Rb n3 r3) : Rb (n1 + n2 + 2 * n3 + 3) ((1 - r3) * r1 + r3 * r2) :=
  (((Rb1.sub h3).mul h1).add (h3.mul h2)).mono (by omega)
section
variable {q : Addr} {K : PySem.W.Frag} {σ : L2.St} {H : Hp} {Q : VK}
theorem fr0 : Fr q K H (.int 0) 0 1 := by
  have z := Fr.int (q := q) (K := K) (H := H) (i := 0) (n := 1) (by show (0 : Int).natAbs < 2 ^ 1; decide) (by decide)
  rw [zero1] at z
  exact z
theorem fr1 : Fr q K H (.int 1) 1 1 := by
  have z := Fr.int (q := q) (K := K) (H := H) (i := 1) (n := 1) (by show (1 : Int).natAbs < 2 ^ 1; decide) (by decide)
  rw [one1] at z
  exact z
theorem Fr.pair {p : Addr} {x y : Int} {n : Nat} (h : SqT K H p [.int x, .int y]) (np : p ≠ q) (hy : 1 ≤ y) (bx : Bt n x) (b : Bt n y) : Fr q K H (.ref p) (Rat.divInt x y) n :=
  ⟨.tuple [.int x, .int y], .tup np h (.cons (.int _) (.cons (.int _) .nil)), (fr_pair hy bx b).1.1, rfl, bx, b, hy⟩
theorem g_neFFe {p1 p2 : Addr} {r s : Rat} (e : r = s) (e1 : SqT K H p1 (rv r)) (e2 : SqT K H p2 (rv s)) (k : Q (.bl false) H) : rNeU K (.ref p1) (.ref p2) H Q := by
  subst e
  exact g_neFF e1 e2 k
end
theorem sgn_neg (n : Int) : sgn (-n) = -sgn n := by
  unfold sgn
  by_cases a : n < 0
  · rw [if_pos a, if_neg (by omega), if_pos (by omega)] <;> rfl
  · rw [if_neg a]
    by_cases b : 0 < n
    · rw [if_pos b, if_pos (by omega)]
    · rw [if_neg b, if_neg (by omega), if_neg (by omega)] <;> rfl
theorem sgn_mul (m n : Int) : sgn (m * n) = sgn m * sgn n := by
  rcases Int.lt_trichotomy m 0 with a | a | a
  · rcases Int.lt_trichotomy n 0 with b | b | b
    · have := Int.mul_pos_of_neg_of_neg a b
      unfold sgn
      rw [if_neg (by omega), if_pos this, if_pos a, if_pos b]
      rfl
    · subst b
      rw [Int.mul_zero, show sgn 0 = 0 from rfl, Int.mul_zero]
    · have := Int.mul_neg_of_neg_of_pos a b
      unfold sgn
      rw [if_pos this, if_pos a, if_neg (by omega), if_pos b]
      rfl
  · subst a
    rw [Int.zero_mul, show sgn 0 = 0 from rfl, Int.zero_mul]
  · rcases Int.lt_trichotomy n 0 with b | b | b
    · have := Int.mul_neg_of_pos_of_neg a b
      unfold sgn
      rw [if_pos this, if_neg (by omega), if_pos a, if_pos b]
      rfl
    · subst b
      rw [Int.mul_zero, show sgn 0 = 0 from rfl, Int.mul_zero]
    · have := Int.mul_pos a b
      unfold sgn
      rw [if_neg (by omega), if_pos this, if_neg (by omega), if_pos a, if_neg (by omega), if_pos b]
      rfl
theorem sgn_sub (r s : Rat) : sgn (r - s).num = -sgn (s - r).num := by
  have e : r - s = -(s - r) := (Rat.neg_sub s r).symm
  rw [e, Rat.neg_num, sgn_neg]
theorem sgn_rmul (r s : Rat) : sgn (r * s).num = sgn r.num * sgn s.num := by
  rw [← mul_div, sgn_div (dd1 r s), sgn_mul]
theorem ne0_of_sgn {r : Rat} (h : sgn r.num ≠ 0) : r ≠ 0 := by
  intro e
  rw [e] at h
  exact h rfl
theorem half1 : Rat.divInt 1 2 = 1 / 2 := by rw [Rat.divInt_eq_div] <;> rfl
theorem quart1 : Rat.divInt 1 4 = 1 / 4 := by rw [Rat.divInt_eq_div] <;> rfl
example : [V.int 0, V.int 1] = rv 0 := rfl
example : [V.int 1, V.int 1] = rv 1 := rfl
end Mf
/-! own errors as values: made by place and by name, a field read, isinstance -/
namespace Mf
open PySem PySem.Spec PySem.Calls PyProof.Rows
section
open PySem.W
variable {prog : Program} {w : World} {A : Around} {E : Value → Shared → Prop} {s : Shared} {K : Frag} {x D : Addr} {ox : Obj} {od : Option Obj}
theorem findObj_dataO {C : Addr} {name : Str} {a g : Value} (hc : (clsIn K C).isSome = true) (ha : findIn K (.ref C) name = some (some a)) (hg : specialIn K a "__get__" = some (some g)) (ht : takesIn K a = some true) : findObj K C od name = some (.bind g a) := by
  obtain ⟨cd, hc⟩ := Option.isSome_iff_exists.mp hc
  unfold findObj
  rw [hc, Option.bind_some, ha, Option.bind_some]
  simp [hg, ht]
theorem kin_classO {Q : Option Value → Shared → Prop} (hga : findIn K (.ref D) "__getattribute__" = some (some (.builtin "BaseException.__getattribute__"))) (hgt : findIn K (.ref D) "__getattr__" = some none) (hsub : subIn K (.ref D) (.type "BaseException") = some true)
    (hdct : hasDictIn K D = true) (ha : findIn K (.ref D) "__class__" = some (some (.builtin "object.__class__")))
    (hn : specialIn K (.builtin "object.__class__") "__get__" = some (some (.builtin "getset_descriptor.__get__"))) (htk : takesIn K (.builtin "object.__class__") = some true) (hm : mroIn K D (.type "object") = some true)
    (X : K.In s.heap) (I : InstAt s.heap x ox D od) (h : Q (some (.ref D)) { s with toks := s.toks + 1 }) : wpAny (model prog w) A (getAttr? (.ref x) "__class__") Q E s := by
  have hf : findObj K D od "__class__" = some (.bind (.builtin "getset_descriptor.__get__") (.builtin "object.__class__")) := findObj_dataO (by obtain ⟨cd, hc, _⟩ := any_some hdct; rw [hc]; rfl) ha hn htk
  obtain ⟨hp, g, d, t, os⟩ := s
  have L0 := I.type (M := model prog w)
  have L1 := looks_findIn (M := model prog w) X hga
  have L2 := looks_findIn (M := model prog w) X hgt
  have L3 := looks_find (M := model prog w) X I hf
  have sub : Looks (model prog w) hp (isInstance (.ref x) (.type "BaseException")) true := L0.andThen (looks_subIn X hsub)
  have hx0 : (false && onTheHeap (Value.builtin "BaseException.__getattribute__")) = false := rfl
  have hx2 : (Value.builtin "BaseException.__getattribute__" == Value.builtin "object.__getattribute__") = false := by decide +kernel
  have hx1 : (onTheHeap (Value.ref D) && Value.builtin "BaseException.__getattribute__" == Value.builtin "object.__getattribute__") = false := by rw [hx2]; rfl
  unfold getAttr? getAttrBy? getAttrBy
  refine wpAny_bind (wpAny_mkText (wpAny_bind (wpAny_attempt (wpAny_holding (wpAny_bind (L0.at (wpAny_bind (L1.at ?_))))))))
  show wpAny _ _ (if (onTheHeap (Value.ref D) && Value.builtin "BaseException.__getattribute__" == Value.builtin "object.__getattribute__") = true then _ else _) _ _ _
  rw [hx1, if_neg Bool.false_ne_true]
  unfold getAttrByItsOwn hookBefore
  refine wpAny_bind ?_
  rw [if_pos (show onTheHeap (Value.ref D) = true from rfl)]
  refine L2.at ?_
  refine wpAny_bind (wpAny_attempt (wpAny_holding ?_))
  unfold callGetattribute
  rw [hx0, if_neg Bool.false_ne_true]
  unfold boundAndCalled
  rw [PySem.F.excAttr_ValueError.ga.bind (.ref x)]
  refine wpAny_bind (wpAny_pure ?_)
  show wpAny _ _ (call (.builtin "BaseException.__getattribute__") [.ref x, .str "__class__" t]) _ _ _
  refine wpAny_call (codeAny_call_builtin PySem.F.excAttr_ValueError.ga.plain PySem.F.entry_bexc_ga ?_)
  refine @check_slot (model prog w) _ _ ⟨hp, g, d, t + 1, os⟩ "BaseException.__getattribute__" "BaseException" "__getattribute__" (.ref x) [.str "__class__" t] [] _ (by decide +kernel) (by decide +kernel) sub (PySem.F.args_bexc_ga (.ref x) (.str "__class__" t)) ?_
  unfold Builtin.«object.__getattribute__»
  refine wpAny_bind (wpAny_of_eq (a := ((Value.ref x : Value), [Value.str "__class__" t])) (by first | rfl | (simp only [slotArgs]; rfl)) ?_)
  refine wpAny_bind (wpAny_pure (wpAny_bind (L0.at (wpAny_bind (L3.at ?_)))))
  show wpAny _ _ (holding [Value.builtin "object.__class__"] (call (.builtin "getset_descriptor.__get__") [.builtin "object.__class__", .ref x, .ref D]) >>= ret) _ _ _
  refine wpAny_bind (wpAny_holding (wpAny_call (class_get (s := ⟨hp, g, d, t + 1, os⟩) (ox := ox) (od := od) X I hm ?_)))
  refine wpAny_pure ?_
  show wpAny _ _ (handedOut (.ref D)) _ _ _
  rw [handedOut_of (v := .ref D) rfl]
  first
    | exact wpAny_pure (wpAny_pure h)
    | exact wpAny_pure h
    | exact wpAny_pure (wpAny_bind (wpAny_pure (wpAny_pure h)))
theorem kitx_excO (hga : findIn K (.ref D) "__getattribute__" = some (some (.builtin "BaseException.__getattribute__"))) (hgt : findIn K (.ref D) "__getattr__" = some none) (hsub : subIn K (.ref D) (.type "BaseException") = some true) (hdct : hasDictIn K D = true) (ha : findIn K (.ref D) "__class__" = some (some (.builtin "object.__class__")))
    (hn : specialIn K (.builtin "object.__class__") "__get__" = some (some (.builtin "getset_descriptor.__get__"))) (htk : takesIn K (.builtin "object.__class__") = some true) (hm : mroIn K D (.type "object") = some true) :
    KitX K (.ref x) (.ref D) (fun h => InstAt h x ox D od) where
  ty := fun _ _ _ I => I.type
  it := fun _ _ X _ => by
    obtain ⟨cdD, hcD, _⟩ := any_some hdct
    unfold clsIn at hcD
    split at hcD
    · rename_i c' d' cd' sl' ho
      intro A' Q' E' s' k q
      unfold isType loadHead
      exact wpAny_bind (wpAny_loadPart (k _ _ (X _ _ ho)) (wpAny_pure q))
    · cases hcD
  ne := fun h tp dd its n sl X htp => by
    obtain ⟨cdD, hcD, _⟩ := any_some hdct
    refine Bool.eq_false_iff.mpr fun q => ?_
    have e : D = tp := Value.ref.inj (beq_iff_eq.mp q)
    subst e
    unfold clsIn at hcD
    split at hcD
    · rename_i c' d' cd' sl' ho
      have z := (X _ _ ho).symm.trans htp
      cases z
    · cases hcD
  ca := fun X I k => kin_classO hga hgt hsub hdct ha hn htk hm X I k
end
open L2
/-- what the written part says of an own error's class -/
structure Erc (K : PySem.W.Frag) (C : Addr) : Prop where
  o : OexC K C
  c : ExcC K C
/-- an error that was made: its fields -/
def Er (H : Hp) (a C : Addr) (fs : List (Str × V)) : Prop := ∃ d, d ≠ a ∧ H a = some (exo a C (some d)) ∧ H d = some (exd d fs)
section
variable {X : Cx} {pins : List (Addr × Obj)} {σ : L2.St} {H : Hp} {s : Shared} {a C : Addr} {fs : List (Str × V)}
theorem Er.inst {P : Program} {w : World} {h : Heap} (e : Er H a C fs) (hok : HOk P w H h) : ∃ (oe od : Obj) (mA : Str → Option Value), PySem.W.InstAt h a oe C (some od) ∧ (∀ y, PySem.W.lookIn y od = some (mA y)) ∧ ∀ f, RelO (fs.lookup f) (mA f) := by
  obtain ⟨d, _, ea, ed⟩ := e
  obtain ⟨t1, ho⟩ := exo_at hok ea
  obtain ⟨mA, hns, rel⟩ := exd_at hok ed
  obtain ⟨od, hod, hl⟩ := lookIn_ns hns
  exact ⟨_, od, mA, ⟨ho, rfl, rfl, hod⟩, hl, rel⟩
/-- isinstance(e, T) -/
def rIsX (K : PySem.W.Frag) : List V → Hp → VK → Prop := fun xs H Q => ∃ (a C : Addr) (fs : List (Str × V)) (c : V) (u : Value) (b : Bool), xs = [.ref a, c] ∧ ClsV c u ∧ Erc K C ∧ Er H a C fs ∧ PySem.W.kitOne K (.ref C) u = some b ∧ Q (.bl b) H
/-- isinstance(e, (T, ..)) -/
def rIsXT (K : PySem.W.Frag) : List V → Hp → VK → Prop := fun xs H Q => ∃ (a C : Addr) (fs : List (Str × V)) (tp : Addr) (cs : List V) (us : List Value) (b : Bool), xs = [.ref a, .ref tp] ∧ H tp = some (.tup cs) ∧ Paired ClsV cs us ∧ Erc K C ∧ Er H a C fs ∧ PySem.W.kitAny K (.ref C) us = some b ∧ Q (.bl b) H
theorem call_isX : CallR X (.builtin "isinstance") (rIsX X.K) := by
  intro pins s σ H xs us Q I r h
  obtain ⟨a, C, fs, c, u, b, rfl, k, T, e, z, q⟩ := h
  obtain ⟨u1, u2, rfl, r1, r2⟩ := vals2 r
  have e2 := k.eq r2
  subst e2
  obtain rfl : u1 = Value.ref a := r1
  obtain ⟨oe, od, mA, J, _⟩ := e.inst I.hok
  exact PySem.W.kia_one (kitx_excO T.c.hg T.c.hk T.c.hs T.c.hd T.c.ha T.c.hn T.c.ht T.c.hm) I.kIn J z (fun z => nomatch z) fun tk => ⟨.bl b, H, I.tok tk, rfl, q⟩
/-- e.f -/
def tXat (K : PySem.W.Frag) (f : Str) (te : TE) : TE := fun σ H Q => te σ H fun x H1 => ∃ (a C : Addr) (fs : List (Str × V)) (v : V), x = .ref a ∧ Erc K C ∧ PySem.W.findIn K (.ref C) f = some none ∧ Er H1 a C fs ∧ fs.lookup f = some v ∧ Q v H1
theorem pe_xat {e : Expr} {f : Str} {te : TE} {pos : Pos} (he : PE X e te) (hb : attributeBase e f X.env (eval e X.env) = eval e X.env := by rfl) : PE X (.Attribute e f pos) (tXat X.K f te) := by
  refine ⟨fun pins s σ H Q I h => ?_⟩
  refine attr_of hb (thn (he.run pins s σ H _ I h) fun u s1 hh => ?_)
  obtain ⟨x, H1, I1, rx, a, C, fs, v, ex, T, hno, e1, l, q⟩ := hh
  subst ex
  obtain rfl : u = Value.ref a := rx
  obtain ⟨oe, od, mA, J, hl, hr⟩ := e1.inst I1.hok
  obtain ⟨u, hu, ru⟩ := RelO.some_of (v := v) (o := mA f) (by rw [← l]; exact hr f)
  exact HandSPX.exc_get I1.kIn J T.c.hg T.c.hk T.c.hs (PySem.W.findObj_own T.c.hd hno rfl (by rw [hl, hu])) (handed_of ru) ⟨v, H1, I1.tok _, ru, q⟩
end
section
variable {X : Cx}
theorem call_isXT : CallR X (.builtin "isinstance") (rIsXT X.K) := by
  intro pins s σ H xs us Q I r h
  obtain ⟨a, C, fs, tp, cs, ws, b, rfl, hT, k, T, e, z, q⟩ := h
  obtain ⟨u1, u2, rfl, r1, r2⟩ := vals2 r
  cases (show u2 = Value.ref tp from r2)
  obtain rfl : u1 = Value.ref a := r1
  obtain ⟨oe, od, mA, J, _⟩ := e.inst I.hok
  obtain ⟨_, its, rv, o, h1, h2, n, h3⟩ := (show ObjOk X.prog X.w H s.heap tp (.tup cs) from I.hok tp _ hT)
  have e3 := ClsV.all k rv
  subst e3
  obtain ⟨oc, od, dt, sl⟩ := o
  simp only at h2 h3
  subst h2 h3
  exact PySem.W.kia_tup (kitx_excO T.c.hg T.c.hk T.c.hs T.c.hd T.c.ha T.c.hn T.c.ht T.c.hm) I.kIn J h1 z (fun z => nomatch z) fun tk => ⟨.bl b, H, I.tok tk, rfl, q⟩
/-- isinstance of an own error, or of any other value -/
def rIsY (K : PySem.W.Frag) : List V → Hp → VK → Prop := fun xs H Q => rIsi K xs H Q ∨ rIsX K xs H Q ∨ rIsXT K xs H Q
theorem call_isY : CallR X (.builtin "isinstance") (rIsY X.K) := by
  intro pins s σ H xs us Q I r h
  rcases h with h | h | h
  · exact call_isi pins s σ H xs us Q I r h
  · exact call_isX pins s σ H xs us Q I r h
  · exact call_isXT pins s σ H xs us Q I r h
/-- C(e, ..), an own error that is kept -/
def tMkE (C : Addr) (sp : Sp) (t : TA) : TE := fun σ H Q => t σ H fun vs H1 => vs.length ≤ 1000 ∧ ∀ a, H1 a = none → sp (.ref a :: vs) (upd H1 a (exo a C none)) (fun v H2 => v = .non ∧ Q (.ref a) H2) E0
theorem pe_mkE {x : Str} {e : Expr} {es : List Expr} {t : TA} {p pos : Pos} {C fI : Addr} {k j : Nat} {fd : FuncData} {ps : List Str} {sp : Sp} (T : OexC X.K C) (iC : PySem.W.findIn X.K (.ref C) "__init__" = some (some (.ref fI))) (tI : PySem.W.typeIn X.K (.ref fI) = some (.type "function"))
    (F1 : FnG X.prog X.w X.K X.mg X.base CX0 k fI fd ps sp) (hA : X.A.guards = some []) (hr : Room j X.A) (hk : k + 1 ≤ j) (hb : Binds X.K fd ps []) (hg : Gl X x) (hm : X.mg x = some (.ref C)) (ha : PA X (e :: es) t)
    (hdb : (x == ("__debug__" : Str)) = false := by decide) (he : starEach (e :: es) X.env = (false, eval e X.env) :: starEach es X.env := by rfl) (hpl : (backTo pos (starEach es X.env)).any (·.1) = false := by rfl) :
    PE X (.Call (.Name x p) (e :: es) [] pos) (tMkE C sp t) := by
  refine ⟨fun pins s σ H Q I h => ?_⟩
  obtain ⟨nm, q, N, bs, bm, sn, sub, ab, col, dd, k0, k1, k2, k3, k5, hC, hbm⟩ := T.cls
  refine wpAny_Call_Name_kw (ld_glob I hg hm ?_ hdb)
  refine PySem.W.callWith_K (h₀ := X.base) I.ok.mod.kin T.kC (thn (ha.run pos pins s σ H _ I h) fun us s1 ⟨vs, H1, I1, r1, hz, q1⟩ => ⟨I1.kIn, ?_⟩) he hpl
  show wpAny _ _ (call (.ref C) us) _ _ _
  obtain ⟨hp, g, dr, tk, os⟩ := s1
  have hsz : hp.objs.size ≤ hp.objs.size + 1 := Nat.le_succ _
  have hn : H1 (hp.objs.size + 1) = none := I1.hok.fresh hsz
  have hq := q1 (hp.objs.size + 1) hn
  have kk : ∀ b o, hp.get? b = some o → ((hp.push (PySem.W.kdv_tup us)).push (PySem.HandSPX.excO C hp.objs.size)).get? b = some o := fun b o e => Heap.get?_push_of_some _ (Heap.get?_push_of_some _ e)
  have hget : ((hp.push (PySem.W.kdv_tup us)).push (PySem.HandSPX.excO C hp.objs.size)).get? (hp.objs.size + 1) = some (PySem.HandSPX.excO C hp.objs.size) := by heap_get
  have I2 : Inv X pins σ (upd H1 (hp.objs.size + 1) (exo (hp.objs.size + 1) C none)) ⟨(hp.push (PySem.W.kdv_tup us)).push (PySem.HandSPX.excO C hp.objs.size), g, dr, tk, os⟩ :=
    I1.laid (t' := tk) (a := hp.objs.size + 1) (o := exo (hp.objs.size + 1) C none) (h' := (hp.push (PySem.W.kdv_tup us)).push (PySem.HandSPX.excO C hp.objs.size)) kk hsz (exo_ok hget)
  have r2 : Vals (V.ref (hp.objs.size + 1) :: vs) (Value.ref (hp.objs.size + 1) :: us) := .cons rfl r1
  have hl : (Value.ref (hp.objs.size + 1) :: us ++ []).length = ps.length := by
    have e := r2.length
    rw [F1.size _ _ _ _ hq] at e
    rw [List.append_nil]
    exact e.symm
  have hus : us.length ≤ sizeLine := by
    rw [← Paired.length r1, sizeLine_eq]
    omega
  have hb' := hb _ (Value.ref (hp.objs.size + 1) :: us) I2.kIn hl
  rw [List.append_nil] at hb'
  refine wpAny_call (PySem.HandSPX.call_own F.excBase_ValueError (fun Y => PySem.HandSPX.refsVE_contains Y bm hbm) (I1.kIn _ _ hC) (PySem.W.looks_findIn I1.kIn iC) (fun self => PySem.W.bind_fn I1.kIn self tI) hus
    (codeAny_mono (F1.go (X.A.under (Code.builtin "type.__call__" ⟨Value.ref C :: us, []⟩)) (show (X.A.under (Code.builtin "type.__call__" ⟨Value.ref C :: us, []⟩)).guards = some [] from hA) X.stack _ _ ⟨Value.ref (hp.objs.size + 1) :: us, []⟩ (Value.ref (hp.objs.size + 1) :: us) _ _ E0 ((hr.mono hk).make C us []) (I2.env0.make C us []) hb' r2 hq) fun r s' hq' => ?_))
  cases r with
  | error er => exact pass0 pins σ _ _ er s' I2 hq'
  | ok fl =>
    cases fl with
    | ret u =>
      obtain ⟨v, H2, J, rv, ev, q2⟩ := I2.after hq'
      subst ev
      exact ⟨rv, .ref (hp.objs.size + 1), H2, J, rfl, q2⟩
    | next => exact False.elim hq'
    | brk => exact False.elim hq'
    | cont => exact False.elim hq'
end
end Mf
/-! own errors made by names alone -/
namespace PySem
namespace HandSPX
open Builtin Builtin.ObjectAttr
section
variable {prog : Program} {w : World} {M : Model} {A : Around} {E : Value → Shared → Prop} {R : Result → Shared → Prop} {h : Heap} {g : Array GenState} {d : Drawn} {t : Nat} {os : OsState}
variable {nm q : Str} {C N : Addr} {bs bm bmB : List Value} {hdct : Bool} {sn : List Str} {sub : List Value} {ab : Bool} {col : Option Bool} {dd : Option Addr} {k0 k1 k2 k3 k5 : Option Value} {B newId initId : String} {kw : List (Str × Value)}
theorem check_new_ownK (F : ExcBaseFacts B newId initId bmB) (hT : ∀ X : String, bm.contains (.type X) = bmB.contains (.type X)) {rest : List Value} {Q : Unit → Shared → Prop}
    (hC : h.get? C = some (excClassObj nm q C N bs bm hdct sn sub ab col dd k0 k1 k2 k3 k5 newId)) (hq : Q () ⟨h, g, d, t, os⟩) : wpAny M A (checkBuiltinCall newId ⟨.ref C :: rest, kw⟩) Q E ⟨h, g, d, t, os⟩ := by
  have hcont : (Value.ref C :: bm).contains (.type B) = true := by rw [List.contains_cons, hT, F.hasB, Bool.or_true]
  have hstar := F.noStar
  simp only [checkBuiltinCall, F.newKind, F.newSplit, F.newRow]
  repeat (first | refine wpAny_loadPart_at hC ?_ | (refine wpAny_isSubtype_exc hC ?_; rw [hcont]) | refine wpAny_staticBase_exc hC ?_ | refine wpAny_madeBy_exc hC ?_ | simp only [bne_self_eq_false, Bool.false_eq_true, if_false] | wp_step)
  exact hq
theorem new_ownK (F : ExcBaseFacts B newId initId bmB) (hT : ∀ X : String, bm.contains (.type X) = bmB.contains (.type X)) {rest : List Value}
    (hC : h.get? C = some (excClassObj nm q C N bs bm hdct sn sub ab col dd k0 k1 k2 k3 k5 newId))
    (hq : R (.ok (.ret (.ref (h.objs.size + 1)))) ⟨(h.push { cls := .type "tuple", data := .seq rest.toArray }).push
      { cls := .ref C, data := .fields #[.ref h.objs.size, .none, .none, .none, .bool false, .none] }, g, d, t, os⟩) (hrest : rest.length ≤ sizeLine) :
    codeAny (model prog w) A (.builtin newId ⟨.ref C :: rest, kw⟩) R ⟨h, g, d, t, os⟩ := by
  have hends := F.ends
  have hcB : (Value.ref C :: bm).contains (.type B) = true := by rw [List.contains_cons, hT, F.hasB, Bool.or_true]
  have hcA : (Value.ref C :: bm).contains (.type "AttributeError") = false := by rw [List.contains_cons, hT, F.noAttr]; rfl
  have hcN : (Value.ref C :: bm).contains (.type "NameError") = false := by rw [List.contains_cons, hT, F.noName]; rfl
  refine codeAny_builtinAt F.entry ?_
  unfold Builtin.«BaseException.__new__»
  refine wpAt_bind ?_
  show wpAt _ _ _ (stack >>= _) _ _ _
  refine wpAt_bind (wpAt_stack fun p below => wpAt_of_wpAny ?_)
  wp_walk
  refine wpAt_of_wpAny ?_
  rw [F.owner]
  repeat (first | with_reducible refine wpAny_madeHere_exc F.canon hC ?_ | with_reducible refine wpAny_loadPart_at hC ?_ | (with_reducible refine wpAny_isSubtype_exc hC ?_; first | rw [hcB] | rw [hcA] | rw [hcN]) | wp_step)
  show R _ _
  rw [Heap.size_push]
  exact hq
theorem type_call_ownK (F : ExcBaseFacts B newId initId bmB) (hT : ∀ X : String, bm.contains (.type X) = bmB.contains (.type X)) {rest : List Value} {fI : Addr} {Q : Fin → Shared → Prop}
    (hC : h.get? C = some (excClassObj nm q C N bs bm hdct sn sub ab col dd k0 k1 k2 k3 k5 newId))
    (hi : W.Looks (model prog w) h (typeLookup (.ref C) "__init__") (some (.ref fI))) (hb : ∀ self, W.Looks (model prog w) h (bindSpecial (.ref fI) self) (.ref fI, [self])) (hrest : rest.length ≤ sizeLine)
    (hq : codeAny (model prog w) A (.call (.ref fI) ⟨.ref (h.objs.size + 1) :: rest, kw⟩)
      (fun r s' => match r with | .ok (.ret v) => v = .none ∧ Q (.done (.ret (.ref (h.objs.size + 1)))) s' | .ok _ => False | .error e => E e s')
      ⟨(h.push (W.kdv_tup rest)).push (excO C h.objs.size), g, d, t, os⟩) :
    wpAny (model prog w) A (Builtin.«type.__call__» ⟨.ref C :: rest, kw⟩) Q E ⟨h, g, d, t, os⟩ := by
  repeat (first | with_reducible refine wpAny_loadPart_at hC ?_ | with_reducible refine wpAny_madeBy_exc hC ?_ | wp_step)
  refine codeAny_call_builtin_code (Code.quiet_builtin _ F.quiet) (check_new_ownK F hT hC ?_)
  refine new_ownK F hT hC ?_ hrest
  show wpAny _ _ _ _ _ _
  have k : ∀ b o, h.get? b = some o → ((h.push (W.kdv_tup rest)).push (excO C h.objs.size)).get? b = some o := fun b o e => Heap.get?_push_of_some _ (Heap.get?_push_of_some _ e)
  have hC₁ := k _ _ hC
  have hget : ((h.push (W.kdv_tup rest)).push (excO C h.objs.size)).get? (h.objs.size + 1) = some (excO C h.objs.size) := by heap_get
  have hcC : (Value.ref C :: bm).contains (.ref C) = true := by simp
  have i1 := hi.keeps k
  have b1 := (hb (.ref (h.objs.size + 1))).keeps k
  unfold isInstance
  repeat (first | with_reducible refine wpAny_loadPart_at hget ?_ | (with_reducible refine wpAny_isSubtype_exc hC₁ ?_; rw [hcC]) | wp_step)
  show wpAny _ _ (typeLookup (.ref C) _) _ _ _
  refine i1.at ?_
  refine wpAny_holding (wpAny_bind (b1.at ?_))
  refine wpAny_bind (wpAny_call (codeAny_mono hq fun r s' z => ?_))
  rcases r with e | (v | _ | _ | _) <;> first | exact z | exact z.elim | skip
  obtain ⟨rfl, z⟩ := z
  first
    | exact wpAny_pure (wpAny_pure z)
    | (wp_walk; exact z)
theorem check_type_call_subK {rest : List Value} {Q : Unit → Shared → Prop} (hC : h.get? C = some (excClassObj nm q C N bs bm hdct sn sub ab col dd k0 k1 k2 k3 k5 newId))
    (hq : Q () ⟨h, g, d, t, os⟩) : wpAny M A (checkBuiltinCall "type.__call__" ⟨.ref C :: rest, kw⟩) Q E ⟨h, g, d, t, os⟩ := by
  have f3 := tc_sub
  have hT : (⟨h, g, d, t, os⟩ : Shared).TypeIs (.ref C) "type" := ⟨_, hC, rfl⟩
  simp only [checkBuiltinCall, tc_kind, tc_split]
  repeat (any_goals (first | assumption | with_reducible refine wpAny_loadPart_at hC ?_ | with_reducible refine wpAny_onRaise ?_ | with_reducible refine wpAny_map ?_ | wp_step))
theorem call_ownK (F : ExcBaseFacts B newId initId bmB) (hT : ∀ X : String, bm.contains (.type X) = bmB.contains (.type X)) {rest : List Value} {fI : Addr}
    (hC : h.get? C = some (excClassObj nm q C N bs bm hdct sn sub ab col dd k0 k1 k2 k3 k5 newId))
    (hi : W.Looks (model prog w) h (typeLookup (.ref C) "__init__") (some (.ref fI))) (hb : ∀ self, W.Looks (model prog w) h (bindSpecial (.ref fI) self) (.ref fI, [self])) (hrest : rest.length ≤ sizeLine)
    (hq : codeAny (model prog w) (A.under (.builtin "type.__call__" ⟨.ref C :: rest, kw⟩)) (.call (.ref fI) ⟨.ref (h.objs.size + 1) :: rest, kw⟩) (W.InitBack (h.objs.size + 1) R)
      ⟨(h.push (W.kdv_tup rest)).push (excO C h.objs.size), g, d, t, os⟩) :
    codeAny (model prog w) A (.call (.ref C) ⟨rest, kw⟩) R ⟨h, g, d, t, os⟩ := by
  have f1 := tc_lookup
  have f2 := tc_bind (.ref C)
  have hTy : (⟨h, g, d, t, os⟩ : Shared).TypeIs (.ref C) "type" := ⟨_, hC, rfl⟩
  refine codeAny_of_tree ?_
  show wpAny _ _ (callAny (.ref C) _) _ _ _
  repeat (any_goals (first | assumption | with_reducible refine wpAny_loadPart_at hC ?_ | wp_step))
  refine ⟨rfl, ?_⟩
  refine codeAny_call_builtin_at (Code.quiet_builtin _ (by decide +kernel)) entry_typeCall (check_type_call_subK hC (type_call_ownK F hT hC hi hb hrest ?_))
  refine codeAny_mono hq fun r s' z => ?_
  rcases r with e | (v | _ | _ | _) <;> exact z
end
end HandSPX
end PySem
/-! own errors by their classes' names -/
namespace Mf
open PySem PySem.Spec PySem.Calls PyProof.Rows L2
theorem Er.go {H H' : Hp} {a C : Addr} {fs : List (Str × V)} (s : Same H H') (e : Er H a C fs) : Er H' a C fs := by
  obtain ⟨d, n, ea, ed⟩ := e
  exact ⟨d, n, s _ _ ea, s _ _ ed⟩
/-- what __init__ of an own error leaves: its fields -/
def sp_init (K : PySem.W.Frag) (fs : List Str) : Sp := fun vs H Q _ => ∃ (a C : Addr) (ws : List V), vs = .ref a :: ws ∧ ws.length = fs.length ∧ H a = some (exo a C none) ∧ OexC K C ∧ (∀ f ∈ fs, PySem.W.findIn K (.ref C) f = some none) ∧
  ∀ H' d, H d = none → d ≠ a → (∀ b o, b ≠ a → H b = some o → H' b = some o) → H' a = some (exo a C (some d)) → H' d = some (exd d (fs.zip ws).reverse) → Q .non H'
/-- a class of own errors, ready to be called -/
structure Ec (c : Cn) (x : Str) (C : Addr) (fs : List Str) : Prop where
  mg : c.mg x = some (.ref C)
  er : Erc c.K C
  no : ∀ f ∈ fs, PySem.W.findIn c.K (.ref C) f = some none
  ln : fs.length ≤ 900
  ex : ∃ (fI : Addr) (fd : FuncData), PySem.W.findIn c.K (.ref C) "__init__" = some (some (.ref fI)) ∧ PySem.W.typeIn c.K (.ref fI) = some (.type "function") ∧
    FnG c.P c.w c.K c.mg c.base CX0 1 fI fd ("self" :: fs) (sp_init c.K fs) ∧ L2.Binds c.K fd ("self" :: fs) [] ∧
    ∀ (s : Shared) (v : Value) (ws : List Value), ws.length = fs.length → BindsTo s fd ⟨[v], fs.reverse.zip ws⟩ ((Str.ofString "self" :: fs).zip (v :: ws.reverse))
/-- C(e, ..), an own error that is kept -/
def tMkX (c : Cn) (C : Addr) (fs : List Str) (t : TA) : TE := fun σ H Q => t σ H fun vs H1 => vs.length = fs.length ∧ ∀ a H2, H1 a = none → Same H1 H2 → Er H2 a C (fs.zip vs).reverse → Q (.ref a) H2
def tMkXk (c : Cn) (C : Addr) (fs : List Str) (t : TA) : TE := fun σ H Q => t σ H fun vs H1 => vs.length = fs.length ∧ ∀ a H2, H1 a = none → Same H1 H2 → Er H2 a C (fs.zip vs.reverse).reverse → Q (.ref a) H2
def tUp (t : TA) : TA := fun σ H Q => ∃ Q' : List V → Hp → Prop, t σ H Q' ∧ ∀ vs H1, Q' vs H1 → Q vs H1
theorem PA.up {X : Cx} {es : List Expr} {t : TA} (ha : PA X es t) : PA X es (tUp t) := ⟨fun pos pins s σ H Q I ⟨Q', h, k⟩ => thn (ha.run pos pins s σ H Q' I h) fun us s ⟨vs, H1, I1, r, q⟩ => ⟨vs, H1, I1, r, k _ _ q⟩⟩
theorem mkX_of {X : Cx} {x : Str} {C : Addr} {fs : List Str} {vs : List V} {H1 : Hp} {Q : VK} (c : Ec (cnOf X) x C fs) (q : vs.length = fs.length ∧ ∀ a H2, H1 a = none → Same H1 H2 → Er H2 a C (fs.zip vs).reverse → Q (.ref a) H2) :
    vs.length ≤ 1000 ∧ ∀ a, H1 a = none → sp_init X.K fs (.ref a :: vs) (upd H1 a (exo a C none)) (fun v H2 => v = .non ∧ Q (.ref a) H2) E0 := by
  obtain ⟨hl, q⟩ := q
  refine ⟨by rw [hl]; exact Nat.le_trans c.ln (by decide), fun a hn => ⟨a, C, vs, rfl, hl, upd_same, c.er.o, c.no, fun H' d hd n k e1 e2 => ⟨rfl, q a H' hn (fun b o z => ?_) ⟨d, n, e1, e2⟩⟩⟩⟩
  have nb : b ≠ a := ne_of_none z hn
  exact k b o nb (by rw [upd_ne nb]; exact z)
section
variable {X : Cx} {x : Str} {e : Expr} {es : List Expr} {t : TA} {p pos : Pos} {C : Addr} {j : Nat} {fs : List Str}
theorem pe_mkX (c : Ec (cnOf X) x C fs) (hA : X.A.guards = some []) (hr : Room j X.A) (hk : 2 ≤ j) (hg : Gl X x) (ha : PA X (e :: es) t)
    (hdb : (x == ("__debug__" : Str)) = false := by decide) (he : starEach (e :: es) X.env = (false, eval e X.env) :: starEach es X.env := by rfl) (hpl : (backTo pos (starEach es X.env)).any (·.1) = false := by rfl) :
    PE X (.Call (.Name x p) (e :: es) [] pos) (tMkX (cnOf X) C fs t) := by
  obtain ⟨fI, fd, iC, tI, F1, hb, _⟩ := c.ex
  have P := pe_mkE (p := p) (pos := pos) c.er.o iC tI F1 hA hr hk hb hg c.mg (PA.up ha) hdb he hpl
  refine ⟨fun pins s σ H Q I h => P.run pins s σ H Q I ⟨_, h, fun vs H1 q => ?_⟩⟩
  exact mkX_of c q
theorem pe_mkXk {kws : List Keyword} {tk : TA} (c : Ec (cnOf X) x C fs) (hA : X.A.guards = some []) (hr : Room j X.A) (hk : 2 ≤ j) (hg : Gl X x) (hkw : PK X kws tk)
    (hall : (backToKw pos (keywordEach kws X.env)).all (·.1.isSome) = true := by rfl) (hks : (backToKw pos (keywordEach kws X.env)).filterMap (·.1) = fs.reverse := by rfl)
    (hdb : (x == ("__debug__" : Str)) = false := by decide)
    (hpl : ((backTo pos (starEach [] X.env)).any (·.1) || (backToKw pos (keywordEach kws X.env)).any (·.1.isNone)) = false := by rfl) :
    PE X (.Call (.Name x p) [] kws pos) (tMkXk (cnOf X) C fs tk) := by
  obtain ⟨fI, fd, iC, tI, F1, _, hb⟩ := c.ex
  refine ⟨fun pins s σ H Q I h => ?_⟩
  obtain ⟨nm, q, N, bs, bm, sn, sub, ab, col, dd, k0, k1, k2, k3, k5, hC, hbm⟩ := c.er.o.cls
  refine wpAny_Call_Name_kw (ld_glob I hg c.mg ?_ hdb)
  refine PySem.W.callWith_KW0 (h₀ := X.base) I.ok.mod.kin c.er.o.kC hall (thn (hkw.run pos pins s σ H _ I h) ?_) hpl
  intro ws s1 ⟨zs, H1, I1, rz, hl, q1⟩
  refine ⟨I1.kIn, ?_⟩
  rw [hks]
  have l1 : ws.length = fs.length := by
    rw [← rz.length]
    exact hl
  obtain ⟨hp, g, dr, tk, os⟩ := s1
  have hsz : hp.objs.size ≤ hp.objs.size + 1 := Nat.le_succ _
  have hn : H1 (hp.objs.size + 1) = none := I1.hok.fresh hsz
  have kk : ∀ b o, hp.get? b = some o → ((hp.push (PySem.W.kdv_tup [])).push (PySem.HandSPX.excO C hp.objs.size)).get? b = some o := fun b o e => Heap.get?_push_of_some _ (Heap.get?_push_of_some _ e)
  have hget : ((hp.push (PySem.W.kdv_tup [])).push (PySem.HandSPX.excO C hp.objs.size)).get? (hp.objs.size + 1) = some (PySem.HandSPX.excO C hp.objs.size) := by heap_get
  have I2 : Inv X pins σ (upd H1 (hp.objs.size + 1) (exo (hp.objs.size + 1) C none)) ⟨(hp.push (PySem.W.kdv_tup [])).push (PySem.HandSPX.excO C hp.objs.size), g, dr, tk, os⟩ :=
    I1.laid (t' := tk) (a := hp.objs.size + 1) (o := exo (hp.objs.size + 1) C none) (h' := (hp.push (PySem.W.kdv_tup [])).push (PySem.HandSPX.excO C hp.objs.size)) kk hsz (exo_ok hget)
  have r2 : Vals (V.ref (hp.objs.size + 1) :: zs.reverse) (Value.ref (hp.objs.size + 1) :: ws.reverse) := .cons rfl rz.reverse
  have hq : sp_init X.K fs (V.ref (hp.objs.size + 1) :: zs.reverse) (upd H1 (hp.objs.size + 1) (exo (hp.objs.size + 1) C none)) (fun v H2 => v = .non ∧ Q (.ref (hp.objs.size + 1)) H2) E0 :=
    (mkX_of c (vs := zs.reverse) ⟨by rw [List.length_reverse]; exact hl, q1⟩).2 _ hn
  refine wpAny_call (PySem.HandSPX.call_ownK F.excBase_ValueError (fun Y => PySem.HandSPX.refsVE_contains Y bm hbm) (I1.kIn _ _ hC) (PySem.W.looks_findIn I1.kIn iC) (fun self => PySem.W.bind_fn I1.kIn self tI) (Nat.zero_le _)
    (codeAny_mono (F1.go (X.A.under (Code.builtin "type.__call__" ⟨[Value.ref C], fs.reverse.zip ws⟩)) (show (X.A.under (Code.builtin "type.__call__" ⟨[Value.ref C], fs.reverse.zip ws⟩)).guards = some [] from hA) X.stack _ _ ⟨[Value.ref (hp.objs.size + 1)], fs.reverse.zip ws⟩ (Value.ref (hp.objs.size + 1) :: ws.reverse) _ _ E0 ((hr.mono hk).make C [] (fs.reverse.zip ws)) (I2.env0.make C [] (fs.reverse.zip ws)) (hb _ _ ws l1) r2 hq) fun r s' hq' => ?_))
  cases r with
  | error er => exact pass0 pins σ _ _ er s' I2 hq'
  | ok fl =>
    cases fl with
    | ret u =>
      obtain ⟨v, H2, J, rv, ev, q2⟩ := I2.after hq'
      subst ev
      exact ⟨rv, .ref (hp.objs.size + 1), H2, J, rfl, q2⟩
    | next => exact False.elim hq'
    | brk => exact False.elim hq'
    | cont => exact False.elim hq'
end
end Mf
/-! what the classes' objects tell -/
namespace Mf
open PySem PySem.Spec PySem.Calls PyProof.Rows L2
/-- at C: an own error's class, its mro behind itself bm -/
def ClsAt (K : PySem.W.Frag) (C : Addr) (bm : List Value) : Prop := ∃ nm q N bs sn sub ab col dd k0 k1 k2 k3 k5, K.lookup C = some (excClassObj nm q C N bs bm true sn sub ab col dd k0 k1 k2 k3 k5 "ValueError.__new__")
abbrev veT : List Value := [.type "ValueError", .type "Exception", .type "BaseException", .type "object"]
section
variable {K : PySem.W.Frag} {C D : Addr} {bm bd : List Value}
theorem ClsAt.clsIn (h : ClsAt K C bm) : ∃ cd, PySem.W.clsIn K C = some cd ∧ cd.mro = .ref C :: bm ∧ cd.hasDict = true := by
  obtain ⟨nm, q, N, bs, sn, sub, ab, col, dd, k0, k1, k2, k3, k5, h⟩ := h
  exact ⟨_, by unfold PySem.W.clsIn; rw [h] <;> rfl, rfl, rfl⟩
theorem ClsAt.mro (h : ClsAt K C bm) (u : Value) : PySem.W.mroIn K C u = some ((Value.ref C :: bm).contains u) := by
  obtain ⟨cd, h1, h2, _⟩ := h.clsIn
  unfold PySem.W.mroIn
  rw [h1, Option.bind_some, h2]
  rfl
theorem ClsAt.ty (h : ClsAt K C bm) : PySem.W.typeIn K (.ref C) = some (.type "type") := by
  obtain ⟨nm, q, N, bs, sn, sub, ab, col, dd, k0, k1, k2, k3, k5, h⟩ := h
  show (K.lookup C).map (·.cls) = _
  rw [h] <;> rfl
theorem ClsAt.hd (h : ClsAt K C bm) : PySem.W.hasDictIn K C = true := by
  obtain ⟨cd, h1, _, h3⟩ := h.clsIn
  unfold PySem.W.hasDictIn
  rw [h1]
  exact h3
theorem kit_own (h : ClsAt K C bm) (g : ClsAt K D bd) : PySem.W.kitOne K (.ref C) (.ref D) = some (decide (C = D) || bm.contains (.ref D)) := by
  unfold PySem.W.kitOne
  by_cases e : C = D
  · subst e
    rw [if_pos (beq_self_eq_true _), decide_eq_true rfl]
    rfl
  · have ne : ¬ ((Value.ref C == Value.ref D) = true) := fun z => e (Value.ref.inj (beq_iff_eq.mp z))
    rw [if_neg ne, decide_eq_false e, Bool.false_or]
    obtain ⟨cd, h1, _⟩ := g.clsIn
    show (if ((PySem.W.clsIn K D).isSome && PySem.W.typeIn K (.ref D) == some (.type "type")) = true then PySem.W.mroIn K C (.ref D) else none) = _
    rw [h1, g.ty, if_pos (by simp), h.mro]
    have n2 : (Value.ref D == Value.ref C) = false := by
      cases z : (Value.ref D == Value.ref C) with
      | false => rfl
      | true => exact absurd (Value.ref.inj (beq_iff_eq.mp z)).symm e
    rw [List.contains_cons, n2, Bool.false_or]
theorem kit_blt {T : String} {b : Bool} (h : ClsAt K C bm) (hm : PySem.W.kitMeta T = true) (hb : bm.contains (.type T) = b) : PySem.W.kitOne K (.ref C) (.type T) = some b := by
  unfold PySem.W.kitOne
  have ne : ¬ ((Value.ref C == Value.type T) = true) := fun z => by
    have z' := beq_iff_eq.mp z
    cases z'
  rw [if_neg ne]
  show (if PySem.W.kitMeta T = true then PySem.W.mroIn K C (.type T) else none) = _
  rw [if_pos hm, h.mro, List.contains_cons]
  have n2 : (Value.type T == Value.ref C) = false := by
    cases z : (Value.type T == Value.ref C) with
    | false => rfl
    | true =>
      have z' := beq_iff_eq.mp z
      cases z'
  rw [n2, Bool.false_or, hb]
end
/-- the class as it stands -/
structure Ed (c : Cn) (x q : Str) (st : Stmt) (C : Addr) (bm : List Value) (fs : List Str) : Prop where
  mg : c.mg x = some (.ref C)
  cl : ClsAt c.K C bm
  ve : PySem.HandSPX.refsVE bm = true
  ob : bm.contains (.type "object") = true
  be : bm.contains (.type "BaseException") = true
  sa : PySem.W.findIn c.K (.ref C) "__setattr__" = some (some (.builtin "object.__setattr__"))
  kC : PySem.W.keepIn c.K (.ref C) = true
  hg : PySem.W.findIn c.K (.ref C) "__getattribute__" = some (some (.builtin "BaseException.__getattribute__"))
  hk : PySem.W.findIn c.K (.ref C) "__getattr__" = some none
  ha : PySem.W.findIn c.K (.ref C) "__class__" = some (some (.builtin "object.__class__"))
  hn : PySem.W.specialIn c.K (.builtin "object.__class__") "__get__" = some (some (.builtin "getset_descriptor.__get__"))
  ht : PySem.W.takesIn c.K (.builtin "object.__class__") = some true
  no : ∀ f ∈ fs, PySem.W.findIn c.K (.ref C) f = some none
  ex : ∃ (fI : Addr) (fd : FuncData), PySem.W.findIn c.K (.ref C) "__init__" = some (some (.ref fI)) ∧ PySem.W.typeIn c.K (.ref fI) = some (.type "function") ∧ Fun c.K "__init__" q st fI fd
section
variable {c : Cn} {x q : Str} {st : Stmt} {C : Addr} {bm : List Value} {fs : List Str}
theorem Ed.erc (D : Ed c x q st C bm fs) : Erc c.K C := by
  have hs : PySem.W.subIn c.K (.ref C) (.type "BaseException") = some true := by
    show PySem.W.mroIn c.K C (.type "BaseException") = some true
    rw [D.cl.mro, List.contains_cons, D.be, Bool.or_true]
  have hm : PySem.W.mroIn c.K C (.type "object") = some true := by
    rw [D.cl.mro, List.contains_cons, D.ob, Bool.or_true]
  obtain ⟨nm, qn, N, bs, sn, sub, ab, col, dd, k0, k1, k2, k3, k5, h⟩ := D.cl
  exact ⟨⟨⟨nm, qn, N, bs, bm, sn, sub, ab, col, dd, k0, k1, k2, k3, k5, h, D.ve⟩, D.sa, hs, ClsAt.ty ⟨nm, qn, N, bs, sn, sub, ab, col, dd, k0, k1, k2, k3, k5, h⟩, D.kC⟩,
    ⟨D.hg, D.hk, hs, ClsAt.hd ⟨nm, qn, N, bs, sn, sub, ab, col, dd, k0, k1, k2, k3, k5, h⟩, D.ha, D.hn, D.ht, hm⟩⟩
def PlI (q : Str) (st : Stmt) (ps : List Str) : Prop := ∀ (kV doc pm : Value) (an : Option Addr) (cdv ct : Value) (us : List Value), us.length = ps.length →
  bindArgs (PySem.W.fnOf "__init__" q (defArgs st) (defBody st) (defScope st) .none kV doc pm an cdv ct) ⟨us, []⟩ = pure (ps.zip us)
def PkI (q : Str) (st : Stmt) (fs : List Str) : Prop := ∀ (kV doc pm : Value) (an : Option Addr) (cdv ct : Value) (v : Value) (ws : List Value), ws.length = fs.length →
  bindArgs (PySem.W.fnOf "__init__" q (defArgs st) (defBody st) (defScope st) .none kV doc pm an cdv ct) ⟨[v], fs.reverse.zip ws⟩ = pure ((Str.ofString "self" :: fs).zip (v :: ws.reverse))
theorem Ed.ec {N : List Str} (D : Ed c x q st C bm fs) (hz : fs.length ≤ 900) (S : FnScope N (Str.ofString "self" :: fs) (defScope st)) (hp : PlI q st (Str.ofString "self" :: fs)) (hk : PkI q st fs)
    (hbody : ∀ (f : Addr) (cdv : Value) (A : Around) (outer : List Env) (s : Shared) (H : Hp) (vs : List V) (Q : VK) (E : XK),
      sp_init c.K fs vs H Q E → ∃ t, PSs (cxOf CX0 c.P c.w c.K c.mg c.base N q (defScope st) f cdv A outer s H E).nox (defBody st) t ∧
        t { nx := fun _ H' => Q .non H', rt := Q } (start N vs) H) : Ec c x C fs := by
  obtain ⟨fI, fd, iC, tI, F⟩ := D.ex
  refine ⟨D.mg, D.erc, D.no, hz, fI, fd, iC, tI, okG F S (fun vs H Q E h => ?_) (fun cdv A outer s H vs Q E _ _ h => hbody fI cdv A outer s H vs Q E h), F.binds hp, fun s v ws hl => ?_⟩
  · obtain ⟨a, C, ws, rfl, hl, _⟩ := h
    show ws.length + 1 = fs.length + 1
    rw [hl]
  · obtain ⟨oc, od, kV, doc, pm, an, cdv, ct, osl, rfl, lk, hcd⟩ := F.ex
    exact .of_eq (hk kV doc pm an cdv ct v ws hl)
/-- self.f = f -/
theorem init1_rd {K : PySem.W.Frag} {f : Str} {vs : List V} {H : Hp} {Q : VK} {E : XK} (h : sp_init K [f] vs H Q E) :
    tOst K f (tVar 0) (tVar 1) { nx := fun _ H' => Q .non H', rt := Q } (start ["self", f] vs) H := by
  obtain ⟨a, C, ws, rfl, hl, e, T, no, k⟩ := h
  match ws, hl with
  | [v], _ =>
    unfold tOst
    refine g_var (v := v) rfl ?_
    refine g_var (v := .ref a) rfl ?_
    refine ⟨a, C, rfl, T, no f (List.mem_cons_self ..), .inl ⟨e, fun dx hd ne => ?_⟩⟩
    refine k _ dx hd ne (fun b o nb eb => ?_) upd_same (by rw [upd_ne ne]; exact upd_same)
    rw [upd_ne nb, upd_ne (ne_of_none eb hd)]
    exact eb
theorem init2_rd {K : PySem.W.Frag} {f g : Str} {vs : List V} {H : Hp} {Q : VK} {E : XK} (h : sp_init K [f, g] vs H Q E) :
    tSeq (tOst K f (tVar 0) (tVar 1)) (tOst K g (tVar 0) (tVar 2)) { nx := fun _ H' => Q .non H', rt := Q } (start ["self", f, g] vs) H := by
  obtain ⟨a, C, ws, rfl, hl, e, T, no, k⟩ := h
  match ws, hl with
  | [v, z], _ =>
    refine g_seq ?_
    unfold tOst
    refine g_var (v := v) rfl ?_
    refine g_var (v := .ref a) rfl ?_
    refine ⟨a, C, rfl, T, no f (List.mem_cons_self ..), .inl ⟨e, fun dx hd ne => ?_⟩⟩
    have e1 : upd (upd H dx (exd dx [(f, v)])) a (exo a C (some dx)) a = some (exo a C (some dx)) := upd_same
    have e2 : upd (upd H dx (exd dx [(f, v)])) a (exo a C (some dx)) dx = some (exd dx [(f, v)]) := by
      rw [upd_ne ne]
      exact upd_same
    dsimp only
    refine g_var (v := z) rfl ?_
    refine g_var (v := .ref a) rfl ?_
    refine ⟨a, C, rfl, T, no g (List.mem_cons_of_mem _ (List.mem_cons_self ..)), .inr ⟨dx, _, e1, e2, by show 1 ≤ 900; decide, ?_⟩⟩
    refine k _ dx hd ne (fun b o nb eb => ?_) (by rw [upd_ne (Ne.symm ne)]; exact e1) upd_same
    rw [upd_ne (ne_of_none eb hd), upd_ne nb, upd_ne (ne_of_none eb hd)]
    exact eb
end
end Mf
/-! own errors that are raised, and caught; repr of values with an empty dict -/
namespace Mf
open PySem PySem.Spec PySem.Calls PyProof.Rows L2
def tMkR (C : Addr) (fs : List Str) (t : TA) : L2.St → Hp → XK → Prop := fun σ H Q => t σ H fun vs H1 => vs.length = fs.length ∧ ∀ d H2, H1 d = none → Same H1 H2 → H2 d = some (.xd (fs.zip vs).reverse) → Q (.ref C) (some d) H2
def tMkRk (C : Addr) (fs : List Str) (t : TA) : L2.St → Hp → XK → Prop := fun σ H Q => t σ H fun vs H1 => vs.length = fs.length ∧ ∀ d H2, H1 d = none → Same H1 H2 → H2 d = some (.xd (fs.zip vs.reverse).reverse) → Q (.ref C) (some d) H2
theorem mkR_same {H1 H2 : Hp} {a C d : Addr} {u : HO} (hn : H1 a = none) (hd : H1 d = none) (k : ∀ b o, b ≠ a → upd H1 a (exo a C none) b = some o → H2 b = some o) : Same H1 (upd (del H2 a) d u) := fun b o e => by
  have nb : b ≠ a := ne_of_none e hn
  rw [upd_ne (ne_of_none e hd), del_ne nb]
  exact k b o nb (by rw [upd_ne nb]; exact e)
section
variable {X : Cx} {x : Str} {e : Expr} {es : List Expr} {t : TA} {p pos : Pos} {C : Addr} {j : Nat} {fs : List Str}
theorem pmk_mkX (c : Ec (cnOf X) x C fs) (hA : X.A.guards = some []) (hr : Room j X.A) (hk : 2 ≤ j) (hg : Gl X x) (ha : PA X (e :: es) t)
    (hdb : (x == ("__debug__" : Str)) = false := by decide) (he : starEach (e :: es) X.env = (false, eval e X.env) :: starEach es X.env := by rfl) (hpl : (backTo pos (starEach es X.env)).any (·.1) = false := by rfl) :
    PMk X (.Call (.Name x p) (e :: es) [] pos) (tMkR C fs t) := by
  obtain ⟨fI, fd, iC, tI, F1, hb, _⟩ := c.ex
  intro pins s σ H Q I h
  have T := c.er.o
  obtain ⟨nm, q, N, bs, bm, sn, sub, ab, col, dd, k0, k1, k2, k3, k5, hC, hbm⟩ := T.cls
  refine wpAny_Call_Name_kw (ld_glob I hg c.mg ?_ hdb)
  refine PySem.W.callWith_K (h₀ := X.base) I.ok.mod.kin T.kC (thn (ha.run pos pins s σ H _ I h) fun us s1 ⟨vs, H1, I1, r1, hz, q1⟩ => ⟨I1.kIn, ?_⟩) he hpl
  show wpAny _ _ (call (.ref C) us) _ _ _
  obtain ⟨hp, g, dr, tk, os⟩ := s1
  have hsz : hp.objs.size ≤ hp.objs.size + 1 := Nat.le_succ _
  have hn : H1 (hp.objs.size + 1) = none := I1.hok.fresh hsz
  have kk : ∀ b o, hp.get? b = some o → ((hp.push (PySem.W.kdv_tup us)).push (PySem.HandSPX.excO C hp.objs.size)).get? b = some o := fun b o e => Heap.get?_push_of_some _ (Heap.get?_push_of_some _ e)
  have hget : ((hp.push (PySem.W.kdv_tup us)).push (PySem.HandSPX.excO C hp.objs.size)).get? (hp.objs.size + 1) = some (PySem.HandSPX.excO C hp.objs.size) := by heap_get
  have I2 : Inv X pins σ (upd H1 (hp.objs.size + 1) (exo (hp.objs.size + 1) C none)) ⟨(hp.push (PySem.W.kdv_tup us)).push (PySem.HandSPX.excO C hp.objs.size), g, dr, tk, os⟩ :=
    I1.laid (t' := tk) (a := hp.objs.size + 1) (o := exo (hp.objs.size + 1) C none) (h' := (hp.push (PySem.W.kdv_tup us)).push (PySem.HandSPX.excO C hp.objs.size)) kk hsz (exo_ok hget)
  have r2 : Vals (V.ref (hp.objs.size + 1) :: vs) (Value.ref (hp.objs.size + 1) :: us) := .cons rfl r1
  have hus : us.length ≤ sizeLine := by
    rw [← Paired.length r1, sizeLine_eq, hz]
    have := c.ln
    omega
  have hq : sp_init X.K fs (V.ref (hp.objs.size + 1) :: vs) (upd H1 (hp.objs.size + 1) (exo (hp.objs.size + 1) C none))
      (fun v H2 => v = .non ∧ ∃ d, H1 d = none ∧ H2 (hp.objs.size + 1) = some (exo (hp.objs.size + 1) C (some d)) ∧ H2 d = some (exd d (fs.zip vs).reverse) ∧ Q (.ref C) (some d) (upd (del H2 (hp.objs.size + 1)) d (.xd (fs.zip vs).reverse))) E0 := by
    refine ⟨hp.objs.size + 1, C, vs, rfl, hz, upd_same, T, c.no, fun H' d hd n k e1 e2 => ?_⟩
    have hd1 : H1 d = none := by rw [upd_ne n] at hd; exact hd
    exact ⟨rfl, d, hd1, e1, e2, q1 d _ hd1 (mkR_same hn hd1 k) upd_same⟩
  have hl : (Value.ref (hp.objs.size + 1) :: us ++ []).length = (Str.ofString "self" :: fs).length := by
    have e := r2.length
    rw [F1.size _ _ _ _ hq] at e
    rw [List.append_nil]
    exact e.symm
  have hb' := hb _ (Value.ref (hp.objs.size + 1) :: us) I2.kIn hl
  rw [List.append_nil] at hb'
  refine wpAny_call (PySem.HandSPX.call_own F.excBase_ValueError (fun Y => PySem.HandSPX.refsVE_contains Y bm hbm) (I1.kIn _ _ hC) (PySem.W.looks_findIn I1.kIn iC) (fun self => PySem.W.bind_fn I1.kIn self tI) hus
    (codeAny_mono (F1.go (X.A.under (Code.builtin "type.__call__" ⟨Value.ref C :: us, []⟩)) (show (X.A.under (Code.builtin "type.__call__" ⟨Value.ref C :: us, []⟩)).guards = some [] from hA) X.stack _ _ ⟨Value.ref (hp.objs.size + 1) :: us, []⟩ (Value.ref (hp.objs.size + 1) :: us) _ _ E0 ((hr.mono hk).make C us []) (I2.env0.make C us []) hb' r2 hq) fun r s' hq' => ?_))
  cases r with
  | error er => exact pass0 pins σ _ _ er s' I2 hq'
  | ok fl =>
    cases fl with
    | ret u =>
      obtain ⟨v, H2, os2, bare2, un2, hok2, rv, ev, d, hd1, ea, ed, q2⟩ := hq'
      subst ev
      obtain ⟨h2, g2, d2, t2, os'⟩ := s'
      exact ⟨rv, mk_end (raises_own T.exC T.tyC) I1 hsz kk un2 hok2 os2 bare2 ea ed hd1 q2⟩
    | next => exact False.elim hq'
    | brk => exact False.elim hq'
    | cont => exact False.elim hq'
theorem pmk_mkXk {kws : List Keyword} {tk : TA} (c : Ec (cnOf X) x C fs) (hA : X.A.guards = some []) (hr : Room j X.A) (hk : 2 ≤ j) (hg : Gl X x) (hkw : PK X kws tk)
    (hall : (backToKw pos (keywordEach kws X.env)).all (·.1.isSome) = true := by rfl) (hks : (backToKw pos (keywordEach kws X.env)).filterMap (·.1) = fs.reverse := by rfl)
    (hdb : (x == ("__debug__" : Str)) = false := by decide)
    (hpl : ((backTo pos (starEach [] X.env)).any (·.1) || (backToKw pos (keywordEach kws X.env)).any (·.1.isNone)) = false := by rfl) :
    PMk X (.Call (.Name x p) [] kws pos) (tMkRk C fs tk) := by
  obtain ⟨fI, fd, iC, tI, F1, _, hb⟩ := c.ex
  intro pins s σ H Q I h
  have T := c.er.o
  obtain ⟨nm, q, N, bs, bm, sn, sub, ab, col, dd, k0, k1, k2, k3, k5, hC, hbm⟩ := T.cls
  refine wpAny_Call_Name_kw (ld_glob I hg c.mg ?_ hdb)
  refine PySem.W.callWith_KW0 (h₀ := X.base) I.ok.mod.kin T.kC hall (thn (hkw.run pos pins s σ H _ I h) ?_) hpl
  intro ws s1 ⟨zs, H1, I1, rz, hz, q1⟩
  refine ⟨I1.kIn, ?_⟩
  rw [hks]
  have l1 : ws.length = fs.length := by
    rw [← rz.length]
    exact hz
  obtain ⟨hp, g, dr, tk, os⟩ := s1
  have hsz : hp.objs.size ≤ hp.objs.size + 1 := Nat.le_succ _
  have hn : H1 (hp.objs.size + 1) = none := I1.hok.fresh hsz
  have kk : ∀ b o, hp.get? b = some o → ((hp.push (PySem.W.kdv_tup [])).push (PySem.HandSPX.excO C hp.objs.size)).get? b = some o := fun b o e => Heap.get?_push_of_some _ (Heap.get?_push_of_some _ e)
  have hget : ((hp.push (PySem.W.kdv_tup [])).push (PySem.HandSPX.excO C hp.objs.size)).get? (hp.objs.size + 1) = some (PySem.HandSPX.excO C hp.objs.size) := by heap_get
  have I2 : Inv X pins σ (upd H1 (hp.objs.size + 1) (exo (hp.objs.size + 1) C none)) ⟨(hp.push (PySem.W.kdv_tup [])).push (PySem.HandSPX.excO C hp.objs.size), g, dr, tk, os⟩ :=
    I1.laid (t' := tk) (a := hp.objs.size + 1) (o := exo (hp.objs.size + 1) C none) (h' := (hp.push (PySem.W.kdv_tup [])).push (PySem.HandSPX.excO C hp.objs.size)) kk hsz (exo_ok hget)
  have r2 : Vals (V.ref (hp.objs.size + 1) :: zs.reverse) (Value.ref (hp.objs.size + 1) :: ws.reverse) := .cons rfl rz.reverse
  have hq : sp_init X.K fs (V.ref (hp.objs.size + 1) :: zs.reverse) (upd H1 (hp.objs.size + 1) (exo (hp.objs.size + 1) C none))
      (fun v H2 => v = .non ∧ ∃ d, H1 d = none ∧ H2 (hp.objs.size + 1) = some (exo (hp.objs.size + 1) C (some d)) ∧ H2 d = some (exd d (fs.zip zs.reverse).reverse) ∧ Q (.ref C) (some d) (upd (del H2 (hp.objs.size + 1)) d (.xd (fs.zip zs.reverse).reverse))) E0 := by
    refine ⟨hp.objs.size + 1, C, zs.reverse, rfl, by rw [List.length_reverse]; exact hz, upd_same, T, c.no, fun H' d hd n k e1 e2 => ?_⟩
    have hd1 : H1 d = none := by rw [upd_ne n] at hd; exact hd
    exact ⟨rfl, d, hd1, e1, e2, q1 d _ hd1 (mkR_same hn hd1 k) upd_same⟩
  refine wpAny_call (PySem.HandSPX.call_ownK F.excBase_ValueError (fun Y => PySem.HandSPX.refsVE_contains Y bm hbm) (I1.kIn _ _ hC) (PySem.W.looks_findIn I1.kIn iC) (fun self => PySem.W.bind_fn I1.kIn self tI) (Nat.zero_le _)
    (codeAny_mono (F1.go (X.A.under (Code.builtin "type.__call__" ⟨[Value.ref C], fs.reverse.zip ws⟩)) (show (X.A.under (Code.builtin "type.__call__" ⟨[Value.ref C], fs.reverse.zip ws⟩)).guards = some [] from hA) X.stack _ _ ⟨[Value.ref (hp.objs.size + 1)], fs.reverse.zip ws⟩ (Value.ref (hp.objs.size + 1) :: ws.reverse) _ _ E0 ((hr.mono hk).make C [] (fs.reverse.zip ws)) (I2.env0.make C [] (fs.reverse.zip ws)) (hb _ _ ws l1) r2 hq) fun r s' hq' => ?_))
  cases r with
  | error er => exact pass0 pins σ _ _ er s' I2 hq'
  | ok fl =>
    cases fl with
    | ret u =>
      obtain ⟨v, H2, os2, bare2, un2, hok2, rv, ev, d, hd1, ea, ed, q2⟩ := hq'
      subst ev
      obtain ⟨h2, g2, d2, t2, os'⟩ := s'
      exact ⟨rv, mk_end (raises_own T.exC T.tyC) I1 hsz kk un2 hok2 os2 bare2 ea ed hd1 q2⟩
    | next => exact False.elim hq'
    | brk => exact False.elim hq'
    | cont => exact False.elim hq'
/-- e.f, e the error that the suite holds -/
def tByX (K : PySem.W.Frag) (a : Addr) (cls : Value) (d : Option Addr) (f : Str) (te : TE) : TE := fun σ H Q => te σ H fun x H1 => x = .ref a ∧ ∃ (C dd : Addr) (fs : List (Str × V)) (v : V), cls = .ref C ∧ Erc K C ∧ PySem.W.findIn K (.ref C) f = some none ∧ d = some dd ∧ H1 dd = some (.xd fs) ∧ fs.lookup f = some v ∧ Q v H1
theorem pe_byX {f : Str} {a : Addr} {oe : Obj} {cls : Value} {d : Option Addr} {pn : List (Addr × Obj)} {te : TE} (hz : Zc cls d oe) (hf : ∃ vs, oe.data = .fields vs) (he : PE (X.suite a ((a, oe) :: pn)) e te)
    (hb : attributeBase e f X.env (eval e X.env) = eval e X.env := by rfl) :
    PE (X.suite a ((a, oe) :: pn)) (.Attribute e f pos) (tByX X.K a cls d f te) := by
  refine ⟨fun pins s σ H Q I h => ?_⟩
  refine attr_of hb (thn (he.run pins s σ H _ I h) fun u s1 hh => ?_)
  obtain ⟨x, H1, I1, rx, ex, C, dd, fs, v, ec, T, no, ed, ea, l, q⟩ := hh
  subst ex
  obtain rfl : u = Value.ref a := rx
  subst ec
  subst ed
  obtain ⟨ha, _⟩ := I1.pin (a, oe) (List.mem_append_left _ List.mem_cons_self)
  obtain ⟨vs, hd⟩ := hf
  have hx : ObjOk X.prog X.w H1 s1.heap dd (.xd fs) := I1.hok dd _ ea
  obtain ⟨mA, hns, hr⟩ := hx
  obtain ⟨od, ho, hl⟩ := lookIn_ns hns
  obtain ⟨u, hu, ru⟩ := RelO.some_of (v := v) (o := mA f) (by rw [← l]; exact hr f)
  have J : PySem.W.InstAt s1.heap a oe C (some od) := ⟨ha, hz.1, by unfold PySem.W.notCls; rw [hd] <;> rfl, by rw [hz.2]; exact ho⟩
  exact HandSPX.exc_get I1.kIn J T.c.hg T.c.hk T.c.hs (PySem.W.findObj_own T.c.hd no rfl (by rw [hl, hu])) (handed_of ru) ⟨v, H1, I1.tok _, ru, q⟩
end
end Mf
/-! the fields of k00: values with an empty dict, their repr -/
namespace Mf
open PySem PySem.Spec PySem.Calls PyProof.Rows L2
def leafD : PyData → Bool
  | .none | .bool _ | .int _ | .str _ => true
  | _ => false
/-- a value of the menu: data without a list, or [i, [j]], or the empty dict -/
def Dk (q : Addr) (K : PySem.W.Frag) (H : Hp) (v : V) (d : PyData) : Prop := (leafD d = true ∧ Dq q K H v d) ∨
  (∃ (a b : Addr) (i j : Int), d = .list [.int i, .list [.int j]] ∧ v = .ref a ∧ a ≠ q ∧ b ≠ q ∧ a ≠ sysModules ∧ b ≠ sysModules ∧ H a = some (.lst [.int i, .ref b]) ∧ H b = some (.lst [.int j])) ∨
  (∃ (a : Addr) (i j : Int), d = .tuple [.int i, .int j] ∧ v = .ref a ∧ a ≠ q ∧ H a = some (.tup [.int i, .int j])) ∨
  (d = .dict [] ∧ ∃ a, v = .ref a ∧ a ≠ q ∧ H a = some (.dK []))
theorem Dk.go {q : Addr} {K : PySem.W.Frag} {H H' : Hp} {v : V} {d : PyData} (s : SameX q H H') (h : Dk q K H v d) : Dk q K H' v d := by
  rcases h with ⟨n, h⟩ | ⟨a, b, i, j, e1, e2, n1, n2, m1, m2, h1, h2⟩ | ⟨a, i, j, e1, e2, n1, h1⟩ | ⟨rfl, a, rfl, n, e⟩
  · exact .inl ⟨n, h.go s⟩
  · exact .inr (.inl ⟨a, b, i, j, e1, e2, n1, n2, m1, m2, s.kept _ _ n1 h1, s.kept _ _ n2 h2⟩)
  · exact .inr (.inr (.inl ⟨a, i, j, e1, e2, n1, s.kept _ _ n1 h1⟩))
  · exact .inr (.inr (.inr ⟨rfl, a, rfl, n, s.kept _ _ n e⟩))
inductive DkAll (q : Addr) (K : PySem.W.Frag) (H : Hp) : List V → List PyData → Prop
  | nil : DkAll q K H [] []
  | cons {v : V} {vs : List V} {d : PyData} {ds : List PyData} : Dk q K H v d → DkAll q K H vs ds → DkAll q K H (v :: vs) (d :: ds)
theorem DkAll.mem {q : Addr} {K : PySem.W.Frag} {H : Hp} : ∀ {vs : List V} {ds : List PyData} {x : V}, DkAll q K H vs ds → x ∈ vs → ∃ d ∈ ds, Dk q K H x d
  | _, _, _, .nil, h => nomatch h
  | _, _, x, .cons h t, m => by
    cases m with
    | head => exact ⟨_, List.mem_cons_self .., h⟩
    | tail _ m =>
      obtain ⟨d, hd, z⟩ := DkAll.mem t m
      exact ⟨d, List.mem_cons_of_mem _ hd, z⟩
section
variable {X : Cx} {pins : List (Addr × Obj)} {σ : L2.St} {H : Hp} {s : Shared} {q : Addr}
theorem Dk.reads (I : L2.Inv X pins σ H s) {v : V} {u : Value} {d : PyData} (h : Dk q X.K H v d) (r : RelV v u) : ∃ as, Reads s.heap u d as ∧ sysModules ∉ as := by
  rcases h with ⟨n, h⟩ | ⟨a, b, i, j, rfl, rfl, n1, n2, m1, m2, h1, h2⟩ | ⟨a, i, j, rfl, rfl, n1, h1⟩ | ⟨rfl, a, rfl, n, e⟩
  · cases h with
    | non =>
      cases r
      exact ⟨_, Reads.none, fun z => nomatch z⟩
    | bl b =>
      cases r
      exact ⟨_, Reads.bool b, fun z => nomatch z⟩
    | int i =>
      obtain ⟨t, rfl⟩ := r
      exact ⟨_, Reads.int i t, fun z => nomatch z⟩
    | str x hx =>
      obtain ⟨t, rfl⟩ := r
      exact ⟨_, Reads.str x t, fun z => nomatch z⟩
    | lst _ _ _ => exact absurd n (by unfold leafD; exact Bool.false_ne_true)
    | dct _ _ => exact absurd n (by unfold leafD; exact Bool.false_ne_true)
    | tup _ _ _ => exact absurd n (by unfold leafD; exact Bool.false_ne_true)
  · cases (show u = Value.ref a from r)
    obtain ⟨_, its, n, rv, e1⟩ := (show ObjOk X.prog X.w H s.heap a (.lst [.int i, .ref b]) from I.hok a _ h1)
    obtain ⟨_, jts, m, rw', e2⟩ := (show ObjOk X.prog X.w H s.heap b (.lst [.int j]) from I.hok b _ h2)
    cases rv with
    | cons r1 rv =>
      cases rv with
      | cons r2 rv =>
        cases rv
        cases rw' with
        | cons r3 rw' =>
          cases rw'
          obtain ⟨t1, rfl⟩ := r1
          obtain ⟨t3, rfl⟩ := r3
          rename_i u2
          cases (show u2 = Value.ref b from r2)
          refine ⟨_, Reads.list e1 rfl rfl (ReadsAll.cons (Reads.int i t1) (ReadsAll.cons (Reads.list e2 rfl rfl (ReadsAll.cons (Reads.int j t3) ReadsAll.nil)) ReadsAll.nil)), fun z => ?_⟩
          cases z with
          | head => exact m1 rfl
          | tail _ z =>
            cases z with
            | head => exact m2 rfl
            | tail _ z => cases z
  · cases (show u = Value.ref a from r)
    obtain ⟨_, its, rv, o, ho, hc, m, hd⟩ := (show ObjOk X.prog X.w H s.heap a (.tup [.int i, .int j]) from I.hok a _ h1)
    cases rv with
    | cons r1 rv =>
      cases rv with
      | cons r2 rv =>
        cases rv
        obtain ⟨t1, rfl⟩ := r1
        obtain ⟨t2, rfl⟩ := r2
        exact ⟨_, Reads.tuple ho hc hd (ReadsAll.cons (Reads.int i t1) (ReadsAll.cons (Reads.int j t2) ReadsAll.nil)), fun z => nomatch z⟩
  · cases (show u = Value.ref a from r)
    obtain ⟨_, hs, vs, kv, o, es, ep, h3, h4, h5, _, h6, _⟩ := (show ObjOk X.prog X.w H s.heap a (.dK []) from I.hok a _ e)
    cases kv
    have e5 : es.toList = [] := by
      cases z : es.toList with
      | nil => rfl
      | cons y l =>
        rw [z] at h6
        cases h6
    refine ⟨[a], Reads.dict (kvs := []) (as := []) (bs := []) h3 h4.1 h5 ?_ ?_, fun z => ?_⟩
    · rw [e5]
      exact .nil
    · rw [e5]
      exact .nil
    · rw [List.mem_singleton] at z
      rw [← z] at hs
      simp at hs
theorem DkAll.reads (I : L2.Inv X pins σ H s) : ∀ {vs : List V} {us : List Value} {ds : List PyData}, DkAll q X.K H vs ds → Vals vs us → ∃ as, ReadsAll s.heap us ds as ∧ sysModules ∉ as
  | _, _, _, .nil, .nil => ⟨_, ReadsAll.nil, fun z => nomatch z⟩
  | _, _, _, .cons (d := d) (ds := ds) h t, .cons r1 r2 => by
    obtain ⟨as, a1, a2⟩ := Dk.reads I h r1
    obtain ⟨bs, b1, b2⟩ := DkAll.reads I t r2
    exact ⟨_, ReadsAll.cons a1 b1, fun z => (List.mem_append.mp z).elim a2 b2⟩
end
section
variable {X : Cx}
/-- repr(v) of a value of the menu -/
def rReprK (K : PySem.W.Frag) : List V → Hp → VK → Prop := fun xs H Q => ∃ (q : Addr) (v : V) (d : PyData), xs = [v] ∧ Dk q K H v d ∧ d.showable = true ∧ d.depth ≤ 60 ∧ d.shown.length ≤ sizeLine ∧ Q (.str d.shown) H
theorem call_reprK (hA : X.A.guards = some []) (hu : X.A.units + 64 < cLine) : CallR X (.builtin "repr") (rReprK X.K) := by
  intro pins s σ H xs us Q I r h
  obtain ⟨q, v, d, rfl, hd, hs, hdep, hz, q1⟩ := h
  obtain ⟨u, rfl, rx⟩ := vals1 r
  obtain ⟨as, rd, hsm⟩ := Dk.reads I hd rx
  have arm : ∀ a, v = .ref a → wpAny (model X.prog X.w) X.A (call (.builtin "repr") [u]) (EP X pins σ Q) X.xe s := by
    intro a e
    subst e
    cases (show u = Value.ref a from rx)
    refine repr_of_reads' rd hs (fun _ => hsm) hA (by omega) (fun b o e => e) ?_ hz
    intro h' u tk hk
    exact ⟨.str _, H, I.kept hk, ⟨u, rfl⟩, q1⟩
  rcases hd with ⟨n, hd⟩ | ⟨a, b, i, j, e1, e2, _⟩ | ⟨a, i, j, e1, e2, _⟩ | ⟨_, a, e, _⟩
  · cases hd with
    | non =>
      cases (show u = Value.none from rx)
      exact PySem.P.repr_of_none ⟨.str _, H, I.tok _, ⟨_, rfl⟩, q1⟩
    | bl b =>
      cases (show u = Value.bool b from rx)
      exact PySem.P.repr_of_bool ⟨.str _, H, I.tok _, ⟨_, rfl⟩, q1⟩
    | int i =>
      obtain ⟨t, rfl⟩ := (show ∃ t, u = Value.int i t from rx)
      exact PySem.P.repr_of_int (of_decide_eq_true hs) ⟨.str _, H, I.tok _, ⟨_, rfl⟩, q1⟩
    | str x hx =>
      obtain ⟨t, rfl⟩ := (show ∃ t, u = Value.str x t from rx)
      exact PySem.P.repr_of_str ⟨.str _, H, I.tok _, ⟨_, rfl⟩, q1⟩ hz
    | lst _ _ _ => exact arm _ rfl
    | dct _ _ => exact arm _ rfl
    | tup _ _ _ => exact arm _ rfl
  · exact arm a e2
  · exact arm a e2
  · exact arm a e
/-- repr of a list of such that was just laid -/
def rReprL (K : PySem.W.Frag) : List V → Hp → VK → Prop := fun xs H Q => ∃ (q p : Addr) (vs : List V) (ds : List PyData), xs = [.ref p] ∧ H p = some (.lst vs) ∧ p ≠ sysModules ∧ DkAll q K H vs ds ∧ (PyData.list ds).showable = true ∧ (PyData.list ds).depth ≤ 60 ∧ (PyData.list ds).shown.length ≤ sizeLine ∧ Q (.str (PyData.list ds).shown) H
theorem call_reprL (hA : X.A.guards = some []) (hu : X.A.units + 64 < cLine) : CallR X (.builtin "repr") (rReprL X.K) := by
  intro pins s σ H xs us Q I r h
  obtain ⟨q, p, vs, ds, rfl, hp, np, hd, hs, hdep, hz, q1⟩ := h
  obtain ⟨u, rfl, rx⟩ := vals1 r
  cases (show u = Value.ref p from rx)
  obtain ⟨_, its, n, rv, h1⟩ := (show ObjOk X.prog X.w H s.heap p (.lst vs) from I.hok p _ hp)
  obtain ⟨as, ra, hsm⟩ := DkAll.reads I hd rv
  refine repr_of_reads' (as := p :: as) (Reads.list h1 rfl rfl (by simpa using ra)) hs (fun _ m => ?_) hA (by omega) (fun b o e => e) ?_ hz
  · cases m with
    | head => exact np rfl
    | tail _ m => exact hsm m
  · intro h' u tk hk
    exact ⟨.str _, H, I.kept hk, ⟨u, rfl⟩, q1⟩
/-- [..]: the new list is no table of modules -/
def NewS (xs : List V) (H : Hp) (Q : VK) : Prop := xs.length ≤ sizeLine ∧ ∀ p, H p = none → p ≠ sysModules → Q (.ref p) (upd H p (.lst xs))
def tLstS (t : TA) : TE := fun σ H Q => t σ H fun xs H1 => NewS xs H1 Q
theorem pe_lstS {es : List Expr} {pos : Pos} {t : TA} (h : PA X es t) : PE X (.List es pos) (tLstS t) := by
  refine ⟨fun pins s σ H Q I hq => ?_⟩
  refine wpAny_List_spliced (thn (h.run pos pins s σ H _ I hq) fun us s1 ⟨xs, H1, I1, r, z, q⟩ => ⟨by rw [← r.length]; exact z, ?_⟩)
  have hf : H1 s1.heap.objs.size = none := I1.hok.fresh (Nat.le_refl _)
  refine ⟨.ref s1.heap.objs.size, upd H1 s1.heap.objs.size (.lst xs), I1.laid (t' := s1.toks) (fun b u e => Heap.get?_push_of_some _ e) (Nat.le_refl _) ?_, rfl, q _ hf (Ne.symm (Nat.ne_of_lt I1.big))⟩
  exact ⟨z, us, 0, r, Heap.get?_push_size _ rfl⟩
theorem g_newS {xs : List V} {H : Hp} {Q : VK} (hl : xs.length ≤ sizeLine) (q : ∀ p H2, H p = none → p ≠ sysModules → Same H H2 → H2 p = some (.lst xs) → Q (.ref p) H2) : NewS xs H Q :=
  ⟨hl, fun p hp np => q p _ hp np (same_new hp) upd_same⟩
theorem g_dnew {H : Hp} {σ : L2.St} {Q : VK} (q : ∀ p H2, H p = none → Same H H2 → H2 p = some (.dK []) → Q (.ref p) H2) : tDNewK σ H Q := fun p hp => q p _ hp (same_new hp) upd_same
end
end Mf
namespace Mf
open PySem PySem.Spec PySem.Calls PyProof.Rows L2
section
variable {K : PySem.W.Frag} {σ : L2.St} {H : Hp} {Q : VK} {te : TE} {t : TA} {f : Str} {c : Cn} {C : Addr} {fs : List Str}
theorem g_lstS (q : t σ H fun xs H1 => NewS xs H1 Q) : tLstS t σ H Q := q
def XAt (K : PySem.W.Frag) (f : Str) (x : V) (H1 : Hp) (Q : VK) : Prop := ∃ (a C : Addr) (fs : List (Str × V)) (v : V), x = .ref a ∧ Erc K C ∧ PySem.W.findIn K (.ref C) f = some none ∧ Er H1 a C fs ∧ fs.lookup f = some v ∧ Q v H1
theorem g_xat (q : te σ H fun x H1 => XAt K f x H1 Q) : tXat K f te σ H Q := q
def MkX (C : Addr) (fs : List Str) (vs : List V) (H1 : Hp) (Q : VK) : Prop := vs.length = fs.length ∧ ∀ a H2, H1 a = none → Same H1 H2 → Er H2 a C (fs.zip vs).reverse → Q (.ref a) H2
def MkXk (C : Addr) (fs : List Str) (vs : List V) (H1 : Hp) (Q : VK) : Prop := vs.length = fs.length ∧ ∀ a H2, H1 a = none → Same H1 H2 → Er H2 a C (fs.zip vs.reverse).reverse → Q (.ref a) H2
theorem g_mkX (q : t σ H fun vs H1 => MkX C fs vs H1 Q) : tMkX c C fs t σ H Q := q
theorem g_mkXk (q : t σ H fun vs H1 => MkXk C fs vs H1 Q) : tMkXk c C fs t σ H Q := q
end
section
variable {K : PySem.W.Frag} {σ : L2.St} {H : Hp} {Q : VK}
/-- a statement whose end is told apart -/
theorem g_seqJ {s1 s2 : TS} {D : Ends} (Pv : L2.St → Hp → Prop) (h1 : ∀ nx : L2.St → Hp → Prop, (∀ σ H, Pv σ H → nx σ H) → s1 ⟨nx, D.rt, D.bk, D.ct⟩ σ H) (h2 : ∀ σ H, Pv σ H → s2 D σ H) : tSeq s1 s2 D σ H := h1 _ h2
end
/-- errors of a part, one class behind another from C i on -/
inductive ErL (C : Nat → Addr) (v : V) (H : Hp) : Nat → List V → Prop
  | nil (i : Nat) : ErL C v H i []
  | cons {i : Nat} {a : Addr} {l : List V} : Er H a (C i) [("part", v)] → ErL C v H (i + 1) l → ErL C v H i (.ref a :: l)
theorem ErL.go {C : Nat → Addr} {v : V} {H H' : Hp} (s : Same H H') : ∀ {l : List V} {i : Nat}, ErL C v H i l → ErL C v H' i l
  | _, _, .nil i => .nil i
  | _, _, .cons e t => .cons (e.go s) (t.go s)
theorem ErL.at {C : Nat → Addr} {v : V} {H : Hp} : ∀ {l : List V} {i k : Nat} {x : V}, ErL C v H i l → l[k]? = some x → ∃ a, x = .ref a ∧ Er H a (C (i + k)) [("part", v)]
  | _, i, k, x, .nil _, h => by cases k <;> cases h
  | _, i, 0, x, .cons (a := a) e t, h => by
    cases h
    exact ⟨a, rfl, e⟩
  | _, i, k + 1, x, .cons e t, h => by
    obtain ⟨a, e1, e2⟩ := ErL.at t (k := k) h
    refine ⟨a, e1, ?_⟩
    rw [show i + (k + 1) = i + 1 + k by omega]
    exact e2
/-- errors as they are drawn and raised: caught as C's base -/
theorem exm_of {K : PySem.W.Frag} {C F : Addr} (h : ClsAt K C (.ref F :: veT)) (g : ClsAt K F veT) : PySem.W.exmOne K (.ref C) (.ref F) = some true := by
  refine PySem.W.exm_ref ?_ g.hd g.ty ?_
  · show PySem.W.mroIn K F (.type "BaseException") = some true
    rw [g.mro]
    rfl
  · show PySem.W.mroIn K C (.ref F) = some true
    rw [h.mro, List.contains_cons, List.contains_cons, beq_self_eq_true, Bool.true_or, Bool.or_true]
end Mf
/-! defs that raise, where the guards are known -/
namespace Mf
open PySem PySem.Spec PyProof.Rows L2
section
variable {P : Program} {w : World} {K : PySem.W.Frag} {mg : Str → Option Value} {base : Heap}
theorem okGX {x qual : Str} {st : Stmt} {f : Addr} {fd : FuncData} {N ps : List Str} {k : Nat} {sp : Sp} (F : Fun K x qual st f fd) (S : FnScope N ps (defScope st))
    (len : ∀ vs H Q E, sp vs H Q E → vs.length = ps.length)
    (hbody : ∀ (cdv : Value) (A : Around) (outer : List Env) (s : Shared) (H : Hp) (vs : List V) (Q : VK) (E : XK),
      (A.deeper (envOfC qual (defScope st) s.heap.objs.size f cdv)).guards = some [] →
      Room k (A.deeper (envOfC qual (defScope st) s.heap.objs.size f cdv)) → sp vs H Q E →
      ∃ t, PSs (cxOf (L2.CX P w) P w K mg base N qual (defScope st) f cdv A outer s H E) (defBody st) t ∧
        t { nx := fun _ H' => Q .non H', rt := Q } (start N vs) H) :
    FnG P w K mg base (L2.CX P w) (k + 1) f fd ps sp := by
  obtain ⟨oc, od, kV, doc, pm, an, cdv, ct, osl, rfl, lk, hcd⟩ := F.ex
  refine ⟨len, ?_⟩
  intro A hA outer s H args us vs Q E hr e0 hb r hsp
  have KX : K.In s.heap := e0.mod.kin.keeps fun b o e => (e0.bs b o e).1
  have lim : s.heap.NoLimit := e0.mod.nolimit.keeps fun b o e => (e0.bs b o e).1
  have hl := len _ _ _ _ hsp
  have kinds : ∀ y ∈ ps.zip us, (defScope st).names.lookup y.1 = some .local ∨
      ((defScope st).names.lookup y.1 = some .cell ∧ ((cellsFrom (s.heap.objs.size + 1) (defScope st).names []).lookup y.1).isSome = true) := by
    intro y hy
    obtain ⟨n, v⟩ := y
    cases S.par n (List.of_mem_zip hy).1 with
    | inl q => exact Or.inl q
    | inr q => exact Or.inr ⟨q, PySem.W.cellsFrom_some _ _ _ (.inl q)⟩
  refine codeAny_call_function hr.depth (KX _ _ lk) rfl S.co S.gen rfl (PySem.W.codeRec_of KX hcd) (hb _ _ _ _ ?_)
  refine wpAny_newFunctionEnv_cells S.kind kinds ?_
  intro env he s1 x
  subst he
  refine ⟨lim.keeps x.toInCall.keep, codeAny_func ?_⟩
  have hAg : (A.deeper (envOfC qual (defScope st) s.heap.objs.size f cdv)).guards = some [] := hA
  obtain ⟨t, ht, hq⟩ := hbody cdv A outer s H vs Q E hAg (hr.deeper _) hsp
  have I := inv_start (CX := L2.CX P w) (mg := mg) (base := base) (N := N) (qual := qual) (f := f) (cd := cdv) (E := E) S hr.hd e0 hl r x
  refine wpAny_mono (ht.run [] s1 (start N vs) H _ I hq) ?_ (fun e s' hs => hs)
  intro fl s' hs
  cases fl with
  | ret u =>
    obtain ⟨v, σ', H', J, rv, q⟩ := hs
    exact ⟨v, H', J.os, J.bare, J.base, J.hok, rv, q⟩
  | next =>
    obtain ⟨σ', H', J, q⟩ := hs
    exact ⟨V.non, H', J.os, J.bare, J.base, J.hok, (rfl : Value.none = Value.none), q⟩
  | brk => obtain ⟨_, _, _, q⟩ := hs; exact False.elim q
  | cont => obtain ⟨_, _, _, q⟩ := hs; exact False.elim q
end
section
variable {X : Cx} {CX : CXT} {k : Nat} {f : Addr} {fd : FuncData} {ps : List Str} {sp : Sp} {E : L2.St → XK} {x : Str} {p pos : Pos} {e : Expr} {es : List Expr} {t : TA}
theorem run_fnGS {pins : List (Addr × Obj)} {σ : L2.St} {H : Hp} {s : Shared} {Q : VK} {us : List Value} {vs : List V} (F : FnG X.prog X.w X.K X.mg X.base CX k f fd ps sp) (hA : X.A.guards = some []) (hr : Room k X.A) (hb : Binds X.K fd ps []) (hx : PassesAt CX X σ (E σ))
    (I : Inv X pins σ H s) (r : Vals vs us) (h : sp vs H Q (E σ)) : wpAny (model X.prog X.w) X.A (call (.ref f) us) (EP X pins σ Q) X.xe s := by
  have hl : us.length = ps.length := by rw [← r.length]; exact F.size _ _ _ _ h
  have b := hb s us I.kIn (by rw [List.append_nil]; exact hl)
  rw [List.append_nil] at b
  refine wpAny_call (codeAny_mono (F.go X.A hA X.stack s H ⟨us, []⟩ us vs Q (E σ) hr I.env0 b r h) fun r s' hq => ?_)
  cases r with
  | error e => exact hx pins H s e s' I hq
  | ok fl => cases fl with
    | ret u => exact I.after hq
    | next => exact hq.elim
    | brk => exact hq.elim
    | cont => exact hq.elim
/-- f(e, ..), which may raise, where the guards are known -/
theorem pe_callGS (F : FnG X.prog X.w X.K X.mg X.base CX k f fd ps sp) (hA : X.A.guards = some []) (hr : Room k X.A) (hg : Gl X x) (hm : X.mg x = some (.ref f)) (hk : PySem.W.keepIn X.K (.ref f) = true) (hb : Binds X.K fd ps []) (hx : ∀ σ, PassesAt CX X σ (E σ))
    (ha : PA X (e :: es) t) (hdb : (x == ("__debug__" : Str)) = false := by decide) (he : starEach (e :: es) X.env = (false, eval e X.env) :: starEach es X.env := by rfl) (hpl : (backTo pos (starEach es X.env)).any (·.1) = false := by rfl) :
    PE X (.Call (.Name x p) (e :: es) [] pos) (tCallS sp E t) := by
  refine ⟨fun pins s σ H Q I h => ?_⟩
  refine wpAny_Call_Name_kw (ld_glob I hg hm ?_ hdb)
  refine PySem.W.callWith_K (h₀ := X.base) I.ok.mod.kin hk (thn (ha.run pos pins s σ H _ I h) fun us s1 ⟨vs, H1, I1, r, q⟩ => ⟨I1.kIn, ?_⟩) he hpl
  exact run_fnGS F hA hr hb (hx σ) I1 r q
end
end Mf
/-! a for over enumerate(e), e a tuple -/
namespace Mf
open PySem PySem.Spec PyProof.Rows L2
theorem enumT_new (l : Addr) (its : Array Value) : Meets (Builtin.«enumerate.__new__» ⟨[.type "enumerate", .ref l], []⟩) (fun _ R s => s.heap.IsTuple l its ∧
    R (.ok (.ret (.ref (s.heap.push { cls := .type "tuple_iterator", data := .fields #[.ref l, .int 0 0] }).objs.size)))
      { s with heap := (s.heap.push { cls := .type "tuple_iterator", data := .fields #[.ref l, .int 0 0] }).push { cls := .type "enumerate", data := .fields #[.none, .bool false, .ref s.heap.objs.size, rawInt 0, .none, .none] } }) :=
  .of_wp fun pg w A R s k => by
    obtain ⟨hp, g, d, tk, os⟩ := s
    obtain ⟨kT, k⟩ := k
    have hsub := sub_enumerate
    have qT : ∀ {A' : Around} {E : Value → Shared → Prop} {Q : Value → Shared → Prop}, Q (.ref hp.objs.size) ⟨hp.push { cls := .type "tuple_iterator", data := .fields #[.ref l, .int 0 0] }, g, d, tk, os⟩ → wpAny (model pg w) A' (pyIter (.ref l)) Q E ⟨hp, g, d, tk, os⟩ :=
      fun q => (begins_tuple l its).iter pg w _ _ ⟨hp, g, d, tk, os⟩ _ kT q
    have kT' : Heap.IsTuple (Shared.heap ⟨hp, g, d, tk, os⟩) l its := kT
    obtain ⟨ol, kl, kc, n, kd⟩ := kT'
    have kl' : (Shared.heap ⟨hp, g, d, tk, os⟩).get? l = some ol := kl
    wp_walk using qT
    refine wpAny_stack_any fun st => wpAny_pure ?_
    split
    · rename_i c _ _ _ _ _
      cases (c == Value.type "enumerate")
      · wp_walk using qT
        exact ⟨_, rfl, k⟩
      · wp_walk using qT
        exact ⟨_, rfl, k⟩
    · wp_walk using qT
      exact ⟨_, rfl, k⟩
theorem enumT_call {pg : Program} {w : World} {A : Around} {E : Value → Shared → Prop} {s : Shared} {l : Addr} {its : Array Value} {Q : Value → Shared → Prop} (kT : s.heap.IsTuple l its)
    (k : ∀ h', IsEnum h' (s.heap.objs.size + 1) s.heap.objs.size 0 .none → h'.IsTupleIter s.heap.objs.size l 0 → (∀ b o, s.heap.get? b = some o → h'.get? b = some o) → Q (.ref (s.heap.objs.size + 1)) { s with heap := h' }) :
    wpAny (model pg w) A (call (.type "enumerate") [.ref l]) Q E s := by
  refine callType_new F.called_enumerate (by decide) (F.typeCall_enumerate_1 _) (F.newCall_enumerate_1 _) (fun obj => F.args_object_init_2 obj _) F.entry_enumerate_new (enumT_new l its) ⟨kT, ?_⟩
  have hz : (s.heap.push { cls := .type "tuple_iterator", data := .fields #[.ref l, .int 0 0] }).objs.size = s.heap.objs.size + 1 := Heap.size_push ..
  show _ ∧ _
  rw [hz]
  have he : IsEnum ((s.heap.push { cls := .type "tuple_iterator", data := .fields #[.ref l, .int 0 0] }).push { cls := .type "enumerate", data := .fields #[.none, .bool false, .ref s.heap.objs.size, rawInt 0, .none, .none] })
      (s.heap.objs.size + 1) s.heap.objs.size 0 .none := by
    have := Heap.get?_push_size (s.heap.push { cls := .type "tuple_iterator", data := .fields #[.ref l, .int 0 0] }) (o := { cls := .type "enumerate", data := .fields #[.none, .bool false, .ref s.heap.objs.size, rawInt 0, .none, .none] }) rfl
    rw [hz] at this
    exact this
  exact ⟨⟨_, he, rfl⟩, k _ he ⟨_, Heap.get?_push_of_some _ (Heap.get?_push_size _ rfl), rfl, rfl⟩ fun b o x => Heap.get?_push_of_some _ (Heap.get?_push_of_some _ x)⟩
/-- the tuple at a, each item in a new pair -/
def IteT (K : PySem.W.Frag) (a : Addr) : It :=
  ⟨fun i H => ∃ (xs : List V) (x : V), SqT K H a xs ∧ xs[i]? = some x, fun i H v H' => ∃ T x, v = .ref T ∧ H T = none ∧ H' = upd H T (.tup [.int (i : Nat), x]) ∧ ∀ xs, SqT K H a xs → xs[i]? = some x,
    fun i H => ∃ xs : List V, SqT K H a xs ∧ xs.length ≤ i⟩
theorem enumT_turn {P : Program} {w : World} {K : PySem.W.Frag} {elts : List Expr} {kk : Nat} {tpos : Pos} (a e it : Addr) :
    Turn P w K (.Tuple elts kk tpos) (IteT K a) [e, it] e (fun i h => (∃ old, IsEnum h e it ((i : Nat) : Int) old) ∧ h.IsTupleIter it a i ∧ e ≠ it) where
  mem := by simp
  obj := fun i h st b hb => by
    obtain ⟨⟨old, he⟩, ⟨o, ho, hc, hd⟩, _⟩ := st
    have e' : b = e ∨ b = it := by simpa using hb
    rcases e' with z | z
    · rw [z]; exact ⟨_, he, fun v q => nomatch q⟩
    · rw [z]; exact ⟨o, ho, fun v q => by rw [hd] at q; cases q⟩
  keep := fun i h h' st k => let ⟨⟨old, he⟩, hi, hne⟩ := st; ⟨⟨old, k e (by simp) _ he⟩, hi.at fun o q => k it (by simp) o q, hne⟩
  item := by
    intro X hP hw hK hc i pins s σ H E I hf st hg
    subst hP hw hK
    obtain ⟨⟨old, he⟩, hit, hne⟩ := st
    obtain ⟨xs, x, hq, hx⟩ := hg
    obtain ⟨its, rv, p, hz⟩ := I.tuple hq
    obtain ⟨u, hu, ru⟩ := rv.get hx
    have pT : s.heap.IsTuple a its.toArray := p
    have hel : e < s.heap.objs.size := Heap.lt_size he
    have hil : it < s.heap.objs.size := by obtain ⟨_, q, _⟩ := hit; exact Heap.lt_size q
    have nat : a ≠ it := fun z => by
      obtain ⟨o1, q1, c1, _⟩ := pT
      obtain ⟨o2, q2, c2, _⟩ := hit
      rw [z, q2] at q1
      cases q1
      rw [c1] at c2
      exact absurd c2 (by decide)
    have nae : a ≠ e := fun z => by
      obtain ⟨o1, q1, c1, _⟩ := pT
      rw [z, he] at q1
      cases q1
      have c2 : Value.type "enumerate" = Value.type "tuple" := c1
      exact absurd c2 (by decide)
    have hi2 : i < its.toArray.size := by
      have : i < its.length := (List.getElem?_eq_some_iff.mp hu).1
      simpa using this
    refine wpAny_pyNext_enum_itemD (Draws.tuple (show X.A.in1.handled = none from I.ok.hd hc) it a nat its.toArray) he ⟨hit, pT⟩ hi2 hne (fun z => by
      rcases List.mem_cons.mp z with z | z
      · exact hne z
      · exact nae (List.mem_singleton.mp z).symm) fun x2 h' tk hP2 ho hst hT hsz hk => ?_
    obtain ⟨hit', _⟩ := hst
    obtain rfl : x2 = u := by
      have z : its.toArray[i]? = some x2 := hP2
      rw [show its.toArray[i]? = some u by simpa using hu] at z
      exact (Option.some.inj z).symm
    refine ⟨_, rfl, wpAny_letOwnedTupleGo_enum (s := { s with heap := h', toks := tk + 1 }) ho fun h'' he' sb => ?_⟩
    have hT2 : h''.get? s.heap.objs.size = some { cls := .type "tuple", data := .seq #[.int i tk, x2] } := (sb.2 _ (Nat.ne_of_gt hel)).trans hT
    have new : ObjOk X.prog X.w (upd H s.heap.objs.size (.tup [.int (i : Nat), x])) h'' s.heap.objs.size (.tup [.int (i : Nat), x]) :=
      ⟨by show 2 ≤ sizeLine; decide, [.int i tk, x2], .cons ⟨_, rfl⟩ (.cons ru .nil), ⟨_, hT2, rfl, _, rfl⟩⟩
    have I1 : Inv X pins σ (upd H s.heap.objs.size (.tup [.int (i : Nat), x])) { s with heap := h'', toks := tk + 1 } :=
      I.turnedNew (ch := [e, it]) (fun b ob hb q => (sb.2 b (fun z => hb (by simp [z]))).trans (hk b ob (fun z => hb (by simp [z])) (fun z => hb (by simp [z])) q)) hf (Nat.le_refl _) new
    refine ⟨.ref s.heap.objs.size, _, I1, rfl, ⟨_, x, rfl, I.hok.fresh (Nat.le_refl _), rfl, fun ys hy => by rw [I.tuple_inj hy hq]; exact hx⟩, ⟨⟨x2, ?_⟩, hit'.at fun o q => (sb.2 it (Ne.symm hne)).trans q, hne⟩, fun b hb => ?_⟩
    · have e1 : ((i + 1 : Nat) : Int) = (i : Int) + 1 := by omega
      rw [e1]; exact he'
    · have hb' : b < s.heap.objs.size := by
        have e' : b = e ∨ b = it := by simpa using hb
        rcases e' with z | z
        · rw [z]; exact hel
        · rw [z]; exact hil
      rw [upd_ne (Nat.ne_of_lt hb')]
      exact (hf b hb).1
  done := by
    intro X hP hw hK hc i pins s σ H E I hf st hg
    subst hP hw hK
    obtain ⟨⟨old, he⟩, hit, hne⟩ := st
    obtain ⟨xs, hq, hx⟩ := hg
    obtain ⟨its, rv, p, hz⟩ := I.tuple hq
    obtain ⟨f0, f1, f2, f3, f4, f5⟩ := hf it (by simp)
    have hl := rv.length
    have pT : s.heap.IsTuple a its.toArray := p
    have nat : a ≠ it := fun z => by
      obtain ⟨o1, q1, c1, _⟩ := pT
      obtain ⟨o2, q2, c2, _⟩ := hit
      rw [z, q2] at q1
      cases q1
      rw [c1] at c2
      exact absurd c2 (by decide)
    unfold pyNext
    have hT : s.TypeIs (.ref e) "enumerate" := ⟨_, he, rfl⟩
    refine wpAny_bind (wpAny_attempt (wpAny_callSpecial?_slot (name := Str.ofString "__next__") hT F.slot_enumerate_next
      (wpAny_call_entry F.slot_enumerate_next hT F.entry_enumerate_next ?_ (F.args_enumerate_next_1 _))))
    show wpAny _ _ (field (.ref e) 2 >>= _) _ _ _
    refine wpAny_bind (wpAny_field he rfl (x := .ref it) rfl ?_)
    refine wpAny_bind (wpAny_nextOf_tuple_end (show X.A.in1.handled = none from I.ok.hd hc) hit pT (by simp; omega) fun h' x he' hx' => ?_)
    obtain ⟨o, ho, hcx⟩ := hx'
    refine wpAny_bind (wpAny_isInstance (T := "StopIteration") (b := true) ⟨o, ho, hcx⟩ isSubtype_stop ?_)
    exact wpAny_pure ⟨rfl, I.turned (t' := s.toks) (fun b o hb q => he' b o hb q) f0 f1 f3 f4 f5⟩
  self := fun A i s Q E st h => let ⟨⟨_, he⟩, _⟩ := st; wpAny_pyIter_enum he h
def iEnumT (K : PySem.W.Frag) (ta : TA) : TI := fun σ H R => ta σ H fun vs H1 => ∃ a xs, vs = [.ref a] ∧ SqT K H1 a xs ∧ R (IteT K a) H1
theorem pi_enumT {X : Cx} {e : Expr} {ta : TA} {p pos tpos : Pos} {elts : List Expr} {kk : Nat} (hg : Gl X "enumerate") (hm : X.mg "enumerate" = none) (ha : PA X [e] ta) (hs : starEach [e] X.env = [(false, eval e X.env)] := by rfl) :
    PI X (.Tuple elts kk tpos) (.Call (.Name "enumerate" p) [e] [] pos) (iEnumT X.K ta) := by
  refine ⟨fun pins s σ H R I h => ?_⟩
  refine Call_ (ld_blt I hg hm boot_enumerate (PyProof.Rows.callWith_type1 (thn (ha.run pos pins s σ H _ I h) fun us s1 ⟨vs, H1, I1, r1, q1⟩ => ?_) hs rfl))
  obtain ⟨a, xs, ex, hq, q⟩ := q1
  subst ex
  cases r1 with
  | cons r rr =>
    cases rr
    cases r
    obtain ⟨its, rv, p', hz⟩ := I1.tuple hq
    refine enumT_call (show s1.heap.IsTuple a its.toArray from p') fun h' he hit hk => wpAny_pyIter_enum he ?_
    have I2 : Inv X pins σ H1 { s1 with heap := h' } := I1.kept (t' := s1.toks) hk
    refine ⟨s1.heap.objs.size + 1, [s1.heap.objs.size + 1, s1.heap.objs.size], _, _, H1, rfl, I2, enumT_turn a (s1.heap.objs.size + 1) s1.heap.objs.size, ⟨⟨.none, he⟩, hit, Nat.succ_ne_self _⟩, fun b hb => ?_, q⟩
    have e' : b = s1.heap.objs.size + 1 ∨ b = s1.heap.objs.size := by simpa using hb
    have hle : s1.heap.objs.size ≤ b := by
      rcases e' with z | z
      · rw [z]; exact Nat.le_add_right _ _
      · rw [z]; exact Nat.le_refl _
    exact I1.fpOk hle (I1.hok.fresh hle)
end Mf
namespace Mf
/-! ### polynomials as lists of fractions: the mathematics -/
def co (l : List Rat) (i : Nat) : Rat := l.getD i 0
theorem co_ge {l : List Rat} {i : Nat} (h : l.length ≤ i) : co l i = 0 := by
  unfold co
  rw [List.getD_eq_getElem?_getD, List.getElem?_eq_none h]
  rfl
theorem co_get {l : List Rat} {i : Nat} (h : i < l.length) : co l i = l[i] := by
  unfold co
  rw [List.getD_eq_getElem?_getD, List.getElem?_eq_getElem h]
  rfl
theorem co_some {l : List Rat} {i : Nat} {r : Rat} (h : l[i]? = some r) : co l i = r := by
  unfold co
  rw [List.getD_eq_getElem?_getD, h]
  rfl
theorem co_set {l : List Rat} {k n : Nat} {x : Rat} (h : k < l.length) : co (l.set k x) n = if n = k then x else co l n := by
  unfold co
  rw [List.getD_eq_getElem?_getD, List.getD_eq_getElem?_getD, List.getElem?_set]
  by_cases e : k = n
  · subst e
    rw [if_pos rfl, if_pos rfl, if_pos h]
    rfl
  · rw [if_neg e, if_neg (fun z => e z.symm)]
theorem co_take {l : List Rat} {k n : Nat} (h : n < k) : co (l.take k) n = co l n := by
  unfold co
  rw [List.getD_eq_getElem?_getD, List.getD_eq_getElem?_getD, List.getElem?_take, if_pos h]
theorem co_take' {l : List Rat} {k n : Nat} (h : k ≤ n) : co (l.take k) n = 0 := co_ge (by rw [List.length_take]; omega)
theorem co_append {l m : List Rat} {n : Nat} : co (l ++ m) n = if n < l.length then co l n else co m (n - l.length) := by
  unfold co
  simp only [List.getD_eq_getElem?_getD, List.getElem?_append]
  split <;> rfl
theorem co_nil {n : Nat} : co [] n = 0 := co_ge (Nat.zero_le _)
theorem co_map {f : Nat → Rat} {m n : Nat} (h : n < m) : co ((List.range m).map f) n = f n := by
  rw [co_get (by simpa using h)]
  simp
theorem ext_co {a b : List Rat} (hl : a.length = b.length) (h : ∀ i, co a i = co b i) : a = b := by
  refine List.ext_getElem hl fun i h1 h2 => ?_
  have := h i
  rw [co_get h1, co_get h2] at this
  exact this
/-- how long it is without zeros at its end, looked at up to n -/
def tlen (l : List Rat) : Nat → Nat
  | 0 => 0
  | n + 1 => if co l n = 0 then tlen l n else n + 1
def trimR (l : List Rat) : List Rat := l.take (tlen l l.length)
theorem tlen_le (l : List Rat) : ∀ n, tlen l n ≤ n
  | 0 => Nat.le_refl _
  | n + 1 => by
    unfold tlen
    split
    · exact Nat.le_succ_of_le (tlen_le l n)
    · exact Nat.le_refl _
theorem tlen_zero (l : List Rat) : ∀ n i, tlen l n ≤ i → i < n → co l i = 0
  | 0, i, _, h => absurd h (Nat.not_lt_zero _)
  | n + 1, i, h, h2 => by
    unfold tlen at h
    split at h
    · rename_i e
      by_cases z : i = n
      · rw [z]; exact e
      · exact tlen_zero l n i h (by omega)
    · omega
theorem tlen_last (l : List Rat) : ∀ n, tlen l n ≠ 0 → co l (tlen l n - 1) ≠ 0
  | 0, h => absurd rfl h
  | n + 1, h => by
    unfold tlen at h ⊢
    by_cases e : co l n = 0
    · rw [if_pos e] at h ⊢
      exact tlen_last l n h
    · rw [if_neg e]
      exact e
theorem len_trim (l : List Rat) : (trimR l).length = tlen l l.length := by
  unfold trimR
  rw [List.length_take]
  have := tlen_le l l.length
  omega
theorem len_trim_le (l : List Rat) : (trimR l).length ≤ l.length := by
  rw [len_trim]
  exact tlen_le _ _
theorem co_trim (l : List Rat) (i : Nat) : co (trimR l) i = co l i := by
  by_cases h : i < tlen l l.length
  · exact co_take h
  · rw [show co (trimR l) i = 0 from co_take' (by omega)]
    by_cases h2 : i < l.length
    · exact (tlen_zero l l.length i (by omega) h2).symm
    · exact (co_ge (by omega)).symm
/-- no zero at the end -/
def Tr (l : List Rat) : Prop := l ≠ [] → co l (l.length - 1) ≠ 0
theorem tr_trim (l : List Rat) : Tr (trimR l) := by
  intro h
  rw [co_trim, len_trim]
  refine tlen_last l _ fun z => h ?_
  refine List.length_eq_zero_iff.mp ?_
  rw [len_trim, z]
theorem Tr.le {a b : List Rat} (ha : Tr a) (h : ∀ i, co a i = co b i) : a.length ≤ b.length := by
  by_cases e : a = []
  · rw [e]; exact Nat.zero_le _
  · have h1 := ha e
    rw [h] at h1
    have h2 : 0 < a.length := List.length_pos_iff.mpr e
    by_cases z : a.length - 1 < b.length
    · omega
    · exact absurd (co_ge (by omega)) h1
theorem Tr.ext {a b : List Rat} (ha : Tr a) (hb : Tr b) (h : ∀ i, co a i = co b i) : a = b :=
  ext_co (Nat.le_antisymm (ha.le h) (hb.le fun i => (h i).symm)) h
theorem Tr.trim {a : List Rat} (ha : Tr a) : trimR a = a := (tr_trim a).ext ha (co_trim a)
theorem trim_eq {a b : List Rat} (h : ∀ i, co a i = co b i) : trimR a = trimR b := (tr_trim a).ext (tr_trim b) fun i => by rw [co_trim, co_trim, h]
theorem mem_trim {l : List Rat} {r : Rat} (h : r ∈ trimR l) : r ∈ l := List.mem_of_mem_take h
/-- sums of products: i of them -/
def cs (a b : Nat → Rat) : Nat → Nat → Rat
  | 0, _ => 0
  | i + 1, n => cs a b i n + (if i ≤ n then a i * b (n - i) else 0)
theorem cs_succ (a b : Nat → Rat) (i n : Nat) : cs a b (i + 1) n = cs a b i n + (if i ≤ n then a i * b (n - i) else 0) := rfl
theorem cs_stop (a b : Nat → Rat) {m n : Nat} (h : ∀ k, m ≤ k → k ≤ n → a k * b (n - k) = 0) : ∀ i, m ≤ i → cs a b i n = cs a b m n
  | 0, hi => by
    have : m = 0 := by omega
    rw [this]
  | i + 1, hi => by
    by_cases e : m = i + 1
    · rw [e]
    · rw [cs_succ, cs_stop a b h i (by omega)]
      split
      · rename_i z
        rw [h i (by omega) z, Rat.add_zero]
      · rw [Rat.add_zero]
/-- a number of a product -/
def pc (a b : Nat → Rat) (n : Nat) : Rat := cs a b (n + 1) n
theorem cs_pc (a b : Nat → Rat) (n m : Nat) (h : ∀ k, m ≤ k → a k = 0) : cs a b m n = pc a b n := by
  have z : ∀ k, m ≤ k → k ≤ n → a k * b (n - k) = 0 := fun k h1 _ => by rw [h k h1, Rat.zero_mul]
  have z2 : ∀ k, n + 1 ≤ k → k ≤ n → a k * b (n - k) = 0 := fun k h1 h2 => by omega
  unfold pc
  by_cases e : m ≤ n + 1
  · rw [cs_stop a b z (n + 1) e]
  · rw [cs_stop a b z2 m (by omega)]
theorem cs_co (a : List Rat) (b : Nat → Rat) (n : Nat) : cs (co a) b a.length n = pc (co a) b n := cs_pc _ _ _ _ fun k h => co_ge h
theorem pc_congr {a a' b b' : Nat → Rat} (h1 : ∀ i, a i = a' i) (h2 : ∀ i, b i = b' i) (n : Nat) : pc a b n = pc a' b' n := by
  rw [funext h1, funext h2]
theorem pc_zero {a b : List Rat} {n : Nat} (h : a.length + b.length - 1 ≤ n) : pc (co a) (co b) n = 0 := by
  have key : ∀ i, cs (co a) (co b) i n = 0 := by
    intro i
    induction i with
    | zero => rfl
    | succ i ih =>
      unfold cs
      rw [ih, Rat.zero_add]
      split
      · by_cases e : a.length ≤ i
        · rw [co_ge e, Rat.zero_mul]
        · rw [co_ge (l := b) (by omega), Rat.mul_zero]
      · rfl
  exact key _
theorem cs_add_left (a a' b : Nat → Rat) (n : Nat) : ∀ i, cs (fun k => a k + a' k) b i n = cs a b i n + cs a' b i n
  | 0 => by show (0 : Rat) = 0 + 0; rw [Rat.add_zero]
  | i + 1 => by
    unfold cs
    rw [cs_add_left a a' b n i]
    split <;> grind
theorem pc_sub_left (a a' b : Nat → Rat) (n : Nat) : pc (fun k => a k - a' k) b n = pc a b n - pc a' b n := by
  have key : ∀ i, cs (fun k => a k - a' k) b i n = cs a b i n - cs a' b i n := by
    intro i
    induction i with
    | zero => show (0 : Rat) = 0 - 0; grind
    | succ i ih =>
      unfold cs
      rw [ih]
      split <;> grind
  exact key _
/-- one number of the first one is put in -/
theorem pc_set {a a' b : Nat → Rat} {s : Nat} {x : Rat} (h0 : a s = 0) (h1 : a' s = x) (h2 : ∀ k, k ≠ s → a' k = a k) (n : Nat) : pc a' b n = pc a b n + (if s ≤ n then x * b (n - s) else 0) := by
  have key : ∀ i, cs a' b i n = cs a b i n + (if s < i then (if s ≤ n then x * b (n - s) else 0) else 0) := by
    intro i
    induction i with
    | zero => show (0 : Rat) = 0 + _; rw [if_neg (Nat.not_lt_zero _)]; grind
    | succ i ih =>
      rw [cs_succ, cs_succ, ih]
      by_cases e : i = s
      · subst e
        rw [h1, h0, if_neg (Nat.lt_irrefl i), if_pos (Nat.lt_succ_self i)]
        split <;> grind
      · rw [h2 i e]
        by_cases z : s < i
        · have z2 : s < i + 1 := by omega
          simp only [if_pos z, if_pos z2]
          split <;> split <;> grind
        · have z2 : ¬ s < i + 1 := by omega
          simp only [if_neg z, if_neg z2]
          split <;> grind
  unfold pc
  rw [key]
  by_cases e : s ≤ n
  · rw [if_pos (by omega)]
  · rw [if_neg e, if_neg (by omega : ¬ s < n + 1)]
/-- the product -/
def conv (a b : List Rat) : List Rat := (List.range (a.length + b.length - 1)).map (pc (co a) (co b))
theorem len_conv (a b : List Rat) : (conv a b).length = a.length + b.length - 1 := by simp [conv]
theorem co_conv (a b : List Rat) (n : Nat) : co (conv a b) n = pc (co a) (co b) n := by
  by_cases h : n < a.length + b.length - 1
  · exact co_map h
  · rw [co_ge (by rw [len_conv]; omega), pc_zero (by omega)]
def padd (a b : List Rat) : List Rat := (List.range (max a.length b.length)).map fun n => co a n + co b n
theorem len_padd (a b : List Rat) : (padd a b).length = max a.length b.length := by simp [padd]
theorem co_padd (a b : List Rat) (n : Nat) : co (padd a b) n = co a n + co b n := by
  by_cases h : n < max a.length b.length
  · exact co_map h
  · rw [co_ge (by rw [len_padd]; omega), co_ge (l := a) (by omega), co_ge (l := b) (by omega)]
    grind
/-- dividing is unique -/
theorem div_uniq {b : List Rat} (hb : b ≠ []) (hl : co b (b.length - 1) ≠ 0) {d e : Nat → Rat} {N : Nat} (hd : ∀ k, N ≤ k → d k = 0) (he : ∀ k, b.length - 1 ≤ k → e k = 0)
    (h : ∀ n, pc d (co b) n + e n = 0) : (∀ k, d k = 0) ∧ ∀ k, e k = 0 := by
  have hb0 : 0 < b.length := List.length_pos_iff.mpr hb
  have top : ∀ j k, N ≤ k + j → d k = 0 := by
    intro j
    induction j with
    | zero => exact fun k hk => hd k hk
    | succ j ih =>
      intro k hk
      have h1 := h (k + (b.length - 1))
      rw [he _ (by omega), Rat.add_zero] at h1
      have h2 : pc d (co b) (k + (b.length - 1)) = d k * co b (b.length - 1) := by
        rw [← cs_pc d (co b) (k + (b.length - 1)) (k + 1) fun i hi => ih i (by omega)]
        have low : ∀ i, i ≤ k → cs d (co b) i (k + (b.length - 1)) = 0 := by
          intro i
          induction i with
          | zero => intro _; rfl
          | succ i ih2 =>
            intro hi
            unfold cs
            rw [ih2 (by omega), if_pos (by omega), co_ge (l := b) (by omega)]
            grind
        unfold cs
        rw [low k (Nat.le_refl k), if_pos (by omega), Rat.zero_add, show k + (b.length - 1) - k = b.length - 1 by omega]
      rw [h2] at h1
      rcases Rat.mul_eq_zero.mp h1 with z | z
      · exact z
      · exact absurd z hl
  have d0 : ∀ k, d k = 0 := fun k => top N k (by omega)
  refine ⟨d0, fun k => ?_⟩
  have h1 := h k
  have h2 : pc d (co b) k = 0 := by
    rw [← cs_pc d (co b) k 0 fun i _ => d0 i]
    rfl
  rw [h2, Rat.zero_add] at h1
  exact h1
/-- slopes -/
def slp (a : Nat → Rat) (n : Nat) : Rat := ((n + 1 : Nat) : Rat) * a (n + 1)
theorem slp_cs (a b : Nat → Rat) (n : Nat) : ((n + 1 : Nat) : Rat) * pc a b (n + 1) = pc (slp a) b n + pc a (slp b) n := by
  have natc : ∀ x y : Nat, ((x + y : Nat) : Rat) = (x : Rat) + (y : Rat) := fun x y => Rat.natCast_add x y
  have k1 : ∀ i, i ≤ n + 1 → cs (fun k => (k : Rat) * a k) b (i + 1) (n + 1) = cs (slp a) b i n := by
    intro i
    induction i with
    | zero =>
      intro _
      show 0 + (if 0 ≤ n + 1 then ((0 : Nat) : Rat) * a 0 * b (n + 1 - 0) else 0) = 0
      rw [if_pos (Nat.zero_le _)]
      have : ((0 : Nat) : Rat) = 0 := rfl
      grind
    | succ i ih =>
      intro hi
      rw [show cs (fun k => (k : Rat) * a k) b (i + 1 + 1) (n + 1) = cs (fun k => (k : Rat) * a k) b (i + 1) (n + 1) + (if i + 1 ≤ n + 1 then ((i + 1 : Nat) : Rat) * a (i + 1) * b (n + 1 - (i + 1)) else 0) from rfl, ih (by omega)]
      show _ = cs (slp a) b i n + (if i ≤ n then slp a i * b (n - i) else 0)
      rw [if_pos hi, if_pos (by omega), show n + 1 - (i + 1) = n - i by omega]
      rfl
  have k2 : ∀ i, i ≤ n + 1 → cs a (fun k => (k : Rat) * b k) i (n + 1) = cs a (slp b) i n := by
    intro i
    induction i with
    | zero => intro _; rfl
    | succ i ih =>
      intro hi
      unfold cs
      rw [ih (by omega), if_pos (by omega), if_pos (by omega), show n + 1 - i = n - i + 1 by omega]
      rfl
  have k3 : ∀ i, i ≤ n + 2 → ((n + 1 : Nat) : Rat) * cs a b i (n + 1) = cs (fun k => (k : Rat) * a k) b i (n + 1) + cs a (fun k => (k : Rat) * b k) i (n + 1) := by
    intro i
    induction i with
    | zero =>
      intro _
      show _ * (0 : Rat) = 0 + 0
      grind
    | succ i ih =>
      intro hi
      unfold cs
      rw [if_pos (by omega), if_pos (by omega), if_pos (by omega)]
      have e := ih (by omega)
      have e2 : ((n + 1 : Nat) : Rat) = (i : Rat) + ((n + 1 - i : Nat) : Rat) := by
        rw [← natc, show i + (n + 1 - i) = n + 1 by omega]
      grind
  have e := k3 (n + 2) (Nat.le_refl _)
  rw [k1 (n + 1) (Nat.le_refl _)] at e
  have e3 : cs a (fun k => (k : Rat) * b k) (n + 2) (n + 1) = cs a (slp b) (n + 1) n := by
    show cs a (fun k => (k : Rat) * b k) (n + 1) (n + 1) + (if n + 1 ≤ n + 1 then a (n + 1) * (((n + 1 - (n + 1) : Nat) : Rat) * b (n + 1 - (n + 1))) else 0) = _
    rw [k2 (n + 1) (Nat.le_refl _), if_pos (Nat.le_refl _), show n + 1 - (n + 1) = 0 by omega]
    have : ((0 : Nat) : Rat) = 0 := rfl
    grind
  rw [e3] at e
  exact e
def slope (l : List Rat) : List Rat := (List.range (l.length - 1)).map (slp (co l))
theorem len_slope (l : List Rat) : (slope l).length = l.length - 1 := by simp [slope]
theorem co_slope (l : List Rat) (n : Nat) : co (slope l) n = slp (co l) n := by
  by_cases h : n < l.length - 1
  · exact co_map h
  · rw [co_ge (by rw [len_slope]; omega)]
    unfold slp
    rw [co_ge (l := l) (by omega)]
    grind
end Mf
namespace Mf
open PySem PySem.Spec PyProof.Rows L2
/-! ### lists of reduced fractions on the heap -/
/-- all tuples stay -/
def KeepT (H H' : Hp) : Prop := ∀ b xs, H b = some (.tup xs) → H' b = some (.tup xs)
theorem Same.kt {H H' : Hp} (s : Same H H') : KeepT H H' := fun b xs e => s b _ e
theorem KeepT.refl (H : Hp) : KeepT H H := fun _ _ e => e
theorem KeepT.trans {H H1 H2 : Hp} (a : KeepT H H1) (b : KeepT H1 H2) : KeepT H H2 := fun c xs e => b c xs (a c xs e)
theorem SameX.kt {K : PySem.W.Frag} {q : Addr} {t : Int} {H H' : Hp} (s : SameX q H H') (hq : Qy K q t H) : KeepT H H' := fun b xs e => by
  refine s.kept b _ (fun z => ?_) e
  obtain ⟨c, ns, r, h1, _⟩ := hq
  rw [z, h1] at e
  cases e
theorem upd_kt {H : Hp} {D : Addr} {acc : List V} {o : HO} (e : H D = some (.lst acc)) : KeepT H (upd H D o) := fun b xs eb => by
  rw [upd_ne (fun z => by rw [z, e] at eb; cases eb)]
  exact eb
inductive TL (H : Hp) : List V → List Rat → Prop
  | nil : TL H [] []
  | cons {a : Addr} {r : Rat} {vs : List V} {rs : List Rat} : H a = some (.tup (rv r)) → TL H vs rs → TL H (.ref a :: vs) (r :: rs)
theorem TL.go {H H' : Hp} (s : KeepT H H') : ∀ {vs : List V} {rs : List Rat}, TL H vs rs → TL H' vs rs
  | _, _, .nil => .nil
  | _, _, .cons e t => .cons (s _ _ e) (TL.go s t)
theorem TL.len {H : Hp} : ∀ {vs : List V} {rs : List Rat}, TL H vs rs → vs.length = rs.length
  | _, _, .nil => rfl
  | _, _, .cons _ t => congrArg Nat.succ (TL.len t)
theorem TL.get {H : Hp} : ∀ {vs : List V} {rs : List Rat} {i : Nat} {v : V}, TL H vs rs → vs[i]? = some v → ∃ a, v = .ref a ∧ H a = some (.tup (rv (co rs i))) ∧ rs[i]? = some (co rs i)
  | _, _, _, _, .nil, h => by cases h
  | _, _, 0, _, .cons e _, h => by
    cases h
    exact ⟨_, rfl, e, rfl⟩
  | _, _, i + 1, v, .cons e t, h => by
    obtain ⟨a, h1, h2, h3⟩ := TL.get (i := i) (v := v) t h
    exact ⟨a, h1, h2, h3⟩
theorem TL.at {H : Hp} {vs : List V} {rs : List Rat} {i : Nat} (h : TL H vs rs) (hi : i < rs.length) : ∃ a, vs[i]? = some (.ref a) ∧ H a = some (.tup (rv (co rs i))) := by
  have : i < vs.length := by rw [h.len]; exact hi
  obtain ⟨a, h1, h2, _⟩ := h.get (List.getElem?_eq_getElem this)
  exact ⟨a, by rw [List.getElem?_eq_getElem this, h1], h2⟩
theorem TL.snoc {H : Hp} {a : Addr} {r : Rat} (e : H a = some (.tup (rv r))) : ∀ {vs : List V} {rs : List Rat}, TL H vs rs → TL H (vs ++ [.ref a]) (rs ++ [r])
  | _, _, .nil => .cons e .nil
  | _, _, .cons g t => .cons g (TL.snoc e t)
theorem TL.app {H : Hp} : ∀ {vs ws : List V} {rs ss : List Rat}, TL H vs rs → TL H ws ss → TL H (vs ++ ws) (rs ++ ss)
  | _, _, _, _, .nil, h => h
  | _, _, _, _, .cons e t, h => .cons e (TL.app t h)
theorem TL.take {H : Hp} : ∀ {vs : List V} {rs : List Rat} (n : Nat), TL H vs rs → TL H (vs.take n) (rs.take n)
  | _, _, _, .nil => by rw [List.take_nil, List.take_nil]; exact .nil
  | _, _, 0, .cons _ _ => .nil
  | _, _, n + 1, .cons e t => .cons e (TL.take n t)
theorem TL.drop {H : Hp} : ∀ {vs : List V} {rs : List Rat} (n : Nat), TL H vs rs → TL H (vs.drop n) (rs.drop n)
  | _, _, _, .nil => by rw [List.drop_nil, List.drop_nil]; exact .nil
  | _, _, 0, .cons e t => .cons e t
  | _, _, n + 1, .cons e t => TL.drop n t
theorem TL.set {H : Hp} {a : Addr} {r : Rat} (e : H a = some (.tup (rv r))) : ∀ {vs : List V} {rs : List Rat} (k : Nat), TL H vs rs → TL H (vs.set k (.ref a)) (rs.set k r)
  | _, _, _, .nil => .nil
  | _, _, 0, .cons _ t => .cons e t
  | _, _, k + 1, .cons g t => .cons g (TL.set e k t)
theorem TL.rep {H : Hp} {a : Addr} {r : Rat} (e : H a = some (.tup (rv r))) : ∀ n : Nat, TL H (List.replicate n (.ref a)) (List.replicate n r)
  | 0 => .nil
  | n + 1 => .cons e (TL.rep e n)
theorem TL.nil_of {H : Hp} {rs : List Rat} (h : TL H [] rs) : rs = [] := by cases h; rfl
theorem TL.data {H : Hp} {q : Addr} {K : PySem.W.Frag} {acc : List V} (hq : H q = some (.lst acc)) : ∀ {vs : List V} {rs : List Rat}, TL H vs rs → DqAll q K H vs (rs.map rd)
  | _, _, .nil => .nil
  | _, _, .cons e t => .cons (.tup (fun z => by rw [z, hq] at e; cases e) (tupU e) (.cons (.int _) (.cons (.int _) .nil))) (TL.data hq t)
theorem TL.dp {H : Hp} {K : PySem.W.Frag} : ∀ {vs : List V} {rs : List Rat}, TL H vs rs → DpAll K H vs (rs.map rd)
  | _, _, .nil => .nil
  | _, _, .cons e t => .cons (.tup (tupU e) (.cons (.int _) (.cons (.int _) .nil))) (TL.dp t)
/-- all numbers below 2 ^ n -/
def RbL (n : Nat) (rs : List Rat) : Prop := ∀ r ∈ rs, Rb n r
theorem RbL.mono {m n : Nat} {rs : List Rat} (h : RbL m rs) (l : m ≤ n) : RbL n rs := fun r hr => (h r hr).mono l
theorem Rb0n {n : Nat} (h : 1 ≤ n) : Rb n 0 := Rb0.mono h
theorem RbL.co {n : Nat} {rs : List Rat} (h : RbL n rs) (hn : 1 ≤ n) (i : Nat) : Rb n (co rs i) := by
  by_cases e : i < rs.length
  · rw [co_get e]
    exact h _ (List.getElem_mem e)
  · rw [co_ge (by omega)]
    exact Rb0n hn
theorem RbL.of_co {n : Nat} {rs : List Rat} (h : ∀ i, i < rs.length → Rb n (Mf.co rs i)) : RbL n rs := by
  intro r hr
  obtain ⟨i, hi, e⟩ := List.getElem_of_mem hr
  rw [← e, ← co_get hi]
  exact h i hi
theorem RbL.trim {n : Nat} {rs : List Rat} (h : RbL n rs) : RbL n (trimR rs) := fun r hr => h r (mem_trim hr)
theorem RbL.take {n k : Nat} {rs : List Rat} (h : RbL n rs) : RbL n (rs.take k) := fun r hr => h r (List.mem_of_mem_take hr)
theorem RbL.drop {n k : Nat} {rs : List Rat} (h : RbL n rs) : RbL n (rs.drop k) := fun r hr => h r (List.mem_of_mem_drop hr)
theorem fr_tl {q : Addr} {K : PySem.W.Frag} {H : Hp} {a : Addr} {r : Rat} {n : Nat} (e : H a = some (.tup (rv r))) (b : Rb n r) : Fr (a + 1) K H (.ref a) r n := .tup (tupU e) (Nat.ne_of_lt (Nat.lt_succ_self a)) b
/-! ### repr and == of such lists -/
structure ShN (B W d : Nat) (x : PyData) : Prop where
  sh : x.showable = true
  lv : x.leavesShort B = true
  nd : x.hasDict = false
  ly : x.canLay0 = true
  wt : x.weight ≤ W
  dp : x.depth ≤ d
structure ShA (B W d : Nat) (xs : List PyData) : Prop where
  sh : PyData.showableAll xs = true
  lv : PyData.leavesShortAll B xs = true
  nd : PyData.hasDictAll xs = false
  ly : PyData.canLayAll0 xs = true
  wt : PyData.weightAll xs ≤ W
  dp : PyData.depthAll xs ≤ d
theorem ShN.mono {B W d W' d' : Nat} {x : PyData} (h : ShN B W d x) (w : W ≤ W') (e : d ≤ d') : ShN B W' d' x := ⟨h.sh, h.lv, h.nd, h.ly, Nat.le_trans h.wt w, Nat.le_trans h.dp e⟩
theorem sha_nil {B W d : Nat} : ShA B W d [] := ⟨rfl, rfl, rfl, rfl, Nat.zero_le _, Nat.zero_le _⟩
theorem sha_cons {B W W' d : Nat} {x : PyData} {xs : List PyData} (h : ShN B W d x) (t : ShA B W' d xs) : ShA B (W + 1 + W') d (x :: xs) := by
  refine ⟨?_, ?_, ?_, ?_, ?_, ?_⟩
  · show (x.showable && PyData.showableAll xs) = true
    rw [h.sh, t.sh] <;> rfl
  · show (x.leavesShort B && PyData.leavesShortAll B xs) = true
    rw [h.lv, t.lv] <;> rfl
  · show (x.hasDict || PyData.hasDictAll xs) = false
    rw [h.nd, t.nd] <;> rfl
  · show (x.canLay0 && PyData.canLayAll0 xs) = true
    rw [h.ly, t.ly] <;> rfl
  · have := h.wt
    have := t.wt
    simp only [PyData.weightAll]
    omega
  · have := h.dp
    have := t.dp
    simp only [PyData.depthAll]
    omega
theorem sha_tup {B W d : Nat} {xs : List PyData} (h : ShA B W d xs) : ShN B (W + 1) (d + 1) (.tuple xs) := by
  refine ⟨h.sh, h.lv, h.nd, h.ly, ?_, ?_⟩
  · have := h.wt
    rw [PyData.weight]
    omega
  · have := h.dp
    simp only [PyData.depth]
    omega
theorem sha_lst {B W d : Nat} {xs : List PyData} (h : ShA B W d xs) : ShN B (W + 1) (d + 1) (.list xs) := by
  refine ⟨h.sh, h.lv, h.nd, h.ly, ?_, ?_⟩
  · have := h.wt
    rw [PyData.weight]
    omega
  · have := h.dp
    simp only [PyData.depth]
    omega
theorem shn_int {i : Int} {n : Nat} (b : Bt n i) (hn : 1 ≤ n) (l : n ≤ 1900) : ShN (n + 1) n 1 (.int i) := by
  have lg : i.natAbs.log2 < n := by
    by_cases z : i.natAbs = 0
    · rw [z, Nat.log2_zero]
      omega
    · exact (Nat.log2_lt z).mpr b
  refine ⟨decide_eq_true (by omega), ?_, rfl, rfl, ?_, ?_⟩
  · show decide ((PyData.shown (.int i)).length ≤ n + 1) = true
    refine decide_eq_true ?_
    show (PySem.Str.ofString (toString i)).length ≤ n + 1
    rw [PySem.ofString_length]
    exact PySem.int_text_length_le (by omega) lg
  · show (if (i == 0) = true then 0 else i.natAbs.log2 + 1) ≤ n
    split <;> omega
  · simp [PyData.depth]
theorem shn_rd {r : Rat} {n : Nat} (b : Rb n r) (hn : 1 ≤ n) (l : n ≤ 1900) : ShN (n + 1) (2 * n + 3) 2 (rd r) :=
  (sha_tup (sha_cons (shn_int b.1 hn l) (sha_cons (shn_int b.2 hn l) (sha_nil (W := 0))))).mono (by omega) (Nat.le_refl _)
theorem sha_rds {n : Nat} (hn : 1 ≤ n) (l : n ≤ 1900) : ∀ {rs : List Rat}, RbL n rs → ShA (n + 1) (rs.length * (2 * n + 4)) 2 (rs.map rd)
  | [], _ => sha_nil
  | r :: rs, h => by
    have t := sha_rds hn l (rs := rs) fun x hx => h x (List.mem_cons_of_mem _ hx)
    have z := sha_cons (shn_rd (h r List.mem_cons_self) hn l) t
    refine ⟨z.sh, z.lv, z.nd, z.ly, ?_, z.dp⟩
    have w := z.wt
    rw [List.length_cons, Nat.succ_mul]
    show PyData.weightAll (rd r :: rs.map rd) ≤ _
    omega
theorem shn_poly {n L : Nat} (hn : 1 ≤ n) (l : n ≤ 1900) {rs : List Rat} (h : RbL n rs) (hl : rs.length ≤ L) : ShN (n + 1) (L * (2 * n + 4) + 1) 3 (.tuple (rs.map rd)) :=
  (sha_tup (sha_rds hn l h)).mono (Nat.add_le_add_right (Nat.mul_le_mul_right _ hl) 1) (Nat.le_refl _)
section
variable {K : PySem.W.Frag} {H : Hp} {Q : VK} {v : V}
theorem g_reprS {B W d : Nat} {x : PyData} (h : Dp K H v x) (s : ShN B W d x) (hB : 8 ≤ B) (hw : (B + 2) * W + B ≤ 16777216) (hd : d ≤ 60) (k : Q (.str x.shown) H) : rReprU K [v] H Q := by
  refine g_repr h s.sh s.nd (Nat.le_trans s.dp hd) ?_ k
  rw [sizeLine_eq]
  have h1 := PyData.shown_le B hB x s.lv
  have h2 : (B + 2) * x.weight ≤ (B + 2) * W := Nat.mul_le_mul_left _ s.wt
  omega
theorem shp {B W d : Nat} {x : PyData} (s : ShN B W d x) (hd : d ≤ 60) : SeqAt.shaped x = true := by
  unfold SeqAt.shaped
  rw [Bool.and_eq_true]
  exact ⟨s.ly, decide_eq_true (Nat.le_trans s.dp (by omega))⟩
theorem g_neSame {u v : V} {B W d : Nat} {x : PyData} (h1 : Dp K H u x) (h2 : Dp K H v x) (s : ShN B W d x) (hd : d ≤ 60) (k : Q (.bl false) H) : rNeU K u v H Q := by
  refine .inr ⟨x, x, h1, h2, shp s hd, shp s hd, ?_⟩
  rw [SeqAt.eqv_refl x s.ly]
  exact k
theorem g_eqSame {u v : V} {B W d : Nat} {x : PyData} (h1 : Dp K H u x) (h2 : Dp K H v x) (s : ShN B W d x) (hd : d ≤ 60) (k : Q (.bl true) H) : rEqU K u v H Q := by
  refine .inr ⟨x, x, h1, h2, shp s hd, shp s hd, ?_⟩
  rw [SeqAt.eqv_refl x s.ly]
  exact k
theorem lay_rds : ∀ rs : List Rat, PyData.canLayAll0 (rs.map rd) = true
  | [] => rfl
  | r :: rs => by
    show ((rd r).canLay0 && PyData.canLayAll0 (rs.map rd)) = true
    rw [lay_rds rs] <;> rfl
theorem dep_rds : ∀ rs : List Rat, PyData.depthAll (rs.map rd) ≤ 2
  | [] => Nat.zero_le _
  | r :: rs => by
    have h := dep_rds rs
    have h2 : (rd r).depth ≤ 2 := by simp [rd, PyData.depth, PyData.depthAll]
    rw [List.map_cons]
    simp only [PyData.depthAll]
    omega
theorem shp_rds (rs : List Rat) : SeqAt.shaped (.tuple (rs.map rd)) = true := by
  unfold SeqAt.shaped
  rw [Bool.and_eq_true]
  refine ⟨lay_rds rs, decide_eq_true ?_⟩
  have := dep_rds rs
  simp only [PyData.depth]
  omega
/-- a tuple of fractions != () -/
theorem g_neNilT {a p : Addr} {vs : List V} {rs : List Rat} (h : SqT K H a vs) (t : TL H vs rs) (h2 : SqT K H p []) (k : Q (.bl (!rs.isEmpty)) H) : rNeU K (.ref a) (.ref p) H Q := by
  refine .inr ⟨.tuple (rs.map rd), .tuple [], .tup h t.dp, .tup h2 .nil, shp_rds rs, by decide, ?_⟩
  cases rs with
  | nil => exact k
  | cons r rs => exact k
theorem eqv_rd (r : Rat) : PyData.eqv (rd r) (rd 0) = decide (r = 0) := by
  have e : PyData.eqv (rd r) (rd 0) = ((r.num == 0) && (((r.den : Int) == 1) && true)) := rfl
  rw [e]
  by_cases z : r = 0
  · subst z
    rfl
  · rw [decide_eq_false z, beq_eq_false_iff_ne.mpr (fun n => z (Rat.num_eq_zero.mp n))] <;> rfl
theorem g_eqZ {a p : Addr} {r : Rat} (h : SqT K H a (rv r)) (h2 : SqT K H p (rv 0)) (k : Q (.bl (decide (r = 0))) H) : rEqU K (.ref a) (.ref p) H Q := by
  refine .inr ⟨rd r, rd 0, .tup h (.cons (.int _) (.cons (.int _) .nil)), .tup h2 (.cons (.int _) (.cons (.int _) .nil)), by rfl, by rfl, ?_⟩
  rw [eqv_rd]
  exact k
end
end Mf
namespace Mf
/-! ### dividing, step by step -/
def dsh (g rest : List Rat) : Rat := co rest (rest.length - 1) / co g (g.length - 1)
def dlow (g rest : List Rat) (s : Nat) : List Rat := (List.range (g.length - 1)).map fun k => co rest (s + k) - dsh g rest * co g k
def dnext (g rest : List Rat) (s : Nat) : List Rat := rest.take s ++ dlow g rest s
def drun (g : List Rat) : Nat → List Rat → List Rat → List Rat × List Rat
  | 0, Q, rest => (Q, rest)
  | s + 1, Q, rest => drun g s (Q.set s (dsh g rest)) (dnext g rest s)
theorem len_dlow (g rest : List Rat) (s : Nat) : (dlow g rest s).length = g.length - 1 := by simp [dlow]
theorem len_dnext {g rest : List Rat} {s : Nat} (h : s ≤ rest.length) : (dnext g rest s).length = s + (g.length - 1) := by
  unfold dnext
  rw [List.length_append, List.length_take, len_dlow]
  omega
theorem co_dnext {g rest : List Rat} {s : Nat} (hg : g ≠ []) (hl : co g (g.length - 1) ≠ 0) (h : rest.length = s + g.length) (n : Nat) :
    co (dnext g rest s) n = co rest n - (if s ≤ n then dsh g rest * co g (n - s) else 0) := by
  have g0 : 0 < g.length := List.length_pos_iff.mpr hg
  unfold dnext
  rw [co_append, List.length_take, Nat.min_eq_left (by omega)]
  by_cases z : n < s
  · rw [if_pos z, if_neg (by omega), co_take z]
    grind
  · rw [if_neg z, if_pos (by omega)]
    by_cases z2 : n - s < g.length - 1
    · show co (dlow g rest s) (n - s) = _
      unfold dlow
      rw [co_map z2, show s + (n - s) = n by omega]
    · rw [co_ge (l := dlow g rest s) (by rw [len_dlow]; omega)]
      by_cases z3 : n = s + (g.length - 1)
      · subst z3
        rw [show s + (g.length - 1) - s = g.length - 1 by omega]
        unfold dsh
        rw [h, show s + g.length - 1 = s + (g.length - 1) by omega, Rat.div_def, Rat.mul_assoc, Rat.inv_mul_cancel _ hl]
        grind
      · rw [co_ge (l := rest) (by omega), co_ge (l := g) (by omega)]
        grind
theorem drun_spec {g : List Rat} (hg : g ≠ []) (hl : co g (g.length - 1) ≠ 0) : ∀ (s : Nat) (Q rest : List Rat), s ≤ Q.length → (s = 0 ∧ rest.length < g.length ∨ rest.length + 1 = s + g.length) → (∀ k, k < s → co Q k = 0) →
    (drun g s Q rest).1.length = Q.length ∧ (drun g s Q rest).2.length < g.length ∧ ∀ n, pc (co (drun g s Q rest).1) (co g) n + co (drun g s Q rest).2 n = pc (co Q) (co g) n + co rest n := by
  intro s
  have g0 : 0 < g.length := List.length_pos_iff.mpr hg
  induction s with
  | zero =>
    intro Q rest hQ hr hz
    exact ⟨rfl, by show rest.length < _; omega, fun n => rfl⟩
  | succ s ih =>
    intro Q rest hQ hr hz
    have hr' : rest.length = s + g.length := by omega
    have e := ih (Q.set s (dsh g rest)) (dnext g rest s) (by rw [List.length_set]; omega) (.inr (by rw [len_dnext (by omega)]; omega)) (fun k hk => by rw [co_set (by omega), if_neg (by omega)]; exact hz k (by omega))
    obtain ⟨e1, e2, e3⟩ := e
    refine ⟨by show (drun g s _ _).1.length = _; rw [e1, List.length_set], e2, fun n => ?_⟩
    show pc (co (drun g s (Q.set s (dsh g rest)) (dnext g rest s)).1) (co g) n + co (drun g s (Q.set s (dsh g rest)) (dnext g rest s)).2 n = _
    rw [e3 n, co_dnext hg hl hr', pc_set (a := co Q) (s := s) (x := dsh g rest) (hz s (by omega)) (by rw [co_set (by omega), if_pos rfl]) (fun k hk => by rw [co_set (by omega), if_neg hk])]
    grind
/-- the sizes along the way -/
def dfits (B : Nat) (g : List Rat) : Nat → List Rat → Prop
  | 0, rest => RbL B rest
  | s + 1, rest => RbL B rest ∧ Rb B (dsh g rest) ∧ dfits B g s (dnext g rest s)
theorem dfits.now {B : Nat} {g rest : List Rat} : ∀ {s : Nat}, dfits B g s rest → RbL B rest
  | 0, h => h
  | _ + 1, h => h.1
theorem dfits.out {B : Nat} (hB : 1 ≤ B) {g : List Rat} : ∀ {s : Nat} {Q rest : List Rat}, dfits B g s rest → RbL B Q → RbL B (drun g s Q rest).1 ∧ RbL B (drun g s Q rest).2
  | 0, Q, rest, h, hQ => ⟨hQ, h⟩
  | s + 1, Q, rest, h, hQ => by
    refine dfits.out hB (s := s) h.2.2 fun r hr => ?_
    rcases List.mem_or_eq_of_mem_set hr with z | z
    · exact hQ r z
    · rw [z]
      exact h.2.1
/-- numbers with one down -/
def Sc (W : Int) (k : Nat) (r : Rat) : Prop := ∃ u : Int, r = Rat.divInt u W ∧ Bt k u
theorem Sc.rb {W : Int} {k w B : Nat} {r : Rat} (h : Sc W k r) (hW : 1 ≤ W) (bW : Bt w W) (h1 : k ≤ B) (h2 : w ≤ B) : Rb B r := by
  obtain ⟨u, rfl, b⟩ := h
  exact Rb.of hW (b.mono h1) (bW.mono h2)
theorem Sc.zero {W : Int} {k : Nat} : Sc W k 0 := ⟨0, by rw [Rat.zero_divInt], by show (0 : Int).natAbs < 2 ^ k; exact Nat.two_pow_pos k⟩
theorem Sc.mono {W : Int} {k k' : Nat} {r : Rat} (h : Sc W k r) (l : k ≤ k') : Sc W k' r := by
  obtain ⟨u, e, b⟩ := h
  exact ⟨u, e, b.mono l⟩
theorem Sc.scale {W V : Int} {k v : Nat} {r : Rat} (h : Sc W k r) (hW : 1 ≤ W) (hV : 1 ≤ V) (bV : Bt v V) : Sc (W * V) (k + v) r := by
  obtain ⟨u, rfl, b⟩ := h
  refine ⟨u * V, ?_, b.mul bV⟩
  exact (Rat.divInt_mul_right (by omega)).symm
theorem Sc.add {W : Int} {k l : Nat} {r s : Rat} (h : Sc W k r) (h2 : Sc W l s) (hW : 1 ≤ W) : Sc W (max k l + 1) (r + s) := by
  obtain ⟨u, rfl, b⟩ := h
  obtain ⟨v, rfl, c⟩ := h2
  refine ⟨u + v, ?_, (b.mono (Nat.le_max_left _ _)).add (c.mono (Nat.le_max_right _ _))⟩
  rw [Rat.divInt_add_divInt _ _ (by omega) (by omega), ← Int.add_mul, Rat.divInt_mul_right (by omega)]
theorem Sc.mul {W V : Int} {k l : Nat} {r s : Rat} (h : Sc W k r) (h2 : Sc V l s) : Sc (W * V) (k + l) (r * s) := by
  obtain ⟨u, rfl, b⟩ := h
  obtain ⟨v, rfl, c⟩ := h2
  exact ⟨u * v, Rat.divInt_mul_divInt _ _, b.mul c⟩
theorem mul_ge1 {a b : Int} (ha : 1 ≤ a) (hb : 1 ≤ b) : 1 ≤ a * b := Int.le_trans (by decide) (Int.mul_le_mul ha hb (by decide) (by omega))
/-- all numbers of a list with one down -/
theorem sc_of {n : Nat} : ∀ {rs : List Rat}, RbL n rs → ∃ W : Int, 1 ≤ W ∧ Bt (rs.length * n + 1) W ∧ ∀ i, Sc W (rs.length * n + n + 1) (co rs i)
  | [], _ => ⟨1, by decide, by show (1 : Int).natAbs < 2 ^ (0 * n + 1); rw [Nat.zero_mul]; decide, fun i => by rw [co_nil]; exact Sc.zero⟩
  | r :: rs, h => by
    obtain ⟨W, h1, h2, h3⟩ := sc_of (rs := rs) fun x hx => h x (List.mem_cons_of_mem _ hx)
    have hr := h r List.mem_cons_self
    have e : r = Rat.divInt r.num r.den := (Rat.num_divInt_den r).symm
    refine ⟨W * r.den, mul_ge1 h1 (den1 r), (h2.mul hr.2).mono (by rw [List.length_cons, Nat.succ_mul]; omega), fun i => ?_⟩
    cases i with
    | zero =>
      have z : Sc (r.den : Int) n r := ⟨r.num, e, hr.1⟩
      have z2 := z.scale (den1 r) h1 h2
      rw [Int.mul_comm] at z2
      exact z2.mono (by rw [List.length_cons, Nat.succ_mul]; omega)
    | succ i =>
      have z := (h3 i).scale h1 (den1 r) hr.2
      exact z.mono (by rw [List.length_cons, Nat.succ_mul]; omega)
theorem sc_pc {a b : Nat → Rat} {W V : Int} {k l : Nat} (hW : 1 ≤ W) (hV : 1 ≤ V) (ha : ∀ i, Sc W k (a i)) (hb : ∀ i, Sc V l (b i)) : ∀ i n, Sc (W * V) (k + l + i) (cs a b i n)
  | 0, n => Sc.zero
  | i + 1, n => by
    rw [cs_succ]
    split
    · exact ((sc_pc hW hV ha hb i n).add ((ha i).mul (hb (n - i))) (mul_ge1 hW hV)).mono (by omega)
    · rw [Rat.add_zero]
      exact (sc_pc hW hV ha hb i n).mono (by omega)
theorem sc_low {W l D u v c : Int} (hW : 1 ≤ W) (hD : 1 ≤ D) (hl : l ≠ 0) :
    Rat.divInt v W - Rat.divInt u W / Rat.divInt l D * Rat.divInt c D = Rat.divInt ((v * l - u * c) * (if 0 < l then 1 else -1)) (W * (l.natAbs : Int)) := by
  have e1 : Rat.divInt u W / Rat.divInt l D = Rat.divInt (u * D) (W * l) := by
    rw [Rat.div_def, Rat.inv_divInt, Rat.divInt_mul_divInt]
  have n1 : W * l ≠ 0 := Int.mul_ne_zero (by omega) hl
  rw [e1, Rat.divInt_mul_divInt]
  have e2 : Rat.divInt (u * D * c) (W * l * D) = Rat.divInt (u * c) (W * l) := by
    rw [show u * D * c = u * c * D by grind, Rat.divInt_mul_right (by omega)]
  have e3 : Rat.divInt v W = Rat.divInt (v * l) (W * l) := (Rat.divInt_mul_right hl).symm
  rw [e2, e3, Rat.divInt_sub_divInt _ _ n1 n1, ← Int.sub_mul, Rat.divInt_mul_right n1]
  by_cases h : 0 < l
  · rw [if_pos h, Int.mul_one, show (l.natAbs : Int) = l by omega]
  · rw [if_neg h, show (l.natAbs : Int) = -l by omega, ← Rat.neg_divInt_neg, Int.mul_neg, Int.mul_one, Int.mul_neg]
/-- so the numbers stay small -/
theorem dfits_of {g : List Rat} (hg : g ≠ []) (hl : co g (g.length - 1) ≠ 0) {D : Int} {d kg B : Nat} (hD : 1 ≤ D) (bD : Bt d D) (sg : ∀ i, Sc D kg (co g i)) :
    ∀ (s : Nat) (rest : List Rat) (W : Int) (w k : Nat), (s = 0 ∨ rest.length + 1 = s + g.length) → 1 ≤ W → Bt w W → (∀ i, Sc W k (co rest i)) → k + s * (kg + 1) + d ≤ B → w + s * kg + kg ≤ B → dfits B g s rest := by
  intro s
  have g0 : 0 < g.length := List.length_pos_iff.mpr hg
  obtain ⟨l, el, bl⟩ := sg (g.length - 1)
  have hl0 : l ≠ 0 := fun z => hl (by rw [el, z, Rat.zero_divInt])
  induction s with
  | zero =>
    intro rest W w k hr hW bW sr h1 h2
    refine RbL.of_co fun i _ => ?_
    exact (sr i).rb hW bW (by omega) (by omega)
  | succ s ih =>
    intro rest W w k hr hW bW sr h1 h2
    have hr' : rest.length = s + g.length := by omega
    rw [Nat.succ_mul] at h1 h2
    have bl' : Bt kg (l.natAbs : Int) := by
      show (l.natAbs : Int).natAbs < 2 ^ kg
      rw [Int.natAbs_natCast]
      exact bl
    have hW' : 1 ≤ W * (l.natAbs : Int) := mul_ge1 hW (by omega)
    obtain ⟨u, eu, bu⟩ := sr (rest.length - 1)
    refine ⟨RbL.of_co fun i _ => (sr i).rb hW bW (by omega) (by omega), ?_, ?_⟩
    · unfold dsh
      rw [eu, el, Rat.div_def, Rat.inv_divInt, Rat.divInt_mul_divInt]
      by_cases z : 0 < l
      · exact Rb.of (mul_ge1 hW (by omega)) ((bu.mul bD).mono (by omega)) ((bW.mul bl).mono (by omega))
      · rw [← Rat.neg_divInt_neg, show -(W * l) = W * -l from (Int.mul_neg _ _).symm]
        exact Rb.of (mul_ge1 hW (by omega)) ((bu.mul bD).neg.mono (by omega)) ((bW.mul bl.neg).mono (by omega))
    · refine ih (dnext g rest s) (W * (l.natAbs : Int)) (w + kg) (k + kg + 1) (.inr (by rw [len_dnext (by omega)]; omega)) hW' (bW.mul bl') (fun i => ?_) (by omega) (by omega)
      rw [co_dnext hg hl hr']
      by_cases z : s ≤ i
      · rw [if_pos z]
        obtain ⟨v, ev, bv⟩ := sr i
        obtain ⟨c, ec, bc⟩ := sg (i - s)
        unfold dsh
        rw [eu, el, ev, ec, sc_low hW hD hl0]
        refine ⟨_, rfl, ?_⟩
        have b1 : Bt (k + kg + 1) (v * l - u * c) := (bv.mul bl).sub (bu.mul bc)
        split
        · rw [Int.mul_one]
          exact b1
        · rw [Int.mul_neg, Int.mul_one]
          exact b1.neg
      · rw [if_neg z, show co rest i - 0 = co rest i by grind]
        exact ((sr i).scale hW (by omega) bl').mono (by omega)
/-- sizes of the sums of a product -/
theorem cs_rb {a b : List Rat} {A B : Nat} (ha : RbL A a) (hb : RbL B b) (hA : 1 ≤ A) (hB : 1 ≤ B) (i n : Nat) : Rb (1 + b.length * (A + B + 1)) (cs (co a) (co b) i n) := by
  have key : ∀ i, Rb (1 + (min i (n + 1) - (n + 1 - b.length)) * (A + B + 1)) (cs (co a) (co b) i n) := by
    intro i
    induction i with
    | zero => exact Rb0.mono (by omega)
    | succ i ih =>
      rw [cs_succ]
      by_cases z : i ≤ n
      · rw [if_pos z]
        by_cases z2 : n - i < b.length
        · have e : min (i + 1) (n + 1) - (n + 1 - b.length) = (min i (n + 1) - (n + 1 - b.length)) + 1 := by omega
          rw [e, Nat.succ_mul]
          exact (ih.add ((ha.co hA i).mul (hb.co hB (n - i)))).mono (by omega)
        · rw [co_ge (l := b) (by omega), Rat.mul_zero, Rat.add_zero]
          exact ih.mono (Nat.add_le_add_left (Nat.mul_le_mul_right _ (by omega)) 1)
      · rw [if_neg z, Rat.add_zero]
        exact ih.mono (Nat.add_le_add_left (Nat.mul_le_mul_right _ (by omega)) 1)
  exact (key i).mono (Nat.add_le_add_left (Nat.mul_le_mul_right _ (by omega)) 1)
theorem rbl_conv {a b : List Rat} {A B : Nat} (ha : RbL A a) (hb : RbL B b) (hA : 1 ≤ A) (hB : 1 ≤ B) : RbL (1 + b.length * (A + B + 1)) (conv a b) :=
  RbL.of_co fun i _ => by
    rw [co_conv]
    exact cs_rb ha hb hA hB _ _
theorem rbl_padd {a b : List Rat} {A B : Nat} (ha : RbL A a) (hb : RbL B b) (hA : 1 ≤ A) (hB : 1 ≤ B) : RbL (A + B + 1) (padd a b) :=
  RbL.of_co fun i _ => by
    rw [co_padd]
    exact (ha.co hA i).add (hb.co hB i)
theorem num_nat (n : Nat) : (n : Rat).num = (n : Int) := rfl
theorem den_nat (n : Nat) : ((n : Rat).den : Int) = 1 := rfl
theorem tr_slope {l : List Rat} (h : Tr l) : Tr (slope l) := by
  intro hne
  have hl : 0 < (slope l).length := List.length_pos_iff.mpr hne
  rw [len_slope] at hl
  rw [co_slope, len_slope]
  unfold slp
  rw [show l.length - 1 - 1 + 1 = l.length - 1 by omega]
  have h1 := h (fun z => by rw [z] at hl; simp at hl)
  intro z
  rcases Rat.mul_eq_zero.mp z with e | e
  · have := congrArg Rat.num e
    rw [num_nat] at this
    simp at this
    omega
  · exact h1 e
end Mf
namespace Mf
open PySem PySem.Spec PyProof.Rows L2
abbrev g2 (K : PySem.W.Frag) (i j : Nat) : TG := gTup K 2 (gCons (gName i) (gCons (gName j) gNil))
section
variable {K : PySem.W.Frag} {σ : L2.St} {H H1 : Hp} {Q : VK} {v x y : V} {te : TE} {tt : TT} {vs : List Nat} {D : Ends} {tb : TS}
theorem g_pair {i j : Nat} {a : Addr} {R : L2.St → Hp → Prop} (h : SqT K H a [x, y]) (q : R ((σ.set i (some x)).set j (some y)) H) : g2 K i j (.ref a) σ H R :=
  ⟨a, [x, y], rfl, h, rfl, x, [y], rfl, y, [], rfl, rfl, q⟩
def iEnumS (K : PySem.W.Frag) (ta : TA) : TI := fun σ H R => iEnum K ta σ H R ∨ iEnumT K ta σ H R
/-- for i, x in enumerate(a), a a list or a tuple that stays -/
theorem g_forE {i0 i j : Nat} {a : Addr} {xs : List V} {H0 : Hp} (e : σ[i0]? = some (some (.ref a))) (hs : Sq K H0 a xs) (Pv : Nat → L2.St → Hp → Prop) (h0 : Pv 0 σ H) (hx : ∀ n σ' H', Pv n σ' H' → Same H0 H')
    (hb : ∀ n x σ' H' T, xs[n]? = some x → Pv n σ' H' → H' T = none → tb ⟨Pv (n + 1), D.rt, D.nx, Pv (n + 1)⟩ ((σ'.set i (some (.int (n : Nat)))).set j (some x)) (upd H' T (.tup [.int (n : Nat), x])))
    (hd : ∀ σ' H', Pv xs.length σ' H' → D.nx σ' H') : tFor (iEnumS K (tCons (tVar i0) tNil)) (g2 K i j) tb D σ H := by
  have sH := hx _ _ _ h0
  rcases hs with hs | hs
  · refine .inl (g_cons (g_var e (g_nil ⟨a, xs, rfl, sH.seq hs, fun i m σ H => m = xs.length - i ∧ i ≤ xs.length ∧ Pv i σ H, ⟨xs.length, by omega, Nat.zero_le _, h0⟩, ?_⟩)))
    rintro n m σ H ⟨rfl, hi, p⟩
    have q := (hx _ _ _ p).seq hs
    by_cases hlt : n < xs.length
    · refine .inr ⟨⟨xs, xs[n], q, by simp [hlt]⟩, Pv (n + 1), fun σ' H' p' => ⟨xs.length - (n + 1), by omega, rfl, hlt, p'⟩, fun x H' yl => ?_⟩
      obtain ⟨T, z, rfl, nT, rfl, ez⟩ := yl
      exact g_pair (tupU upd_same) (hb n z σ H T (ez xs q) p nT)
    · have e2 : n = xs.length := by omega
      subst e2
      exact .inl ⟨⟨xs, q, Nat.le_refl _⟩, hd σ H p⟩
  · have st : ∀ {H' : Hp}, Same H0 H' → SqT K H' a xs := fun s => (Same.x (q := a + 1) s).tup (Nat.ne_of_lt (Nat.lt_succ_self a)) hs
    refine .inr (g_cons (g_var e (g_nil ⟨a, xs, rfl, st sH, fun i m σ H => m = xs.length - i ∧ i ≤ xs.length ∧ Pv i σ H, ⟨xs.length, by omega, Nat.zero_le _, h0⟩, ?_⟩)))
    rintro n m σ H ⟨rfl, hi, p⟩
    have q := st (hx _ _ _ p)
    by_cases hlt : n < xs.length
    · refine .inr ⟨⟨xs, xs[n], q, by simp [hlt]⟩, Pv (n + 1), fun σ' H' p' => ⟨xs.length - (n + 1), by omega, rfl, hlt, p'⟩, fun x H' yl => ?_⟩
      obtain ⟨T, z, rfl, nT, rfl, ez⟩ := yl
      exact g_pair (tupU upd_same) (hb n z σ H T (ez xs q) p nT)
    · have e2 : n = xs.length := by omega
      subst e2
      exact .inl ⟨⟨xs, q, Nat.le_refl _⟩, hd σ H p⟩
/-- a comprehension over enumerate(a), a a tuple -/
theorem lcgo_enumT {a : Addr} {xs : List V} {i j : Nat} (Pv : Addr → Nat → Hp → Prop) (hw : ∀ x y, wipe (((wipe σ vs).set i (some x)).set j (some y)) vs = wipe σ vs)
    (h0 : ∀ D, H1 D = none → Pv D 0 (upd H1 D (.lst []))) (hl : ∀ D n H, n ≤ xs.length → Pv D n H → SqT K H a xs)
    (hs : ∀ D n x T H, H1 D = none → xs[n]? = some x → Pv D n H → H T = none → tt (((wipe σ vs).set i (some (.int (n : Nat)))).set j (some x)) (upd H T (.tup [.int (n : Nat), x])) fun b H3 =>
      if b = true then te (((wipe σ vs).set i (some (.int (n : Nat)))).set j (some x)) H3 fun y H4 => ∃ acc, H4 D = some (.lst acc) ∧ acc.length < sizeLine ∧ Pv D (n + 1) (upd H4 D (.lst (acc ++ [y]))) else Pv D (n + 1) H3)
    (hd : ∀ D H, H1 D = none → Pv D xs.length H → Q (.ref D) H) : LcGo (IteT K a) (g2 K i j) tt te vs σ H1 Q := by
  intro D hD
  refine ⟨fun n m H => m = xs.length - n ∧ n ≤ xs.length ∧ Pv D n H, ⟨xs.length, by omega, Nat.zero_le _, h0 D hD⟩, ?_⟩
  rintro n m H ⟨rfl, hi, p⟩
  have q := hl D n H hi p
  by_cases hlt : n < xs.length
  · refine .inr ⟨⟨xs, xs[n], q, by simp [hlt]⟩, Pv D (n + 1), fun H' p' => ⟨xs.length - (n + 1), by omega, rfl, hlt, p'⟩, fun x H' yl => ?_⟩
    obtain ⟨T, z, rfl, nT, rfl, ez⟩ := yl
    exact g_pair (tupU upd_same) ⟨hw _ _, hs D n z T H hD (ez xs q) p nT⟩
  · have e2 : n = xs.length := by omega
    subst e2
    exact .inl ⟨⟨xs, q, Nat.le_refl _⟩, hd D H hD p⟩
theorem g_lcE {ta : TA} {g : TG} (q : ta σ H fun us H1 => ∃ a xs, us = [.ref a] ∧ SqT K H1 a xs ∧ LcGo (IteT K a) g tt te vs σ H1 Q) : tLc (iEnumT K ta) g tt te vs σ H Q := q
/-- max of two, list of .., a part of a tuple -/
def rMax2 : List V → Hp → VK → Prop := fun xs H Q => ∃ i j, xs = [.int i, .int j] ∧ Q (.int (if j > i then j else i)) H
theorem call_max2R {X : Cx} (hc : X.calm = true) : CallR X (.builtin "max") rMax2 := call_max2 hc
theorem g_max2 {i j : Int} (q : Q (.int (if j > i then j else i)) H) : rMax2 [.int i, .int j] H Q := ⟨i, j, rfl, q⟩
def rLstOf (K : PySem.W.Frag) : List V → Hp → VK → Prop := fun xs H Q => ∃ p ys, xs = [.ref p] ∧ (SqL K H p ys ∨ SqT K H p ys) ∧ ∀ l, H l = none → Q (.ref l) (upd H l (.lst ys))
theorem call_lstOf {X : Cx} : CallR X (.type "list") (rLstOf X.K) := call_list_of
theorem g_lstOf {a : Addr} {xs : List V} (h : Sq K H a xs) (q : ∀ p H2, H p = none → Same H H2 → H2 p = some (.lst xs) → Q (.ref p) H2) : rLstOf K [.ref a] H Q :=
  ⟨a, xs, rfl, h, fun p hp => q p _ hp (same_new hp) upd_same⟩
theorem sIx_def (n : Nat) (d : Nat) (k : Int) : HT.sIx n d (some k) = HT.sIx n 0 (some k) := rfl
theorem cut_hi {xs : List V} {k : Nat} (h : k ≤ xs.length) : cutV xs none (some (k : Int)) = xs.take k := by
  have e : HT.sIx xs.length xs.length (some (k : Int)) = k := by
    simp only [HT.sIx]
    rw [if_neg (by omega)]
    omega
  unfold cutV
  rw [e]
  show (xs.drop 0).take (k - 0) = _
  rw [List.drop_zero, Nat.sub_zero]
theorem cut_m1 {xs : List V} (h : xs ≠ []) : HT.sIx xs.length xs.length (some (-1)) = xs.length - 1 := by
  have : 0 < xs.length := List.length_pos_iff.mpr h
  simp only [HT.sIx]
  rw [if_pos (by decide)]
  omega
theorem cut_lo1 {xs : List V} : cutV xs (some 1) none = xs.drop 1 := by
  have e2 : HT.sIx xs.length xs.length none = xs.length := rfl
  have e : HT.sIx xs.length 0 (some 1) = min 1 xs.length := by
    simp only [HT.sIx]
    rw [if_neg (by decide)]
    omega
  unfold cutV
  rw [e, e2]
  cases xs with
  | nil => rfl
  | cons z r =>
    rw [show min 1 (z :: r).length = 1 by simp only [List.length_cons]; omega]
    show r.take ((z :: r).length - 1) = r
    simp
theorem g_slTm1 {a : Addr} {xs : List V} (h : SqT K H a xs) (hne : xs ≠ []) (q : ∀ p H2, H p = none → Same H H2 → H2 p = some (.tup (xs.take (xs.length - 1))) → Q (.ref p) H2) : rSlT K (.ref a) none (some (-1)) H Q := by
  have hl : 0 < xs.length := List.length_pos_iff.mpr hne
  have e := cut_m1 hne
  refine ⟨a, xs, rfl, h, fun z => ?_, fun p hp => ?_⟩
  · rw [e] at z
    omega
  · have e2 : cutV xs none (some (-1)) = xs.take (xs.length - 1) := by
      unfold cutV
      rw [e]
      show (xs.drop 0).take (xs.length - 1 - 0) = _
      rw [List.drop_zero, Nat.sub_zero]
    rw [e2]
    exact q p _ hp (same_new hp) upd_same
/-- a place from behind -/
theorem at_m1 {xs : List V} {x : V} (h : xs[xs.length - 1]? = some x) : atI xs (-1) = some x := by
  have hl : xs.length - 1 < xs.length := (List.getElem?_eq_some_iff.mp h).1
  have e : ixN xs.length (-1) = some (xs.length - 1) := by
    unfold ixN
    rw [if_neg (by decide), if_pos (by omega)]
    congr 1
    omega
  unfold atI
  rw [e]
  exact h
theorem g_star {t : TA} {R : List V → Hp → Prop} (q : te σ H fun x H1 => ∃ p xs, x = V.ref p ∧ (SqT K H1 p xs ∨ SqL K H1 p xs) ∧ t σ H1 fun ys H2 => R (xs ++ ys) H2) : StX.tStar K te t σ H R := q
end
theorem pe_globI {X : Cx} {x : Str} {i : Int} {pos : Pos} (hg : Gl X x) (hm : ∃ t, X.mg x = some (.int i t)) (hd : (x == ("__debug__" : Str)) = false := by decide) : PE X (.Name x pos) (tC (.int i)) := by
  obtain ⟨t, e⟩ := hm
  exact pe_glob hg e ⟨t, rfl⟩ hd
/-- f(e, .., k = e, ..): n by place, the rest by names -/
def Pm (x : Str) (st : Stmt) (ps ks : List Str) (n : Nat) : Prop := ∀ (kV doc pm : Value) (an : Option Addr) (cdv ct : Value) (us ws : List Value), us.length = n → ws.length = ks.length →
  bindArgs (PySem.W.fnOf x x (defArgs st) (defBody st) (defScope st) .none kV doc pm an cdv ct) ⟨us, ks.zip ws⟩ = pure (ps.zip (us ++ ws))
section
variable {X : Cx} {k j n : Nat} {ps ks : List Str} {sp : Sp} {x : Str} {p pos : Pos} {e : Expr} {es : List Expr} {t tk : TA} {st : Stmt} {kws : List Keyword}
def tClM (sp : Sp) (n m : Nat) (t tk : TA) : TE := fun σ H Q => t σ H fun vs H1 => tk σ H1 fun zs H2 => vs.length = n ∧ zs.length = m ∧ sp (vs ++ zs) H2 Q E0
theorem pe_fm (c : Cl (cnOf X) k x st ps sp) (hA : X.A.guards = some []) (hr : Room j X.A) (hk : k ≤ j) (hp : Pm x st ps ks n) (hg : Gl X x) (ha : PA X (e :: es) t) (hkw : PK X kws tk)
    (hall : (backToKw pos (keywordEach kws X.env)).all (·.1.isSome) = true := by rfl) (hks : (backToKw pos (keywordEach kws X.env)).filterMap (·.1) = ks := by rfl)
    (hdb : (x == ("__debug__" : Str)) = false := by decide)
    (hpl : ((backTo pos (starEach (e :: es) X.env)).any (·.1) || (backToKw pos (keywordEach kws X.env)).any (·.1.isNone)) = false := by rfl)
    (he : starEach (e :: es) X.env = (false, eval e X.env) :: starEach es X.env := by rfl) :
    PE X (.Call (.Name x p) (e :: es) kws pos) (tClM sp n ks.length t tk) := by
  obtain ⟨f, fd, F, hm, W⟩ := c.ex
  refine ⟨fun pins s σ H Q I h => ?_⟩
  refine wpAny_Call_Name_kw (ld_glob I hg hm ?_ hdb)
  refine PySem.W.callWith_KW (h₀ := X.base) I.ok.mod.kin W.kp hall (thn (ha.run pos pins s σ H _ I h) fun us s1 ⟨vs, H1, I1, rv1, q1⟩ => thn (hkw.run pos pins s1 σ H1 _ I1 q1) ?_) hpl he
  intro ws s2 ⟨zs, H2, I2, rz, l1, l2, q2⟩
  refine ⟨I2.kIn, ?_⟩
  rw [hks]
  have e1 : us.length = n := by rw [← rv1.length]; exact l1
  have e2 : ws.length = ks.length := by rw [← rz.length]; exact l2
  have hb : BindsTo s2 fd ⟨us, ks.zip ws⟩ (ps.zip (us ++ ws)) := by
    obtain ⟨oc, od, kV, doc, pm, an, cdv, ct, osl, rfl, lk, hcd⟩ := W.ex
    exact .of_eq (hp kV doc pm an cdv ct us ws e1 e2)
  have r2 : Vals (vs ++ zs) (us ++ ws) := rv1.append rz
  refine wpAny_call (codeAny_mono (F.go X.A hA X.stack s2 H2 ⟨us, ks.zip ws⟩ (us ++ ws) (vs ++ zs) Q E0 (hr.mono hk) I2.env0 hb r2 q2) ?_)
  intro r s' hq
  cases r with
  | error e => exact pass0 pins σ H2 s2 e s' I2 hq
  | ok fl => cases fl with
    | ret u => exact I2.after hq
    | next => exact hq.elim
    | brk => exact hq.elim
    | cont => exact hq.elim
theorem g_clm {K : PySem.W.Frag} {σ : L2.St} {H : Hp} {Q : VK} {m : Nat} (q : t σ H fun vs H1 => tk σ H1 fun zs H2 => vs.length = n ∧ zs.length = m ∧ sp (vs ++ zs) H2 Q E0) : tClM sp n m t tk σ H Q := q
end
/-! ### promises -/
def RetL (rs : List Rat) (H : Hp) (Q : VK) : Prop := ∀ p H' vs, Same H H' → H p = none → H' p = some (.tup vs) → TL H' vs rs → Q (.ref p) H'
def sp_low (K : PySem.W.Frag) : Sp := fun vs H Q _ => ∃ (u d : Int), vs = [.int u, .int d] ∧ 1 ≤ d ∧ Bt 8000 d ∧ RetT (Rat.divInt u d) H Q
def sp_lbin (f : Rat → Rat → Rat) (K : PySem.W.Frag) : Sp := fun vs H Q _ => ∃ a b r s m n, vs = [.ref a, .ref b] ∧ H a = some (.tup (rv r)) ∧ H b = some (.tup (rv s)) ∧ Rb m r ∧ Rb n s ∧ m + n ≤ 7000 ∧ RetT (f r s) H Q
def sp_lrat (K : PySem.W.Frag) : Sp := fun vs H Q _ => ∃ (q : Addr) (t : Int), vs = [.ref q] ∧ Qy K q t H ∧ t ≤ 999990 ∧
  ∀ t' H' p r, SameX q H H' → Qy K q t' H' → t ≤ t' → t' ≤ t + 5 → H p = none → H' p = some (.tup (rv r)) → Rb 12 r → Q (.ref p) H'
/-- a list at H -/
def isL (H : Hp) (b : Addr) : Prop := ∃ acc, H b = some (.lst acc)
def sp_las (K : PySem.W.Frag) : Sp := fun vs H Q _ => ∃ (q p : Addr) (t : Int) (r : Rat), vs = [.ref q, .ref p] ∧ Qy K q t H ∧ t ≤ 999990 ∧ H p = some (.tup (rv r)) ∧ Rb 100 r ∧
  ∀ t' H' v x y, SameX q H H' → Qy K q t' H' → t ≤ t' → t' ≤ t + 2 → Fz (isL H) H' v x y → 1 ≤ y → Rat.divInt x y = r → Bt 140 x → Bt 140 y → Q v H'
def sp_row (K : PySem.W.Frag) : Sp := fun vs H Q _ => ∃ (q : Addr) (t m : Int), vs = [.ref q, .int m] ∧ Qy K q t H ∧ t ≤ 999000 ∧ 0 ≤ m ∧ m ≤ 100 ∧
  ∀ t' H' p vs' rs, SameX q H H' → Qy K q t' H' → t ≤ t' → t' ≤ t + 1 + 5 * m → H p = none → Qn q p H' → H' p = some (.lst vs') → TL H' vs' rs → RbL 12 rs → (rs.length : Int) ≤ m → Q (.ref p) H'
def sp_trim (K : PySem.W.Frag) : Sp := fun vs H Q _ => ∃ a xs rs, vs = [.ref a] ∧ SqL K H a xs ∧ TL H xs rs ∧ xs.length ≤ 1000 ∧ RetL (trimR rs) H Q
def sp_rpoly (K : PySem.W.Frag) : Sp := fun vs H Q _ => ∃ q a xs ds n part, vs = [.ref a, part] ∧ a ≠ q ∧ Sq K H a xs ∧ DqAll q K H xs ds ∧ (∀ d ∈ ds, isFrD d = true ∧ Bt n (upD d) ∧ Bt n (dnD d)) ∧ n ≤ 7000 ∧ ds.length ≤ 80 ∧ RetL (trimR (ds.map valQ)) H Q
def sp_lprod (K : PySem.W.Frag) : Sp := fun vs H Q _ => ∃ a b xs ys f g A B C, vs = [.ref a, .ref b] ∧ Sq K H a xs ∧ Sq K H b ys ∧ TL H xs f ∧ TL H ys g ∧ RbL A f ∧ RbL B g ∧ (∀ i n, Rb C (cs (co f) (co g) i n)) ∧ 1 ≤ A ∧ 1 ≤ B ∧ A + B + C ≤ 7000 ∧ xs.length ≤ 200 ∧ ys.length ≤ 200 ∧ RetL (trimR (conv f g)) H Q
def sp_lsum (K : PySem.W.Frag) : Sp := fun vs H Q _ => ∃ a b xs ys f g A B, vs = [.ref a, .ref b] ∧ Sq K H a xs ∧ Sq K H b ys ∧ TL H xs f ∧ TL H ys g ∧ RbL A f ∧ RbL B g ∧ 1 ≤ A ∧ 1 ≤ B ∧ A + B ≤ 7000 ∧ xs.length ≤ 200 ∧ ys.length ≤ 200 ∧ RetL (trimR (padd f g)) H Q
end Mf
namespace Mf
open PySem PySem.Spec PyProof.Rows L2
section
variable {K : PySem.W.Frag} {σ : L2.St} {H : Hp} {Q : VK}
theorem for_itc {lo c : Int} {n : Nat} {g : TG} {tb : TS} {D : Ends} (Pv : Nat → L2.St → Hp → Prop) (h0 : Pv 0 σ H)
    (hs : ∀ i σ H, i < n → Pv i σ H → g (.int (lo + (i : Nat) * c)) σ H fun σ2 H2 => tb { D with nx := Pv (i + 1), ct := Pv (i + 1), bk := D.nx } σ2 H2) (hd : ∀ σ H, Pv n σ H → D.nx σ H) :
    ∃ W : Nat → Nat → L2.St → Hp → Prop, (∃ m, W 0 m σ H) ∧ ∀ i m σ H, W i m σ H →
      ((Itc lo c n).stop i H ∧ D.nx σ H) ∨ ((Itc lo c n).go i H ∧ ∃ N : L2.St → Hp → Prop, (∀ σ' H', N σ' H' → ∃ m', m' < m ∧ W (i + 1) m' σ' H') ∧ ∀ x H', (Itc lo c n).yld i H x H' → g x σ H' fun σ2 H2 => tb { D with nx := N, ct := N, bk := D.nx } σ2 H2) := by
  refine ⟨fun i m σ H => m = n - i ∧ i ≤ n ∧ Pv i σ H, ⟨n, by omega, Nat.zero_le _, h0⟩, ?_⟩
  rintro i m σ H ⟨rfl, hi, p⟩
  by_cases hlt : i < n
  · refine .inr ⟨hlt, Pv (i + 1), fun σ' H' p' => ⟨n - (i + 1), by omega, rfl, hlt, p'⟩, fun x H' y => ?_⟩
    obtain ⟨rfl, rfl⟩ := y
    exact hs i σ H' hlt p
  · have e : i = n := by omega
    subst e
    exact .inl ⟨Nat.le_refl _, hd σ H p⟩
theorem fr_at {q a : Addr} {acc : List V} {r : Rat} {n : Nat} (hq : H q = some (.lst acc)) (e : H a = some (.tup (rv r))) (b : Rb n r) : Fr q K H (.ref a) r n :=
  .tup (tupU e) (fun z => by rw [z, hq] at e; cases e) b
end
theorem div_nat (n : Nat) : Rat.divInt (n : Int) 1 = (n : Rat) := by
  have e : Rat.divInt (n : Int) 1 = Rat.divInt (n : Rat).num (n : Rat).den := rfl
  rw [e, Rat.num_divInt_den]
theorem rv_nat (n : Nat) : rv (n : Rat) = [.int (n : Int), .int 1] := rfl
def fullS (l : List Rat) : List Rat := (List.range l.length).map fun (n : Nat) => (n : Rat) * co l n
theorem len_full (l : List Rat) : (fullS l).length = l.length := by simp [fullS]
theorem get_full {l : List Rat} {n : Nat} (h : n < l.length) : (fullS l)[n]? = some ((n : Rat) * co l n) := by
  unfold fullS
  rw [List.getElem?_map, List.getElem?_range h]
  rfl
theorem get_slope {l : List Rat} {n : Nat} (h : n + 1 < l.length) : (slope l)[n]? = some (((n + 1 : Nat) : Rat) * co l (n + 1)) := by
  unfold slope
  rw [List.getElem?_map, List.getElem?_range (by omega)]
  rfl
theorem drop_full (l : List Rat) (j : Nat) : co ((fullS l).drop 1) j = co (slope l) j := by
  by_cases h : j + 1 < l.length
  · rw [co_some (get_slope h), co_some (r := ((j + 1 : Nat) : Rat) * co l (j + 1))]
    rw [List.getElem?_drop, show 1 + j = j + 1 by omega]
    exact get_full h
  · rw [co_ge (by rw [List.length_drop, len_full]; omega), co_ge (l := slope l) (by rw [len_slope]; omega)]
theorem get_dlow {g rest : List Rat} {s n : Nat} (h : n < g.length - 1) : (dlow g rest s)[n]? = some (co rest (s + n) - dsh g rest * co g n) := by
  unfold dlow
  rw [List.getElem?_map, List.getElem?_range h]
  rfl
theorem Rb_nat {n : Nat} (h : n < 2 ^ 10) : Rb 10 (n : Rat) := ⟨by show (n : Int).natAbs < _; rw [Int.natAbs_natCast]; exact h, by show (1 : Int).natAbs < 2 ^ 10; decide⟩
/-- what a division hands back -/
def RetP (f g : List Rat) (H : Hp) (Q : VK) : Prop := ∀ p H' p1 p2 vs1 vs2, Same H H' → H p = none → H' p = some (.tup [.ref p1, .ref p2]) → H' p1 = some (.tup vs1) → H' p2 = some (.tup vs2) →
  TL H' vs1 (trimR (drun g (f.length + 1 - g.length) (List.replicate (f.length + 1 - g.length) 0) f).1) → TL H' vs2 (trimR (drun g (f.length + 1 - g.length) (List.replicate (f.length + 1 - g.length) 0) f).2) → Q (.ref p) H'
def sp_parted (K : PySem.W.Frag) : Sp := fun vs H Q _ => ∃ a b xs ys f g B, vs = [.ref a, .ref b] ∧ H a = some (.tup xs) ∧ H b = some (.tup ys) ∧ TL H xs f ∧ TL H ys g ∧ g ≠ [] ∧ co g (g.length - 1) ≠ 0 ∧ 1 ≤ B ∧ B ≤ 2300 ∧ RbL B g ∧
  dfits B g (f.length + 1 - g.length) f ∧ f.length ≤ 100 ∧ g.length ≤ 100 ∧ RetP f g H Q
def sp_pparted (K : PySem.W.Frag) : Sp := fun vs H Q _ => ∃ q a b xs ys ds es n f g B, vs = [.ref a, .ref b] ∧ a ≠ q ∧ b ≠ q ∧ Sq K H a xs ∧ Sq K H b ys ∧ DqAll q K H xs ds ∧ DqAll q K H ys es ∧
  (∀ d ∈ ds, isFrD d = true ∧ Bt n (upD d) ∧ Bt n (dnD d)) ∧ (∀ d ∈ es, isFrD d = true ∧ Bt n (upD d) ∧ Bt n (dnD d)) ∧ n ≤ 7000 ∧ ds.length ≤ 80 ∧ es.length ≤ 80 ∧ f = trimR (ds.map valQ) ∧ g = trimR (es.map valQ) ∧ g ≠ [] ∧ 1 ≤ B ∧ B ≤ 2300 ∧ RbL B g ∧
  dfits B g (f.length + 1 - g.length) f ∧ RetP f g H Q
def sp_slope (K : PySem.W.Frag) : Sp := fun vs H Q _ => ∃ q a xs ds n, vs = [.ref a] ∧ a ≠ q ∧ Sq K H a xs ∧ DqAll q K H xs ds ∧ (∀ d ∈ ds, isFrD d = true ∧ Bt n (upD d) ∧ Bt n (dnD d)) ∧ 1 ≤ n ∧ n ≤ 6000 ∧ ds.length ≤ 80 ∧ RetL (slope (trimR (ds.map valQ))) H Q
def sp_lslope (K : PySem.W.Frag) : Sp := fun vs H Q _ => ∃ a xs rs n, vs = [.ref a] ∧ H a = some (.tup xs) ∧ TL H xs rs ∧ RbL n rs ∧ 1 ≤ n ∧ n ≤ 6000 ∧ xs.length ≤ 100 ∧ RetL (trimR (slope rs)) H Q
end Mf
namespace Mf
open PySem PySem.Spec PyProof.Rows L2
/-! ### what the laws say of polynomials -/
theorem co_rep (N n : Nat) : co (List.replicate N 0) n = 0 := by
  by_cases z : n < N
  · rw [co_get (by rw [List.length_replicate]; exact z), List.getElem_replicate]
  · exact co_ge (by rw [List.length_replicate]; omega)
theorem pc_rep (N : Nat) (b : Nat → Rat) (n : Nat) : pc (co (List.replicate N 0)) b n = 0 := by
  rw [← cs_pc _ b n 0 fun k _ => co_rep N k]
  rfl
abbrev dQ (f g : List Rat) : List Rat := trimR (drun g (f.length + 1 - g.length) (List.replicate (f.length + 1 - g.length) 0) f).1
abbrev dR (f g : List Rat) : List Rat := trimR (drun g (f.length + 1 - g.length) (List.replicate (f.length + 1 - g.length) 0) f).2
theorem d_spec {f g : List Rat} (hg : g ≠ []) (hl : co g (g.length - 1) ≠ 0) : (dQ f g).length ≤ f.length + 1 - g.length ∧ (dR f g).length < g.length ∧ ∀ n, pc (co (dQ f g)) (co g) n + co (dR f g) n = co f n := by
  have g0 : 0 < g.length := List.length_pos_iff.mpr hg
  obtain ⟨h1, h2, h3⟩ := drun_spec hg hl (f.length + 1 - g.length) (List.replicate (f.length + 1 - g.length) 0) f (by rw [List.length_replicate]; exact Nat.le_refl _) (by omega) (fun k _ => co_rep _ k)
  refine ⟨?_, ?_, fun n => ?_⟩
  · have := len_trim_le (drun g (f.length + 1 - g.length) (List.replicate (f.length + 1 - g.length) 0) f).1
    rw [h1, List.length_replicate] at this
    exact this
  · exact Nat.lt_of_le_of_lt (len_trim_le _) h2
  · rw [co_trim, pc_congr (co_trim _) (fun _ => rfl), h3 n, pc_rep, Rat.zero_add]
theorem d_back {f g : List Rat} (hf : Tr f) (hg : g ≠ []) (hl : co g (g.length - 1) ≠ 0) : trimR (padd (trimR (conv (dQ f g) g)) (dR f g)) = f := by
  refine (tr_trim _).ext hf fun n => ?_
  rw [co_trim, co_padd, co_trim, co_conv]
  exact (d_spec hg hl).2.2 n
theorem d_of {f g a r : List Rat} (hg : g ≠ []) (hl : co g (g.length - 1) ≠ 0) (ha : Tr a) (hr : Tr r) (lr : r.length < g.length) (h : ∀ n, pc (co a) (co g) n + co r n = co f n) : dQ f g = a ∧ dR f g = r := by
  obtain ⟨h1, h2, h3⟩ := d_spec (f := f) hg hl
  obtain ⟨u1, u2⟩ := div_uniq hg hl (d := fun k => co (dQ f g) k - co a k) (e := fun k => co (dR f g) k - co r k) (N := max (dQ f g).length a.length)
    (fun k hk => by rw [co_ge (l := dQ f g) (by omega), co_ge (l := a) (by omega)]; grind) (fun k hk => by rw [co_ge (l := dR f g) (by omega), co_ge (l := r) (by omega)]; grind)
    (fun n => by
      rw [pc_sub_left]
      have e1 := h3 n
      have e2 := h n
      grind)
  refine ⟨(tr_trim _).ext ha fun k => ?_, (tr_trim _).ext hr fun k => ?_⟩
  · have := u1 k
    grind
  · have := u2 k
    grind
theorem slope_prod (a b : List Rat) : slope (trimR (conv a b)) = trimR (padd (trimR (conv (trimR (slope a)) b)) (trimR (conv a (trimR (slope b))))) := by
  refine (tr_slope (tr_trim _)).ext (tr_trim _) fun n => ?_
  rw [co_slope, co_trim, co_padd, co_trim, co_trim, co_conv, co_conv]
  unfold slp
  rw [co_trim, co_conv, slp_cs]
  rw [pc_congr (a := co (trimR (slope a))) (a' := slp (co a)) (fun i => by rw [co_trim, co_slope]) (fun _ => rfl), pc_congr (a := co a) (b := co (trimR (slope b))) (b' := slp (co b)) (fun _ => rfl) (fun i => by rw [co_trim, co_slope])]
theorem trim_snoc0 (l : List Rat) : trimR (l ++ [0]) = trimR l := trim_eq fun n => by
  rw [co_append]
  by_cases z : n < l.length
  · rw [if_pos z]
  · rw [if_neg z, co_ge (l := l) (by omega)]
    by_cases z2 : n - l.length = 0
    · rw [z2]
      rfl
    · exact co_ge (by simp; omega)
/-- sizes of drawn ones -/
theorem fits1 {f g : List Rat} (bf : RbL 12 f) (bg : RbL 12 g) (lf : f.length ≤ 9) (lg : g.length ≤ 4) (hg : g ≠ []) (hl : co g (g.length - 1) ≠ 0) : dfits 800 g (f.length + 1 - g.length) f := by
  have g0 : 0 < g.length := List.length_pos_iff.mpr hg
  obtain ⟨W, w1, w2, w3⟩ := sc_of bf
  obtain ⟨D, d1, d2, d3⟩ := sc_of bg
  refine dfits_of hg hl (d := 49) (kg := 61) d1 (d2.mono (by omega)) (fun i => (d3 i).mono (by omega)) _ f W 109 121 (by omega) w1 (w2.mono (by omega)) (fun i => (w3 i).mono (by omega)) ?_ ?_ <;> omega
theorem fits2 {f g r h : List Rat} (bf : RbL 12 f) (bg : RbL 12 g) (br : RbL 12 r) (lf : f.length ≤ 9) (lg : g.length ≤ 4) (lr : r.length ≤ 3) (hg : g ≠ []) (hl : co g (g.length - 1) ≠ 0) (lh : h.length + 1 - g.length ≤ 9) (e : ∀ n, pc (co f) (co g) n + co r n = co h n) :
    dfits 1000 g (h.length + 1 - g.length) h := by
  have g0 : 0 < g.length := List.length_pos_iff.mpr hg
  obtain ⟨W, w1, w2, w3⟩ := sc_of bf
  obtain ⟨D, d1, d2, d3⟩ := sc_of bg
  obtain ⟨V, v1, v2, v3⟩ := sc_of br
  have bW : Bt 109 W := w2.mono (by omega)
  have bD : Bt 49 D := d2.mono (by omega)
  have bV : Bt 37 V := v2.mono (by omega)
  have WD := mul_ge1 w1 d1
  refine dfits_of hg hl (d := 49) (kg := 61) d1 bD (fun i => (d3 i).mono (by omega)) _ h (W * D * V) 195 229 (by omega) (mul_ge1 WD v1) (((bW.mul bD).mul bV).mono (by omega)) (fun i => ?_) (by omega) (by omega)
  rw [← e i, ← cs_co]
  have s1 := (sc_pc w1 d1 (fun i => (w3 i).mono (show _ ≤ 121 by omega)) (fun i => (d3 i).mono (show _ ≤ 61 by omega)) f.length i).scale WD v1 bV
  have s2 := (v3 i).scale v1 WD (bW.mul bD)
  rw [Int.mul_comm] at s2
  exact ((s1.mono (show _ ≤ 228 by omega)).add (s2.mono (show _ ≤ 228 by omega)) (mul_ge1 WD v1)).mono (by omega)
theorem len_whole {f g r : List Rat} (lf : f.length ≤ 9) (g0 : 0 < g.length) (lr : r.length < g.length) : (trimR (padd (trimR (conv f g)) r)).length + 1 - g.length ≤ 9 := by
  have h1 := len_trim_le (padd (trimR (conv f g)) r)
  rw [len_padd] at h1
  have h2 := len_trim_le (conv f g)
  rw [len_conv] at h2
  omega
theorem rds_val : ∀ rs : List Rat, (rs.map rd).map valQ = rs
  | [] => rfl
  | r :: rs => by
    rw [List.map_cons, List.map_cons, rd_val, rds_val rs]
theorem rds_ok {n : Nat} {rs : List Rat} (h : RbL n rs) : ∀ d ∈ rs.map rd, isFrD d = true ∧ Bt n (upD d) ∧ Bt n (dnD d) := by
  intro d hd
  obtain ⟨r, hr, rfl⟩ := List.mem_map.mp hd
  exact ⟨rd_fr r, (h r hr).1, (h r hr).2⟩
theorem RbL.of_val {n : Nat} {ds : List PyData} {rs : List Rat} (h : ∀ d ∈ ds, isFrD d = true ∧ Bt n (upD d) ∧ Bt n (dnD d)) (e : ds.map valQ = rs) : RbL n rs := by
  intro r hr
  rw [← e] at hr
  obtain ⟨d, hd, rfl⟩ := List.mem_map.mp hr
  obtain ⟨f1, f2, f3⟩ := h d hd
  exact Rb.of (fr_dn f1) f2 f3
/-! ### steps -/
section
variable {K : PySem.W.Frag} {σ : L2.St} {H H1 : Hp} {Q : VK} {te : TE} {tt : TT} {vs : List Nat} {q p : Addr}
theorem cut_P (P : V → Hp → Prop) (h1 : ∀ Q' : VK, (∀ v H', P v H' → Q' v H') → te σ H Q') (h2 : ∀ v H', P v H' → Q v H') : te σ H Q := h1 Q h2
theorem g_lcTu {g : TG} {tl : TE} (h : tl σ H fun x H1 => ∃ a, x = .ref a ∧ (∃ xs, SqT K H1 a xs) ∧ LcGo (Itt K a) g tt te vs σ H1 Q) : tLc (iTup K tl) g tt te vs σ H Q := h
theorem dq_poly {acc ws : List V} {rs : List Rat} (hq : H q = some (.lst acc)) (e : H p = some (.tup ws)) (t : TL H ws rs) : Dq q K H (.ref p) (.tuple (rs.map rd)) :=
  .tup (fun z => by rw [z, hq] at e; cases e) (tupU e) (TL.data hq t)
/-- a comprehension of fractions told in some way -/
theorem lc_as {i1 j : Nat} {t : Int} {ws : List V} {rs : List Rat} (hq : Qy K q t H) (ht : t ≤ 900000) (ep : H p = some (.tup ws)) (tl : TL H ws rs) (b : RbL 100 rs) (l : rs.length ≤ 200)
    (hw : ∀ x, wipe ((wipe σ vs).set j (some x)) vs = wipe σ vs) (h1 : ∀ x, ((wipe σ vs).set j (some x))[i1]? = some (some (.ref q))) (h2 : ∀ x, ((wipe σ vs).set j (some x))[j]? = some (some x))
    (k : ∀ D H' t' xs ds, SameX q H H' → Qy K q t' H' → t ≤ t' → t' ≤ t + 2 * (rs.length : Int) → H D = none → D ≠ q → H' D = some (.lst xs) → DqAll q K H' xs ds → (∀ d ∈ ds, isFrD d = true ∧ Bt 140 (upD d) ∧ Bt 140 (dnD d)) → ds.map valQ = rs → Q (.ref D) H') :
    LcGo (Itt K p) (gName j) tYes (tCl (sp_las K) (tCons (tVar i1) (tCons (tVar j) tNil))) vs σ H Q := by
  have lw := tl.len
  refine lcgo_tupF (xs := ws) (fun D i H' => ∃ t' xs fs, Qy K q t' H' ∧ t ≤ t' ∧ t' ≤ t + 2 * (i : Int) ∧ Qn q D H' ∧ SameX q H H' ∧ H' D = some (.lst xs) ∧ xs.length = i ∧ FzAll (fun b => b = q ∨ b = D) H' xs fs ∧ fs.map Fq.q = rs.take i) hw
    (fun D hD => ⟨t, [], [], hq.upd (Qn.new hq hD) (hq.ne hD), by omega, by omega, Qn.upd hq (Qn.new hq hD) (hq.ne hD), Same.x (same_new hD), upd_same, rfl, .nil, rfl⟩)
    (fun D i H' _ h => ?_) (fun D i x H' hD ex h => ?_) (fun D H' hD h => ?_)
  · obtain ⟨t', xs, fs, hq', _, _, _, sx, _⟩ := h
    exact tupU (sx.kt hq _ _ ep)
  · obtain ⟨t', xs, fs, hq', lt', ut', hn', sx, eD, lv, hall, ev⟩ := h
    have hi := (List.getElem?_eq_some_iff.mp ex).1
    have kx := sx.kt hq
    obtain ⟨pi, rfl, ei, gi⟩ := (tl.go kx).get ex
    have nD : D ≠ q := hq.ne hD
    refine g_yes ?_
    refine g_iteT ?_
    refine g_cl (g_cons (g_var (h1 _) (g_cons (g_var (h2 _) (g_nil ?_)))))
    refine ⟨q, pi, t', co rs i, rfl, hq', by omega, ei, b.co (by decide) i, fun t6 H6 v x y sx6 hq6 l6 u6 hz hy er bx by_ => ?_⟩
    have hn6 := hn'.go hq' sx6
    have eD6 := sx6 _ _ nD eD
    refine ⟨xs, eD6, small1000 (by omega), t6, xs ++ [v], fs ++ [⟨x, y, hy, bx, by_⟩], hq6.upd hn6 nD, by omega, by omega, Qn.upd hq6 hn6 nD, ?_, upd_same, by rw [List.length_append, lv]; rfl,
      FzAll.app (f := ⟨x, y, hy, bx, by_⟩) (hz.go fun b o nb eb => ?_) (hall.go fun b o nb eb => ⟨?_, nb⟩), ?_⟩
    · refine ⟨fun b o nb e => ?_, fun c w z e => ?_⟩
      · rw [upd_ne (ne_of_none e hD)]
        exact (sx.trans sx6).kept b o nb e
      · obtain ⟨w', z', e'⟩ := (sx.trans sx6).cell c w z e
        exact ⟨w', z', by rw [upd_ne nD.symm]; exact e'⟩
    · have nbq : b ≠ q := fun z => nb (by obtain ⟨c, ns, r, e1, _⟩ := hq'; rw [z]; exact ⟨_, e1⟩)
      have nbD : b ≠ D := fun z => nb (by rw [z]; exact ⟨_, eD⟩)
      refine ⟨by rw [upd_ne nbD]; exact eb, fun z => ?_⟩
      rcases z with z | z
      · exact nbq z
      · exact nbD z
    · rw [upd_ne (fun z => nb (.inr z))]
      exact sx6 _ _ (fun z => nb (.inl z)) eb
    · rw [List.map_append, ev, take_snoc gi]
      show rs.take i ++ [Fq.q ⟨x, y, hy, bx, by_⟩] = _
      unfold Fq.q
      rw [er]
  · obtain ⟨t', xs, fs, hq', lt', ut', hn', sx, eD, lv, hall, ev⟩ := h
    obtain ⟨ds, hds, hok, eds⟩ := hall.dq (K := K) (q := q) (.inl rfl)
    rw [lw, List.take_length] at ev
    exact k D H' t' xs ds sx hq' lt' (by rw [← lw]; exact ut') hD (hq.ne hD) eD hds hok (eds.trans ev)
/-- lists of polynomials -/
inductive PL (H : Hp) : List V → List (List Rat) → Prop
  | nil : PL H [] []
  | cons {a : Addr} {ws vs : List V} {r : List Rat} {rs : List (List Rat)} : H a = some (.tup ws) → TL H ws r → PL H vs rs → PL H (.ref a :: vs) (r :: rs)
theorem PL.go {H H' : Hp} (s : KeepT H H') : ∀ {vs : List V} {rs : List (List Rat)}, PL H vs rs → PL H' vs rs
  | _, _, .nil => .nil
  | _, _, .cons e t r => .cons (s _ _ e) (t.go s) (PL.go s r)
theorem PL.snoc {a : Addr} {ws : List V} {r : List Rat} (e : H a = some (.tup ws)) (t : TL H ws r) : ∀ {vs : List V} {rs : List (List Rat)}, PL H vs rs → PL H (vs ++ [.ref a]) (rs ++ [r])
  | _, _, .nil => .cons e t .nil
  | _, _, .cons e2 t2 l => .cons e2 t2 (PL.snoc e t l)
theorem PL.get {H : Hp} : ∀ {vs : List V} {rs : List (List Rat)} {i : Nat} {v : V}, PL H vs rs → vs[i]? = some v → ∃ a ws r, v = .ref a ∧ H a = some (.tup ws) ∧ TL H ws r ∧ rs[i]? = some r
  | _, _, _, _, .nil, h => by cases h
  | _, _, 0, _, .cons e t _, h => by
    cases h
    exact ⟨_, _, _, rfl, e, t, rfl⟩
  | _, _, i + 1, v, .cons _ _ l, h => by
    obtain ⟨a, ws, r, h1, h2, h3, h4⟩ := PL.get (i := i) (v := v) l h
    exact ⟨a, ws, r, h1, h2, h3, h4⟩
theorem PL.len {H : Hp} : ∀ {vs : List V} {rs : List (List Rat)}, PL H vs rs → vs.length = rs.length
  | _, _, .nil => rfl
  | _, _, .cons _ _ l => congrArg Nat.succ (PL.len l)
def pd (r : List Rat) : PyData := .tuple (r.map rd)
theorem PL.dp {H : Hp} : ∀ {vs : List V} {rs : List (List Rat)}, PL H vs rs → DpAll K H vs (rs.map pd)
  | _, _, .nil => .nil
  | _, _, .cons e t l => .cons (.tup (tupU e) t.dp) (PL.dp l)
theorem PL.data {H : Hp} {acc : List V} (hq : H q = some (.lst acc)) : ∀ {vs : List V} {rs : List (List Rat)}, PL H vs rs → DqAll q K H vs (rs.map pd)
  | _, _, .nil => .nil
  | _, _, .cons e t l => .cons (dq_poly hq e t) (PL.data hq l)
theorem pl2 {a b : Addr} {wa wb : List V} {ra rb : List Rat} (ea : H a = some (.tup wa)) (ta : TL H wa ra) (eb : H b = some (.tup wb)) (tb : TL H wb rb) : PL H [.ref a, .ref b] [ra, rb] := .cons ea ta (.cons eb tb .nil)
end
/-- two polynomials, shown -/
theorem sha_two {n L1 L2 : Nat} (hn : 1 ≤ n) (l : n ≤ 1900) {a b : List Rat} (ha : RbL n a) (hb : RbL n b) (la : a.length ≤ L1) (lb : b.length ≤ L2) :
    ShA (n + 1) (L1 * (2 * n + 4) + 1 + 1 + (L2 * (2 * n + 4) + 1 + 1 + 0)) 3 [pd a, pd b] := sha_cons (shn_poly hn l ha la) (sha_cons (shn_poly hn l hb lb) (sha_nil (W := 0)))
end Mf
namespace Mf
open PySem PySem.Spec PyProof.Rows L2
theorem rbl_slope {n : Nat} {l : List Rat} (h : RbL n l) (hn : 1 ≤ n) (hl : l.length ≤ 1000) : RbL (10 + n) (slope l) := RbL.of_co fun i hi => by
  rw [len_slope] at hi
  rw [co_slope]
  exact (Rb_nat (by omega)).mul (h.co hn _)
theorem ne_tl {H : Hp} {p q : Addr} {acc ws : List V} (hq : H q = some (.lst acc)) (e : H p = some (.tup ws)) : p ≠ q := fun z => by
  rw [z, hq] at e
  cases e
theorem ne_new {H : Hp} {p q : Addr} {acc : List V} (hq : H q = some (.lst acc)) (e : H p = none) : p ≠ q := fun z => by
  rw [z, hq] at e
  cases e
theorem tr_one {r : Rat} (h : r ≠ 0) : Tr [r] := fun _ => h
theorem tr_two {a r : Rat} (h : r ≠ 0) : Tr [a, r] := fun _ => h
theorem bt_lit {n : Nat} {i : Int} (h : i.natAbs < 8) (hn : 3 ≤ n) : Bt n i := Bt.mono (m := 3) h hn
end Mf
namespace Mf
open PySem PySem.Spec PyProof.Rows L2
/-! ### lcm; one down for all -/
def rLcm : List V → Hp → VK → Prop := fun vs H Q => ∃ a b : Int, vs = [.int a, .int b] ∧ Bt 5000 a ∧ Bt 5000 b ∧ Q (.int ((Nat.lcm a.natAbs b.natAbs : Nat) : Int)) H
theorem lcm_lt {a b m n : Nat} (ha : a < 2 ^ m) (hb : b < 2 ^ n) : Nat.lcm a b < 2 ^ (m + n) := by
  by_cases z : a * b = 0
  · have e : Nat.lcm a b = 0 := by
      unfold Nat.lcm
      rw [z, Nat.zero_div]
    rw [e]
    exact Nat.two_pow_pos _
  · exact Nat.lt_of_le_of_lt (Nat.le_of_dvd (Nat.pos_of_ne_zero z) (Nat.lcm_dvd (Nat.dvd_mul_right a b) (Nat.dvd_mul_left b a))) (by rw [Nat.pow_add]; exact Nat.mul_lt_mul'' ha hb)
theorem cr_lcm {X : Cx} : CallR X (.builtin "math.lcm") rLcm := by
  intro pins s σ H vs us Q I r h
  obtain ⟨a, b, rfl, ha, hb, q⟩ := h
  obtain ⟨t, u, rfl⟩ := Vals.int2 r
  have lg : ∀ {n : Nat}, n < 2 ^ 5000 → n.log2 < 5000 := fun {n} h => by
    by_cases z : n = 0
    · rw [z, Nat.log2_zero]
      decide
    · exact (Nat.log2_lt z).mpr h
  have e : (Nat.lcm 1 a.natAbs).lcm b.natAbs = Nat.lcm a.natAbs b.natAbs := by rw [Nat.lcm_one_left]
  have l1 : (max 1 a.natAbs).log2 < 5000 := lg (by
    have : 1 < 2 ^ 5000 := Nat.one_lt_two_pow (by decide)
    have := show a.natAbs < 2 ^ 5000 from ha
    omega)
  have l2 : (max a.natAbs b.natAbs).log2 < 5000 := lg (by
    have := show a.natAbs < 2 ^ 5000 from ha
    have := show b.natAbs < 2 ^ 5000 from hb
    omega)
  have l3 : ((((Nat.lcm 1 a.natAbs).lcm b.natAbs : Nat) : Int)).natAbs.log2 < bitsLine := by
    rw [Int.natAbs_natCast, e]
    have h := lcm_lt (show a.natAbs < 2 ^ 5000 from ha) (show b.natAbs < 2 ^ 5000 from hb)
    have h2 : (Nat.lcm a.natAbs b.natAbs).log2 < 10000 := by
      by_cases z : Nat.lcm a.natAbs b.natAbs = 0
      · rw [z, Nat.log2_zero]
        decide
      · exact (Nat.log2_lt z).mpr h
    exact Nat.lt_of_lt_of_le h2 (by decide +kernel)
  have g := PySem.W.mg_run_lcm a t b u (by omega) (by omega) l3
  rw [e] at g
  exact call_function_meets PySem.W.MGF.kind_lcm PySem.W.MGF.plain_lcm PySem.W.MGF.entry_lcm (PySem.W.MGF.args_lcm _ _) g.meets ⟨.int _, H, I.tok _, ⟨_, rfl⟩, q⟩
/-- xs[i] op= e -/
def rGetL (K : PySem.W.Frag) : V → V → Hp → VK → Prop := fun o i H Q => ∃ (a : Addr) (xs : List V) (k : Nat) (v : V), o = .ref a ∧ i = .int (k : Int) ∧ SqL K H a xs ∧ xs[k]? = some v ∧ Q v H
theorem pget_list {X : Cx} : PGet X (rGetL X.K) := by
  intro pins s σ H o i ov iv Q I ro ri h
  obtain ⟨a, xs, k, v, rfl, rfl, hq, he, q⟩ := h
  obtain rfl : ov = Value.ref a := ro
  obtain ⟨t, rfl⟩ := ri
  obtain ⟨its, r, pl, hz⟩ := I.list hq
  obtain ⟨w, ew, rw'⟩ := r.get he
  have hl := r.length
  have hk := (List.getElem?_eq_some_iff.mp he).1
  have hn := line63
  exact wpAny_getItem_list pl.isList (by omega) (by omega) (by simpa using ew) ⟨v, H, I, rw', q⟩
def lcmL (rs : List Rat) : Nat := rs.foldl (fun d r => Nat.lcm d r.den) 1
theorem lcmL_snoc (rs : List Rat) (r : Rat) : lcmL (rs ++ [r]) = Nat.lcm (lcmL rs) r.den := by
  unfold lcmL
  rw [List.foldl_append]
  rfl
theorem lcmL_pos (rs : List Rat) : 0 < lcmL rs := by
  have key : ∀ (rs : List Rat) (d : Nat), 0 < d → 0 < rs.foldl (fun d r => Nat.lcm d r.den) d := by
    intro rs
    induction rs with
    | nil => exact fun d h => h
    | cons r rs ih => exact fun d h => ih _ (Nat.lcm_pos h r.den_pos)
  exact key rs 1 (by decide)
theorem dvd_fold : ∀ (rs : List Rat) (d : Nat), d ∣ rs.foldl (fun d r => Nat.lcm d r.den) d ∧ ∀ r ∈ rs, r.den ∣ rs.foldl (fun d r => Nat.lcm d r.den) d
  | [], d => ⟨Nat.dvd_refl d, fun r h => absurd h List.not_mem_nil⟩
  | r :: rs, d => by
    obtain ⟨h1, h2⟩ := dvd_fold rs (Nat.lcm d r.den)
    refine ⟨Nat.dvd_trans (Nat.dvd_lcm_left _ _) h1, fun x hx => ?_⟩
    rcases List.mem_cons.mp hx with rfl | hx
    · exact Nat.dvd_trans (Nat.dvd_lcm_right _ _) h1
    · exact h2 x hx
theorem lcmL_lt {n : Nat} : ∀ {rs : List Rat} {d m : Nat}, RbL n rs → d < 2 ^ m → rs.foldl (fun d r => Nat.lcm d r.den) d < 2 ^ (m + rs.length * n)
  | [], d, m, _, h => by simpa using h
  | r :: rs, d, m, hb, h => by
    have hr : r.den < 2 ^ n := by
      have := (hb r List.mem_cons_self).2
      unfold Bt at this
      rw [Int.natAbs_natCast] at this
      exact this
    have := lcmL_lt (rs := rs) (fun x hx => hb x (List.mem_cons_of_mem _ hx)) (lcm_lt h hr)
    rw [List.length_cons, Nat.succ_mul]
    rw [show m + (rs.length * n + n) = m + n + rs.length * n by omega]
    exact this
theorem lcmL_bt {n : Nat} {rs : List Rat} (h : RbL n rs) : Bt (rs.length * n + 1) (lcmL rs : Int) := by
  show (lcmL rs : Int).natAbs < _
  rw [Int.natAbs_natCast, Nat.add_comm]
  exact lcmL_lt (m := 1) h (by decide)
theorem one_down {r : Rat} {D : Nat} (hD : 0 < D) (h : r.den ∣ D) : Rat.divInt (r.num * ((D : Int) / (r.den : Int))) D = r := by
  obtain ⟨c, rfl⟩ := h
  have d0 := r.den_pos
  have c0 : 0 < c := Nat.pos_of_mul_pos_left hD
  have e : ((r.den * c : Nat) : Int) / (r.den : Int) = (c : Int) := by
    rw [Int.natCast_mul, Int.mul_ediv_cancel_left _ (by omega)]
  rw [e, Int.natCast_mul, Rat.divInt_mul_right (by omega), Rat.num_divInt_den]
theorem len_lead {a b : List Rat} (hb : b ≠ []) (k : Nat) (hk : k + 1 = a.length) : pc (co a) (co b) (k + (b.length - 1)) = co a k * co b (b.length - 1) := by
  have hb0 : 0 < b.length := List.length_pos_iff.mpr hb
  rw [← cs_pc (co a) (co b) (k + (b.length - 1)) (k + 1) fun i hi => co_ge (by omega)]
  have low : ∀ i, i ≤ k → cs (co a) (co b) i (k + (b.length - 1)) = 0 := by
    intro i
    induction i with
    | zero => intro _; rfl
    | succ i ih2 =>
      intro hi
      rw [cs_succ, ih2 (by omega), if_pos (by omega), co_ge (l := b) (by omega)]
      grind
  rw [cs_succ, low k (Nat.le_refl k), if_pos (by omega), Rat.zero_add, show k + (b.length - 1) - k = b.length - 1 by omega]
theorem tr_conv {a b : List Rat} (ha : Tr a) (hb : Tr b) (na : a ≠ []) (nb : b ≠ []) : Tr (conv a b) := by
  intro hne
  have a0 : 0 < a.length := List.length_pos_iff.mpr na
  have b0 : 0 < b.length := List.length_pos_iff.mpr nb
  rw [co_conv, len_conv, show a.length + b.length - 1 - 1 = (a.length - 1) + (b.length - 1) by omega, len_lead nb (a.length - 1) (by omega)]
  intro z
  rcases Rat.mul_eq_zero.mp z with e | e
  · exact ha na e
  · exact hb nb e
/-! ### values -/
def evs (c : Nat → Rat) (x : Rat) : Nat → Rat
  | 0 => 0
  | i + 1 => evs c x i + c i * x ^ i
def hor (c : Nat → Rat) (x : Rat) : Nat → Nat → Rat
  | _, 0 => 0
  | k, n + 1 => hor c x (k + 1) n * x + c k
theorem hor_snoc (c : Nat → Rat) (x : Rat) : ∀ (n k : Nat), hor c x k n = evs (fun i => c (k + i)) x n
  | 0, k => rfl
  | n + 1, k => by
    show hor c x (k + 1) n * x + c k = _
    rw [hor_snoc c x n (k + 1)]
    have key : ∀ m, evs (fun i => c (k + i)) x (m + 1) = evs (fun i => c (k + 1 + i)) x m * x + c k := by
      intro m
      induction m with
      | zero =>
        show 0 + c (k + 0) * x ^ 0 = 0 * x + c k
        rw [Rat.pow_zero, Nat.add_zero]
        grind
      | succ m ih =>
        show evs (fun i => c (k + i)) x (m + 1) + c (k + (m + 1)) * x ^ (m + 1) = (evs (fun i => c (k + 1 + i)) x m + c (k + 1 + m) * x ^ m) * x + c k
        rw [ih, Rat.pow_succ, show k + (m + 1) = k + 1 + m by omega]
        grind
    rw [key n]
theorem evs_stop {c : Nat → Rat} {x : Rat} {m : Nat} (h : ∀ k, m ≤ k → c k = 0) : ∀ n, m ≤ n → evs c x n = evs c x m
  | 0, hn => by
    have : m = 0 := by omega
    rw [this]
  | n + 1, hn => by
    by_cases e : m = n + 1
    · rw [e]
    · show evs c x n + c n * x ^ n = _
      rw [evs_stop h n (by omega), h n (by omega), Rat.zero_mul, Rat.add_zero]
def val (l : List Rat) (x : Rat) : Rat := evs (co l) x l.length
theorem val_ge {l : List Rat} {x : Rat} {n : Nat} (h : l.length ≤ n) : evs (co l) x n = val l x := evs_stop (fun k hk => co_ge hk) n h
theorem evs_congr {c d : Nat → Rat} (h : ∀ i, c i = d i) (x : Rat) (n : Nat) : evs c x n = evs d x n := by rw [funext h]
theorem val_co {a b : List Rat} (h : ∀ i, co a i = co b i) (x : Rat) : val a x = val b x := by
  rw [← val_ge (l := a) (n := max a.length b.length) (by omega), ← val_ge (l := b) (n := max a.length b.length) (by omega)]
  exact evs_congr h x _
theorem val_trim (l : List Rat) (x : Rat) : val (trimR l) x = val l x := val_co (co_trim l) x
theorem rpow_add (x : Rat) (s : Nat) : ∀ n, x ^ (s + n) = x ^ s * x ^ n
  | 0 => by rw [Nat.add_zero, Rat.pow_zero, Rat.mul_one]
  | n + 1 => by rw [← Nat.add_assoc, Rat.pow_succ, rpow_add x s n, Rat.pow_succ, Rat.mul_assoc]
/-- the value of a product: one number of the first one after the other -/
theorem evs_shift (b : Nat → Rat) (x a : Rat) (s : Nat) : ∀ n, evs (fun j => if s ≤ j then a * b (j - s) else 0) x (s + n) = a * x ^ s * evs b x n
  | 0 => by
    have z : ∀ m, m ≤ s → evs (fun j => if s ≤ j then a * b (j - s) else 0) x m = 0 := by
      intro m
      induction m with
      | zero => intro _; rfl
      | succ m ih =>
        intro hm
        show evs _ x m + (if s ≤ m then a * b (m - s) else 0) * x ^ m = 0
        rw [ih (by omega), if_neg (by omega)]
        grind
    rw [Nat.add_zero, z s (Nat.le_refl s)]
    show 0 = a * x ^ s * 0
    grind
  | n + 1 => by
    show evs _ x (s + n) + (if s ≤ s + n then a * b (s + n - s) else 0) * x ^ (s + n) = a * x ^ s * (evs b x n + b n * x ^ n)
    rw [evs_shift b x a s n, if_pos (by omega), show s + n - s = n by omega, rpow_add]
    grind
theorem evs_add (c d : Nat → Rat) (x : Rat) : ∀ n, evs (fun j => c j + d j) x n = evs c x n + evs d x n
  | 0 => by show (0 : Rat) = 0 + 0; grind
  | n + 1 => by
    show evs _ x n + (c n + d n) * x ^ n = _ + _
    rw [evs_add c d x n]
    show _ = (evs c x n + c n * x ^ n) + (evs d x n + d n * x ^ n)
    grind
theorem evs_cs (a b : Nat → Rat) (x : Rat) (L : Nat) : ∀ i n, (∀ k, L ≤ k → b k = 0) → i + L ≤ n → evs (cs a b i) x n = evs a x i * evs b x L
  | 0, n, _, _ => by
    have z : ∀ m, evs (cs a b 0) x m = 0 := by
      intro m
      induction m with
      | zero => rfl
      | succ m ih =>
        show evs _ x m + cs a b 0 m * x ^ m = 0
        rw [ih]
        show 0 + 0 * _ = _
        grind
    rw [z]
    show 0 = 0 * _
    grind
  | i + 1, n, hb, hn => by
    have e : ∀ j, cs a b (i + 1) j = cs a b i j + (if i ≤ j then a i * b (j - i) else 0) := fun j => rfl
    rw [evs_congr e, evs_add (cs a b i) (fun j => if i ≤ j then a i * b (j - i) else 0), evs_cs a b x L i n hb (by omega)]
    obtain ⟨m, rfl⟩ : ∃ m, n = i + m := ⟨n - i, by omega⟩
    rw [evs_shift, evs_stop hb m (by omega)]
    show _ = (evs a x i + a i * x ^ i) * _
    grind
theorem val_conv (a b : List Rat) (x : Rat) : val (conv a b) x = val a x * val b x := by
  have h := evs_cs (co a) (co b) x b.length a.length (a.length + b.length) (fun k hk => co_ge hk) (Nat.le_refl _)
  rw [← val_ge (l := conv a b) (n := a.length + b.length) (by rw [len_conv]; omega)]
  rw [evs_congr (d := cs (co a) (co b) a.length) (fun j => by rw [co_conv, cs_co])]
  exact h
/-- sizes of values -/
theorem Rb.pow {n : Nat} {x : Rat} (h : Rb n x) : ∀ i, Rb (1 + i * n) (x ^ i)
  | 0 => by rw [Rat.pow_zero]; exact Rb1.mono (by omega)
  | i + 1 => by
    rw [Rat.pow_succ, Nat.succ_mul]
    exact ((Rb.pow h i).mul h).mono (by omega)
theorem Rb.ev {A B : Nat} {c : Nat → Rat} {x : Rat} (hc : ∀ i, Rb B (c i)) (hx : Rb A x) (m : Nat) : ∀ i, i ≤ m → Rb (1 + i * (B + 2 + m * A)) (evs c x i)
  | 0, _ => Rb0.mono (by omega)
  | i + 1, hi => by
    have h := (Rb.ev hc hx m i (by omega)).add ((hc i).mul (hx.pow i))
    refine h.mono ?_
    have : i * A ≤ m * A := Nat.mul_le_mul_right _ (by omega)
    rw [Nat.succ_mul]
    omega
theorem Rb.hor {A B : Nat} {c : Nat → Rat} {x : Rat} (hc : ∀ i, Rb B (c i)) (hx : Rb A x) : ∀ n k, Rb (1 + n * (A + B + 1)) (hor c x k n)
  | 0, k => Rb0.mono (by omega)
  | n + 1, k => by
    have h := ((Rb.hor hc hx n (k + 1)).mul hx).add (hc k)
    refine h.mono ?_
    rw [Nat.succ_mul]
    omega
end Mf
namespace Mf
open PySem PySem.Spec PyProof.Rows L2
section
variable {K : PySem.W.Frag} {σ : L2.St} {H H1 : Hp} {Q : VK} {te ti to : TE} {tt : TT} {vs : List Nat} {D : Ends} {tb : TS}
/-- for x, y in a: a tuple of fractions -/
theorem g_forTP {i0 i j : Nat} {a : Addr} {xs : List V} {rs : List Rat} {H0 : Hp} (e : σ[i0]? = some (some (.ref a))) (ha : H0 a = some (.tup xs)) (tl : TL H0 xs rs) (Pv : Nat → L2.St → Hp → Prop) (h0 : Pv 0 σ H) (hx : ∀ n σ' H', Pv n σ' H' → Same H0 H')
    (hb : ∀ n σ' H', n < rs.length → rs[n]? = some (co rs n) → Pv n σ' H' → tb ⟨Pv (n + 1), D.rt, D.nx, Pv (n + 1)⟩ ((σ'.set i (some (.int (co rs n).num))).set j (some (.int ((co rs n).den : Int)))) H')
    (hd : ∀ σ' H', Pv rs.length σ' H' → D.nx σ' H') : tFor (iTup K (tVar i0)) (g2 K i j) tb D σ H := by
  have hl := tl.len
  refine ⟨.ref a, e, a, rfl, ⟨xs, tupU (hx _ _ _ h0 _ _ ha)⟩, for_tup (xs := xs) Pv h0 (fun n σ' H' _ p => tupU (hx _ _ _ p _ _ ha)) (fun n x σ' H' ex p => ?_) (fun σ' H' p => hd σ' H' (by rw [← hl]; exact p))⟩
  obtain ⟨b, rfl, eb, gb⟩ := (tl.go (Same.kt (hx _ _ _ p))).get ex
  exact g_pair (tupU eb) (hb n σ' H' (List.getElem?_eq_some_iff.mp gb).1 gb p)
theorem lcgo_tupP {a : Addr} {xs : List V} {rs : List Rat} {i j : Nat} (ha : H1 a = some (.tup xs)) (tl : TL H1 xs rs) (Pv : Addr → Nat → Hp → Prop) (hw : ∀ x y, wipe (((wipe σ vs).set i (some x)).set j (some y)) vs = wipe σ vs)
    (h0 : ∀ D, H1 D = none → Pv D 0 (upd H1 D (.lst []))) (hl : ∀ D n H, Pv D n H → Same H1 H)
    (hs : ∀ D n H, H1 D = none → n < rs.length → rs[n]? = some (co rs n) → Pv D n H → te (((wipe σ vs).set i (some (.int (co rs n).num))).set j (some (.int ((co rs n).den : Int)))) H fun y H4 => ∃ acc, H4 D = some (.lst acc) ∧ acc.length < sizeLine ∧ Pv D (n + 1) (upd H4 D (.lst (acc ++ [y]))))
    (hd : ∀ D H, H1 D = none → Pv D rs.length H → Q (.ref D) H) : LcGo (Itt K a) (g2 K i j) tYes te vs σ H1 Q := by
  intro D hD
  have hlen := tl.len
  refine ⟨fun n m H => m = xs.length - n ∧ n ≤ xs.length ∧ Pv D n H, ⟨xs.length, by omega, Nat.zero_le _, h0 D hD⟩, ?_⟩
  rintro n m H ⟨rfl, hi, p⟩
  have q := tupU (K := K) (hl D n H p _ _ ha)
  by_cases hlt : n < xs.length
  · refine .inr ⟨⟨xs, xs[n], q, by simp [hlt]⟩, Pv D (n + 1), fun H' p' => ⟨xs.length - (n + 1), by omega, rfl, hlt, p'⟩, fun x H' yl => ?_⟩
    obtain ⟨rfl, yl⟩ := yl
    obtain ⟨b, rfl, eb, gb⟩ := (tl.go (Same.kt (hl D n _ p))).get (yl xs q)
    exact g_pair (tupU eb) ⟨hw _ _, g_yes (g_iteT (hs D n _ hD (by omega) gb p))⟩
  · have e2 : n = xs.length := by omega
    subst e2
    exact .inl ⟨⟨xs, q, Nat.le_refl _⟩, hd D H hD (by rw [← hlen]; exact p)⟩
/-- .. over enumerate(a), a a list -/
theorem lcgo_enumL {a : Addr} {xs : List V} {i j : Nat} (Pv : Addr → Nat → Hp → Prop) (hw : ∀ x y, wipe (((wipe σ vs).set i (some x)).set j (some y)) vs = wipe σ vs)
    (h0 : ∀ D, H1 D = none → Pv D 0 (upd H1 D (.lst []))) (hl : ∀ D n H, n ≤ xs.length → Pv D n H → SqL K H a xs)
    (hs : ∀ D n x T H, H1 D = none → xs[n]? = some x → Pv D n H → H T = none → tt (((wipe σ vs).set i (some (.int (n : Nat)))).set j (some x)) (upd H T (.tup [.int (n : Nat), x])) fun b H3 =>
      if b = true then te (((wipe σ vs).set i (some (.int (n : Nat)))).set j (some x)) H3 fun y H4 => ∃ acc, H4 D = some (.lst acc) ∧ acc.length < sizeLine ∧ Pv D (n + 1) (upd H4 D (.lst (acc ++ [y]))) else Pv D (n + 1) H3)
    (hd : ∀ D H, H1 D = none → Pv D xs.length H → Q (.ref D) H) : LcGo (Ite K a) (g2 K i j) tt te vs σ H1 Q := by
  intro D hD
  refine ⟨fun n m H => m = xs.length - n ∧ n ≤ xs.length ∧ Pv D n H, ⟨xs.length, by omega, Nat.zero_le _, h0 D hD⟩, ?_⟩
  rintro n m H ⟨rfl, hi, p⟩
  have q := hl D n H hi p
  by_cases hlt : n < xs.length
  · refine .inr ⟨⟨xs, xs[n], q, by simp [hlt]⟩, Pv D (n + 1), fun H' p' => ⟨xs.length - (n + 1), by omega, rfl, hlt, p'⟩, fun x H' yl => ?_⟩
    obtain ⟨T, z, rfl, nT, rfl, ez⟩ := yl
    exact g_pair (tupU upd_same) ⟨hw _ _, hs D n z T H hD (ez xs q) p nT⟩
  · have e2 : n = xs.length := by omega
    subst e2
    exact .inl ⟨⟨xs, q, Nat.le_refl _⟩, hd D H hD p⟩
theorem g_lcEL {ta : TA} {g : TG} (q : ta σ H fun us H1 => ∃ a xs, us = [.ref a] ∧ SqL K H1 a xs ∧ LcGo (Ite K a) g tt te vs σ H1 Q) : tLc (iEnum K ta) g tt te vs σ H Q := q
theorem g_lcm {a b : Int} (ha : Bt 5000 a) (hb : Bt 5000 b) (q : Q (.int ((Nat.lcm a.natAbs b.natAbs : Nat) : Int)) H) : rLcm [.int a, .int b] H Q := ⟨a, b, rfl, ha, hb, q⟩
theorem g_augS {tg : V → V → Hp → VK → Prop} {tip : TIp} {ts : TSet} (q : to σ H fun o H1 => ti σ H1 fun i H2 => tg o i H2 fun x H3 => te σ H3 fun y H4 => tip x y H4 fun z H5 => ts o i z H5 fun H6 => D.nx σ H6) : tAugS to ti te tg tip ts D σ H := q
theorem g_ipI {f : Int → Int → Int} {i j : Int} (q : Q (.int (f i j)) H) : ipI f (.int i) (.int j) H Q := ⟨i, j, rfl, rfl, q⟩
theorem g_getL {a : Addr} {xs : List V} {k : Nat} {v : V} (h : SqL K H a xs) (e : xs[k]? = some v) (q : Q v H) : rGetL K (.ref a) (.int (k : Int)) H Q := ⟨a, xs, k, v, rfl, rfl, h, e, q⟩
/-- for x in reversed(a), a a tuple -/
theorem g_forRT {i0 j : Nat} {a : Addr} {xs : List V} {H0 : Hp} (e : σ[i0]? = some (some (.ref a))) (ha : H0 a = some (.tup xs)) (Pv : Nat → L2.St → Hp → Prop) (h0 : Pv 0 σ H) (hx : ∀ n σ' H', Pv n σ' H' → Same H0 H')
    (hb : ∀ n x σ' H', n < xs.length → xs[xs.length - 1 - n]? = some x → Pv n σ' H' → tb ⟨Pv (n + 1), D.rt, D.nx, Pv (n + 1)⟩ (σ'.set j (some x)) H')
    (hd : ∀ σ' H', Pv xs.length σ' H' → D.nx σ' H') : tFor (RT.iRevA K (tVar i0)) (gName j) tb D σ H := by
  refine ⟨.ref a, e, a, xs, rfl, .inr ⟨tupU (hx _ _ _ h0 _ _ ha), fun i m σ H => m = xs.length - i ∧ i ≤ xs.length ∧ Pv i σ H, ⟨xs.length, by omega, Nat.zero_le _, h0⟩, ?_⟩⟩
  rintro n m σ H ⟨rfl, hi, p⟩
  have q := tupU (K := K) (hx _ _ _ p _ _ ha)
  by_cases hlt : n < xs.length
  · have hl2 : xs.length - 1 - n < xs.length := by omega
    refine .inr ⟨⟨hlt, xs, xs[xs.length - 1 - n], q, List.getElem?_eq_getElem hl2⟩, Pv (n + 1), fun σ' H' p' => ⟨xs.length - (n + 1), by omega, rfl, hlt, p'⟩, fun x H' yl => ?_⟩
    obtain ⟨rfl, yl⟩ := yl
    exact hb n x σ _ hlt (yl xs q) p
  · have e2 : n = xs.length := by omega
    subst e2
    exact .inl ⟨Nat.le_refl _, hd σ H p⟩
/-- a for over range(e) -/
theorem g_forN {ta : TA} {j : Nat} {n : Nat} (Pv : Nat → L2.St → Hp → Prop) (hn : n ≤ 1000)
    (h : ta σ H fun vs H1 => vs = [.int (n : Int)] ∧ Pv 0 σ H1)
    (hmono : ∀ R R' : List V → Hp → Prop, (∀ vs H', R vs H' → R' vs H') → ta σ H R → ta σ H R')
    (hs : ∀ i σ H, i < n → Pv i σ H → tb ⟨Pv (i + 1), D.rt, D.nx, Pv (i + 1)⟩ (σ.set j (some (.int (0 + (i : Int))))) H) (hd : ∀ σ H, Pv n σ H → D.nx σ H) :
    tFor (iRng1 ta) (gName j) tb D σ H :=
  hmono _ _ (fun vs H1 hv => by
    obtain ⟨rfl, h0⟩ := hv
    exact ⟨(n : Int), rfl, by omega, by omega, by
      rw [Int.toNat_natCast]
      exact for_range (lo := 0) (n := n) Pv h0 (fun i σ H hi p => hs i σ H hi p) hd⟩) h
end
def ForGo (J : It) (g : TG) (tb : TS) (D : Ends) (σ : L2.St) (H1 : Hp) : Prop := ∃ W : Nat → Nat → L2.St → Hp → Prop, (∃ m, W 0 m σ H1) ∧ ∀ i m σ H, W i m σ H →
  (J.stop i H ∧ D.nx σ H) ∨ (J.go i H ∧ ∃ N : L2.St → Hp → Prop, (∀ σ' H', N σ' H' → ∃ m', m' < m ∧ W (i + 1) m' σ' H') ∧ ∀ x H', J.yld i H x H' → g x σ H' fun σ2 H2 => tb { D with nx := N, ct := N, bk := D.nx } σ2 H2)
/-! ### promises -/
def RetO (rs : List Rat) (n : Nat) (H : Hp) (Q : VK) : Prop := ∀ (p : Addr) (H' : Hp) (L : Addr) (us : List Int), Same H H' → H p = none → H' p = some (.tup [.ref L, .int (lcmL rs : Int)]) → H' L = some (.lst (us.map V.int)) → us.length = rs.length →
  (∀ i, i < rs.length → ∃ u, us[i]? = some u ∧ Rat.divInt u (lcmL rs : Int) = co rs i ∧ Bt (n + (rs.length * n + 1)) u) → Q (.ref p) H'
def sp_oood (K : PySem.W.Frag) : Sp := fun vs H Q _ => ∃ a xs rs n, vs = [.ref a] ∧ H a = some (.tup xs) ∧ TL H xs rs ∧ RbL n rs ∧ rs.length ≤ 100 ∧ 1 ≤ n ∧ rs.length * n + n ≤ 4000 ∧ RetO rs n H Q
def sp_times (K : PySem.W.Frag) : Sp := fun vs H Q _ => ∃ a b xs ys f g A B, vs = [.ref a, .ref b] ∧ H a = some (.tup xs) ∧ H b = some (.tup ys) ∧ TL H xs f ∧ TL H ys g ∧ RbL A f ∧ RbL B g ∧ Tr f ∧ Tr g ∧ 1 ≤ A ∧ 1 ≤ B ∧ f.length ≤ 100 ∧ g.length ≤ 100 ∧
  f.length * A + A ≤ 3000 ∧ g.length * B + B ≤ 3000 ∧ RetL (trimR (conv f g)) H Q
def sp_ptimes (K : PySem.W.Frag) : Sp := fun vs H Q _ => ∃ q a b xs ys ds es n A B, vs = [.ref a, .ref b] ∧ a ≠ q ∧ b ≠ q ∧ Sq K H a xs ∧ Sq K H b ys ∧ DqAll q K H xs ds ∧ DqAll q K H ys es ∧
  (∀ d ∈ ds, isFrD d = true ∧ Bt n (upD d) ∧ Bt n (dnD d)) ∧ (∀ d ∈ es, isFrD d = true ∧ Bt n (upD d) ∧ Bt n (dnD d)) ∧ n ≤ 7000 ∧ ds.length ≤ 80 ∧ es.length ≤ 80 ∧ RbL A (trimR (ds.map valQ)) ∧ RbL B (trimR (es.map valQ)) ∧ 1 ≤ A ∧ 1 ≤ B ∧
  (trimR (ds.map valQ)).length * A + A ≤ 3000 ∧ (trimR (es.map valQ)).length * B + B ≤ 3000 ∧ ((trimR (es.map valQ)) = [] ∨ (trimR (ds.map valQ)).length + (trimR (es.map valQ)).length ≤ 81) ∧ RetL (trimR (conv (trimR (ds.map valQ)) (trimR (es.map valQ)))) H Q
def sp_polyof (K : PySem.W.Frag) : Sp := fun vs H Q _ => ∃ q a xs ds n, vs = [.ref a] ∧ a ≠ q ∧ Sq K H a xs ∧ DqAll q K H xs ds ∧ (∀ d ∈ ds, isFrD d = true ∧ Bt n (upD d) ∧ Bt n (dnD d)) ∧ n ≤ 7000 ∧ ds.length ≤ 80 ∧ RetL (trimR (ds.map valQ)) H Q
def sp_psum (K : PySem.W.Frag) : Sp := fun vs H Q _ => ∃ q a b xs ys ds es n, vs = [.ref a, .ref b] ∧ a ≠ q ∧ b ≠ q ∧ Sq K H a xs ∧ Sq K H b ys ∧ DqAll q K H xs ds ∧ DqAll q K H ys es ∧
  (∀ d ∈ ds, isFrD d = true ∧ Bt n (upD d) ∧ Bt n (dnD d)) ∧ (∀ d ∈ es, isFrD d = true ∧ Bt n (upD d) ∧ Bt n (dnD d)) ∧ 1 ≤ n ∧ n ≤ 3000 ∧ ds.length ≤ 80 ∧ es.length ≤ 80 ∧ RetL (trimR (padd (ds.map valQ) (es.map valQ))) H Q
def sp_pval (K : PySem.W.Frag) : Sp := fun vs H Q _ => ∃ q a v xs ds x n A B, vs = [.ref a, v] ∧ a ≠ q ∧ Sq K H a xs ∧ DqAll q K H xs ds ∧ (∀ d ∈ ds, isFrD d = true ∧ Bt n (upD d) ∧ Bt n (dnD d)) ∧ n ≤ 7000 ∧ ds.length ≤ 80 ∧ Fr q K H v x A ∧ RbL B (trimR (ds.map valQ)) ∧ 1 ≤ B ∧
  (trimR (ds.map valQ)).length * (A + B + 1) + A + B ≤ 6900 ∧ (∃ acc, H q = some (.lst acc)) ∧ RetT (val (ds.map valQ) x) H Q
def sp_lval (K : PySem.W.Frag) : Sp := fun vs H Q _ => ∃ a b xs rs x A B C, vs = [.ref a, .ref b] ∧ Sq K H a xs ∧ TL H xs rs ∧ H b = some (.tup (rv x)) ∧ Rb A x ∧ RbL B rs ∧ 1 ≤ B ∧ (∀ i, i ≤ rs.length → Rb C (evs (co rs) x i)) ∧ C + B + (rs.length + 1) * A + 2 ≤ 7000 ∧ xs.length ≤ 100 ∧ RetT (val rs x) H Q
end Mf
/-! a caught error that is kept behind its suite -/
namespace Mf
open PySem PySem.Spec PySem.Calls PyProof.Rows L2
/-- at e: an error that was caught, of the class cls, its dict at d -/
def cxo (e : Addr) (cls : Value) (d : Option Addr) : HO := .ext fun h => ∃ (oe : Obj) (vs : Array Value), h.get? e = some oe ∧ oe.cls = cls ∧ oe.dict = d ∧ oe.data = .fields vs
theorem cxo_ok {P : Program} {w : World} {H : Hp} {h : Heap} {e : Addr} {cls : Value} {d : Option Addr} {oe : Obj} {vs : Array Value} (he : h.get? e = some oe) (h1 : oe.cls = cls) (h2 : oe.dict = d) (h3 : oe.data = .fields vs) : ObjOk P w H h e (cxo e cls d) :=
  ⟨⟨oe, vs, he, h1, h2, h3⟩, ⟨oe, he⟩, fun a b z k => by
    obtain ⟨o2, v2, q1, q2, q3, q4⟩ := z
    exact ⟨o2, v2, k _ q1, q2, q3, q4⟩⟩
theorem cxo_at {P : Program} {w : World} {H : Hp} {h : Heap} {e : Addr} {cls : Value} {d : Option Addr} (hok : HOk P w H h) (he : H e = some (cxo e cls d)) : ∃ (oe : Obj) (vs : Array Value), h.get? e = some oe ∧ oe.cls = cls ∧ oe.dict = d ∧ oe.data = .fields vs := by
  have x : ObjOk P w H h e (.ext fun h => ∃ (oe : Obj) (vs : Array Value), h.get? e = some oe ∧ oe.cls = cls ∧ oe.dict = d ∧ oe.data = .fields vs) := hok e _ he
  exact x.1
section
variable {X : Cx} {pins : List (Addr × Obj)} {σ : L2.St} {H : Hp} {s : Shared}
theorem Inv.track {a : Addr} {u : HO} (I : Inv X pins σ H s) (hn : H a = none) (new : ∀ o, X.s_0.heap.get? a = some o → a ∈ X.ex) (nL : a ≠ X.env.locals) (nC : ∀ x c, X.env.cells.lookup x = some c → c ≠ a) (nP : ∀ p ∈ X.pn ++ pins, p.1 ≠ a)
    (ok : ObjOk X.prog X.w (upd H a u) s.heap a u) : Inv X pins σ (upd H a u) s := by
  have neq : ∀ {b : Addr} {o : HO}, H b = some o → b ≠ a := fun e => ne_of_none e hn
  refine ⟨I.ok, I.os, I.bare, ⟨I.base.keep, I.base.slot, fun b o e n hx => ?_, I.base.there, fun b xs e => ?_, fun b o v e => ?_, fun b ps e => ?_⟩, I.loc, I.cell, ?_, fun x c e => ?_, fun p hp => ?_, fun b v e => ?_, I.len⟩
  · by_cases hb : b = a
    · subst hb
      exact absurd (new o e) hx
    · rw [upd_ne hb]
      exact I.base.free b o e n hx
  · have q := I.base.tups b xs e
    rw [upd_ne (neq q)]
    exact q
  · have q := I.base.frzs b o v e
    rw [upd_ne (neq q)]
    exact q
  · obtain ⟨more, q⟩ := I.base.tbls b ps e
    exact ⟨more, by rw [upd_ne (neq q)]; exact q⟩
  · rw [upd_ne (Ne.symm nL)]
    exact I.free
  · rw [upd_ne (nC x c e)]
    exact I.freeC x c e
  · obtain ⟨q1, q2, q3⟩ := I.pin p hp
    exact ⟨q1, by rw [upd_ne (nP p hp)]; exact q2, q3⟩
  · by_cases hb : b = a
    · subst hb
      rw [upd_same] at e
      cases e
      exact ok
    · rw [upd_ne hb] at e
      exact (I.hok b v e).stay (fun c w hc q => q) (fun d q => by rw [upd_ne (neq q)]; exact q) fun d xs q => by rw [upd_ne (neq q)]; exact q
end
/-- what 'except x as n' wishes where the error is kept -/
def wKeep (K : PySem.W.Frag) (c : Value) (i : Nat) (ts : Addr → Value → Option Addr → TS) (Wout : WX) (D : Ends) : WX := fun cls d σ H =>
  ∃ b, PySem.W.exmOne K cls c = some b ∧ (b = true → ∀ a, H a = none → ts a cls d { nx := fun σ' H' => D.nx (σ'.set i none) (upd H' a (cxo a cls d)), rt := fun _ _ => False, bk := fun _ _ => False, ct := fun _ _ => False } (σ.set i (some (.ref a))) H) ∧
    (b = false → Wout cls d σ H)
section
variable {X : Cx} {x n : Str} {c : Value} {i : Nat} {body suite : List Stmt} {b₀ : Stmt} {np pos pos' : Pos} {tb : WX → TS} {ts : Addr → Value → Option Addr → TS} {Wout : WX}
theorem ps_try_keep (hs : X.stack = X.env :: X.outer) (hf : X.env.frame = some X.env.locals) (hN : X.N.Nodup) (hi : X.N[i]? = some n) (hln : X.env.kindOf n = some .local) (hc : Names X x c) (tk : Takes X Wout)
    (hb : ∀ (W : WX) (pn : List (Addr × Obj)) (xe : Value → Shared → Prop), Takes (X.tr pn xe) W → PassesOwn (model X.prog X.w) X.A X.env xe → PSs (X.tr pn xe) body (tb W))
    (hsu : ∀ (a : Addr) (oe : Obj) (cls : Value) (d : Option Addr) (pn : List (Addr × Obj)), Zc cls d oe → (∃ vs, oe.data = .fields vs) → PSs (X.suite a ((a, oe) :: pn)) (b₀ :: suite) (ts a cls d)) :
    PS X (.Try body [.ExceptHandler (some (.Name x np)) (some n) (b₀ :: suite) pos'] [] [] pos) (fun D σ H => tb (wKeep X.K c i ts Wout D) D σ H) := by
  refine ⟨fun pins s σ H D I h => ?_⟩
  have ok := I.ok
  have hfr : X.A.frames = some (X.env :: X.outer) := by rw [ok.frames, hs]
  have hloc : Loc X.env.scope n := .inl hln
  refine wpAny_Try_except ?_
  refine wpAny_mono ((hb (wKeep X.K c i ts Wout D) (X.pn ++ pins) (fun e s₁ => wpAny (model X.prog X.w) X.A (noteFrame e X.env) (fun _ s₂ => wpAny (model X.prog X.w) X.A (setFlight e none) (fun _ s₃ =>
    wpAny (model X.prog X.w) X.A (handleBy e X.env [.ExceptHandler (some (.Name x np)) (some n) (b₀ :: suite) pos']) (SP X pins D) X.xe s₃) X.xe s₂) X.xe s₁) (fun u s' xx => ?_) PassesOwn.looking).run [] s σ H D (I.toTry _) h) (fun f s1 hsp => ?_) (fun e s1 he => he)
  · obtain ⟨a, B, sI, pins', σ', H', cls, d, rfl, J', nb, up, sky, na, os, ag, b, hb1, hyes, hno⟩ := xx
    have J : Inv X pins σ' H' sI := J'.ofTry ok
    have sky' : Sky B (X.env :: X.outer) a (Zc cls d) X.env.locals s'.heap := by rw [← hs]; exact sky
    show wpAny (model X.prog X.w) X.A (noteFrame (.ref a) X.env) _ _ _
    refine Sky.land Zc.steady hfr hf sky' fun h3 fl3 up3 => ?_
    have J3 : Inv X pins σ' H' { s' with heap := h3 } := J.landed nb fl3.1 (up.trans up3) os ag
    obtain ⟨oe3, vs3, he3, hz3, hd3⟩ := fl3.there
    have notFr : ∀ {h : Heap} {o : Obj} {vs : Array Value}, h.FunFrames B (X.env :: X.outer) → h.get? a = some o → o.data = .fields vs → a ∉ frs (X.env :: X.outer) := fun {h o vs} ff e dd hm => by
      obtain ⟨_, o', e', hnf⟩ := ff.mem hm
      rw [e] at e'
      cases e'
      exact hnf _ dd
    have nfr := notFr fl3.2.2.1 he3 hd3
    have hB : B.get? a = none := fl3.2.1
    have nL : a ≠ X.env.locals := fun z => nfr (List.mem_filterMap.mpr ⟨X.env, List.mem_cons_self, by rw [hf, z]⟩)
    have nF : a ∉ X.fs := fun hm => by
      obtain ⟨e, he, q⟩ := List.mem_filterMap.mp hm
      exact nfr (List.mem_filterMap.mpr ⟨e, List.mem_cons_of_mem _ he, q⟩)
    have nI : ∀ o, sI.heap.get? a = some o → False := fun o e => by
      have q := nb a o e (by rw [hs]; exact nfr)
      rw [hB] at q
      cases q
    have new : ∀ o, X.s_0.heap.get? a = some o → a ∈ X.ex := fun o e => by
      by_cases z : a ∈ X.ex
      · exact z
      · obtain ⟨o', e'⟩ := J.base.there a o e z
        exact (nI o' e').elim
    have nP : ∀ p ∈ X.pn ++ pins, p.1 ≠ a := fun p hp z => by
      have q := (J.pin p hp).1
      rw [z] at q
      exact nI _ q
    have S3 := J3.suite he3 hd3 na nL nF
    refine wpAny_handleBy_cons (codeAny_handlers_test ?_) (by intro q; cases q)
    have LT : PySem.W.Looks (model X.prog X.w) h3 (typeOf (.ref a)) cls := fun A Q E s k q => wpAny_typeOf_ref (k _ _ he3) (by rw [hz3.1]; exact q)
    have LM := PySem.W.exm_one (M := model X.prog X.w) (J3.kIn) LT hb1
    have test : ∀ {Q : Value → Shared → Prop} {E : Value → Shared → Prop}, Q c { s' with heap := h3 } → wpAny (model X.prog X.w) (X.A.mark (some (.ref a))) (eval (.Name x np) X.env) Q E { s' with heap := h3 } := fun {Q E} q => by
      obtain ⟨hg, hdbg, hm | ⟨hm, hv, hnn⟩⟩ := hc
      · exact ld_glob (X := X.suite a ((a, oe3) :: (X.pn ++ pins))) S3 hg hm q hdbg
      · exact ld_blt (X := X.suite a ((a, oe3) :: (X.pn ++ pins))) S3 hg hm hv q hnn hdbg
    refine test (LM.here ?_)
    cases b with
    | true =>
      refine codeAny_handlers_suite_as ?_
      refine HandSPX.lands_againZ fl3 fun h4 fl4 up4 => ?_
      have J4 : Inv X pins σ' H' { s' with heap := h4 } := J.landed nb fl4.1 ((up.trans up3).trans up4) os ag
      obtain ⟨oe4, vs4, he4, hz4, hd4⟩ := fl4.there
      have S4 := J4.suite he4 hd4 na nL nF
      refine store_ok (X := X.suite a ((a, oe4) :: (X.pn ++ pins))) (v := .ref a) S4 hN hi hloc rfl (fun s5 S5 => ?_) (.inr hln)
      refine wpAny_mono ((hsu a oe4 cls d (X.pn ++ pins) hz4 ⟨_, hd4⟩).run [] s5 _ H' _ S5 (hyes rfl a na)) (fun f s6 hsp => ?_) (fun _ _ z => False.elim z)
      cases f with
      | next =>
        obtain ⟨σ6, H6, S6, q6⟩ := hsp
        obtain ⟨g1, g2, _⟩ := S6.pin (a, oe4) (List.mem_append_left _ List.mem_cons_self)
        have J6 := S6.unsuite ok
        have J7 : Inv X pins σ6 (upd H6 a (cxo a cls d)) s6 := by
          refine Inv.track J6 g2 new nL (fun y cc e z => ?_) nP (cxo_ok g1 hz4.1 hz4.2 hd4)
          obtain ⟨v, o, ho, hv⟩ := J6.cell y cc e
          rw [z, g1] at ho
          cases ho
          rw [hd4] at hv
          cases hv
        exact gone_ok J7 hN hi hln fun s7 K7 => ⟨_, _, K7, q6⟩
      | brk =>
        obtain ⟨σ6, H6, S6, q6⟩ := hsp
        exact q6.elim
      | cont =>
        obtain ⟨σ6, H6, S6, q6⟩ := hsp
        exact q6.elim
      | ret u =>
        obtain ⟨v6, σ6, H6, S6, r6, q6⟩ := hsp
        exact q6.elim
    | false =>
      show wpAny _ X.A (handleBy (.ref a) X.env []) _ _ _
      refine wpAny_handleBy_nil ?_
      obtain ⟨k1, k2, k3, oe, vs, T, oT, ts', he, hz, hd, h1, hr⟩ := id fl3
      unfold PySem.passOn
      refine wpAny_bind (wpAny_field he hd h1 ?_)
      rw [if_neg (show ¬ ((Value.ref T == Value.none) = true) from by simp)]
      have fin : wpAny (model X.prog X.w) X.A (setFlight (.ref a) X.env.frame) (fun _ s4 => wpAny (model X.prog X.w) X.A (throw (.ref a) : Sem Flow) (SP X pins D) X.xe s4) X.xe { s' with heap := h3 } := by
        rw [hf]
        refine HandSPX.setFlight_upZ fl3 fun h4 hh4 up4 => wpAny_throw (tk _ _ ?_)
        exact ⟨a, B, sI, pins, σ', H', cls, d, rfl, J, nb, (up.trans up3).trans up4, .inr (.inr (by rw [hs]; exact hh4)), na, os, ag, hno rfl⟩
      first
        | exact wpAny_bind (wpAny_pure (wpAny_bind fin))
        | exact wpAny_bind fin
  · cases f with
    | next =>
      obtain ⟨σ', H', J', q⟩ := hsp
      exact wpAny_execs_nil ⟨σ', H', J'.ofTry ok, q⟩
    | brk =>
      obtain ⟨σ', H', J', q⟩ := hsp
      exact ⟨σ', H', J'.ofTry ok, q⟩
    | cont =>
      obtain ⟨σ', H', J', q⟩ := hsp
      exact ⟨σ', H', J'.ofTry ok, q⟩
    | ret u =>
      obtain ⟨v, σ', H', J', r, q⟩ := hsp
      exact ⟨v, σ', H', J'.ofTry ok, r, q⟩
end
/-! ### a kept error: isinstance, its fields -/
def Ek (H : Hp) (a C : Addr) (fs : List (Str × V)) : Prop := ∃ d, H a = some (cxo a (.ref C) (some d)) ∧ H d = some (.xd fs)
theorem Ek.go {H H' : Hp} {a C : Addr} {fs : List (Str × V)} (s : Same H H') (e : Ek H a C fs) : Ek H' a C fs := by
  obtain ⟨d, e1, e2⟩ := e
  exact ⟨d, s _ _ e1, s _ _ e2⟩
section
variable {X : Cx} {pins : List (Addr × Obj)} {σ : L2.St} {H : Hp} {s : Shared} {a C : Addr} {fs : List (Str × V)}
theorem Ek.inst {P : Program} {w : World} {h : Heap} (e : Ek H a C fs) (hok : HOk P w H h) : ∃ (oe od : Obj) (mA : Str → Option Value), PySem.W.InstAt h a oe C (some od) ∧ (∀ y, PySem.W.lookIn y od = some (mA y)) ∧ ∀ f, RelO (fs.lookup f) (mA f) := by
  obtain ⟨d, ea, ed⟩ := e
  obtain ⟨oe, vs, ho, h1, h2, h3⟩ := cxo_at hok ea
  have hx : ObjOk P w H h d (.xd fs) := hok d _ ed
  obtain ⟨mA, hns, hr⟩ := hx
  obtain ⟨od, hod, hl⟩ := lookIn_ns hns
  exact ⟨oe, od, mA, ⟨ho, h1, by unfold PySem.W.notCls; rw [h3] <;> rfl, by rw [h2]; exact hod⟩, hl, hr⟩
def rIsK (K : PySem.W.Frag) : List V → Hp → VK → Prop := fun xs H Q => ∃ (a C : Addr) (fs : List (Str × V)) (c : V) (u : Value) (b : Bool), xs = [.ref a, c] ∧ ClsV c u ∧ Erc K C ∧ Ek H a C fs ∧ PySem.W.kitOne K (.ref C) u = some b ∧ Q (.bl b) H
theorem call_isK : CallR X (.builtin "isinstance") (rIsK X.K) := by
  intro pins s σ H xs us Q I r h
  obtain ⟨a, C, fs, c, u, b, rfl, k, T, e, z, q⟩ := h
  obtain ⟨u1, u2, rfl, r1, r2⟩ := vals2 r
  have e2 := k.eq r2
  subst e2
  obtain rfl : u1 = Value.ref a := r1
  obtain ⟨oe, od, mA, J, _⟩ := e.inst I.hok
  exact PySem.W.kia_one (kitx_excO T.c.hg T.c.hk T.c.hs T.c.hd T.c.ha T.c.hn T.c.ht T.c.hm) I.kIn J z (fun z => nomatch z) fun tk => ⟨.bl b, H, I.tok tk, rfl, q⟩
def tKat (K : PySem.W.Frag) (f : Str) (te : TE) : TE := fun σ H Q => te σ H fun x H1 => ∃ (a C : Addr) (fs : List (Str × V)) (v : V), x = .ref a ∧ Erc K C ∧ PySem.W.findIn K (.ref C) f = some none ∧ Ek H1 a C fs ∧ fs.lookup f = some v ∧ Q v H1
theorem pe_kat {e : Expr} {f : Str} {te : TE} {pos : Pos} (he : PE X e te) (hb : attributeBase e f X.env (eval e X.env) = eval e X.env := by rfl) : PE X (.Attribute e f pos) (tKat X.K f te) := by
  refine ⟨fun pins s σ H Q I h => ?_⟩
  refine attr_of hb (thn (he.run pins s σ H _ I h) fun u s1 hh => ?_)
  obtain ⟨x, H1, I1, rx, a, C, fs, v, ex, T, hno, e1, l, q⟩ := hh
  subst ex
  obtain rfl : u = Value.ref a := rx
  obtain ⟨oe, od, mA, J, hl, hr⟩ := e1.inst I1.hok
  obtain ⟨u, hu, ru⟩ := RelO.some_of (v := v) (o := mA f) (by rw [← l]; exact hr f)
  exact HandSPX.exc_get I1.kIn J T.c.hg T.c.hk T.c.hs (PySem.W.findObj_own T.c.hd hno rfl (by rw [hl, hu])) (handed_of ru) ⟨v, H1, I1.tok _, ru, q⟩
end
end Mf
namespace Mf
open PySem PySem.Spec PyProof.Rows L2
section
variable {K : PySem.W.Frag} {σ : L2.St} {H H1 : Hp} {Q : VK} {vs : List Nat} {q p : Addr}
theorem lc_asL {i1 j : Nat} {t : Int} {ws : List V} {rs : List Rat} (hq : Qy K q t H) (ht : t ≤ 900000) (np : p ≠ q) (ep : H p = some (.lst ws)) (tl : TL H ws rs) (b : RbL 100 rs) (l : rs.length ≤ 200)
    (hw : ∀ x, wipe ((wipe σ vs).set j (some x)) vs = wipe σ vs) (h1 : ∀ x, ((wipe σ vs).set j (some x))[i1]? = some (some (.ref q))) (h2 : ∀ x, ((wipe σ vs).set j (some x))[j]? = some (some x))
    (k : ∀ D H' t' xs ds, SameX q H H' → Qy K q t' H' → t ≤ t' → t' ≤ t + 2 * (rs.length : Int) → H D = none → D ≠ q → H' D = some (.lst xs) → DqAll q K H' xs ds → (∀ d ∈ ds, isFrD d = true ∧ Bt 140 (upD d) ∧ Bt 140 (dnD d)) → ds.map valQ = rs → Q (.ref D) H') :
    LcGo (Itl K p) (gName j) tYes (tCl (sp_las K) (tCons (tVar i1) (tCons (tVar j) tNil))) vs σ H Q := by
  have lw := tl.len
  refine lcgo_listF (xs := ws) (fun D i H' => ∃ t' xs fs, Qy K q t' H' ∧ t ≤ t' ∧ t' ≤ t + 2 * (i : Int) ∧ Qn q D H' ∧ SameX q H H' ∧ H' D = some (.lst xs) ∧ xs.length = i ∧ FzAll (fun b => b = q ∨ b = D) H' xs fs ∧ fs.map Fq.q = rs.take i) hw
    (fun D hD => ⟨t, [], [], hq.upd (Qn.new hq hD) (hq.ne hD), by omega, by omega, Qn.upd hq (Qn.new hq hD) (hq.ne hD), Same.x (same_new hD), upd_same, rfl, .nil, rfl⟩)
    (fun D i H' _ h => ?_) (fun D i x H' hD ex h => ?_) (fun D H' hD h => ?_)
  · obtain ⟨t', xs, fs, hq', _, _, _, sx, _⟩ := h
    exact seqU (sx _ _ np ep)
  · obtain ⟨t', xs, fs, hq', lt', ut', hn', sx, eD, lv, hall, ev⟩ := h
    have hi := (List.getElem?_eq_some_iff.mp ex).1
    have kx := sx.kt hq
    obtain ⟨pi, rfl, ei, gi⟩ := (tl.go kx).get ex
    have nD : D ≠ q := hq.ne hD
    refine g_yes ?_
    refine g_iteT ?_
    refine g_cl (g_cons (g_var (h1 _) (g_cons (g_var (h2 _) (g_nil ?_)))))
    refine ⟨q, pi, t', co rs i, rfl, hq', by omega, ei, b.co (by decide) i, fun t6 H6 v x y sx6 hq6 l6 u6 hz hy er bx by_ => ?_⟩
    have hn6 := hn'.go hq' sx6
    have eD6 := sx6 _ _ nD eD
    refine ⟨xs, eD6, small1000 (by omega), t6, xs ++ [v], fs ++ [⟨x, y, hy, bx, by_⟩], hq6.upd hn6 nD, by omega, by omega, Qn.upd hq6 hn6 nD, ?_, upd_same, by rw [List.length_append, lv]; rfl,
      FzAll.app (f := ⟨x, y, hy, bx, by_⟩) (hz.go fun b o nb eb => ?_) (hall.go fun b o nb eb => ⟨?_, nb⟩), ?_⟩
    · refine ⟨fun b o nb e => ?_, fun c w z e => ?_⟩
      · rw [upd_ne (ne_of_none e hD)]
        exact (sx.trans sx6).kept b o nb e
      · obtain ⟨w', z', e'⟩ := (sx.trans sx6).cell c w z e
        exact ⟨w', z', by rw [upd_ne nD.symm]; exact e'⟩
    · have nbq : b ≠ q := fun z => nb (by obtain ⟨c, ns, r, e1, _⟩ := hq'; rw [z]; exact ⟨_, e1⟩)
      have nbD : b ≠ D := fun z => nb (by rw [z]; exact ⟨_, eD⟩)
      refine ⟨by rw [upd_ne nbD]; exact eb, fun z => ?_⟩
      rcases z with z | z
      · exact nbq z
      · exact nbD z
    · rw [upd_ne (fun z => nb (.inr z))]
      exact sx6 _ _ (fun z => nb (.inl z)) eb
    · rw [List.map_append, ev, take_snoc gi]
      show rs.take i ++ [Fq.q ⟨x, y, hy, bx, by_⟩] = _
      unfold Fq.q
      rw [er]
  · obtain ⟨t', xs, fs, hq', lt', ut', hn', sx, eD, lv, hall, ev⟩ := h
    obtain ⟨ds, hds, hok, eds⟩ := hall.dq (K := K) (q := q) (.inl rfl)
    rw [lw, List.take_length] at ev
    exact k D H' t' xs ds sx hq' lt' (by rw [← lw]; exact ut') hD (hq.ne hD) eD hds hok (eds.trans ev)
end
theorem shn_fr {d : PyData} {n : Nat} (h : isFrD d = true) (b1 : Bt n (upD d)) (b2 : Bt n (dnD d)) (hn : 1 ≤ n) (l : n ≤ 1900) : ShN (n + 1) (2 * n + 3) 2 d := by
  rcases fr_shape h with ⟨i, rfl⟩ | ⟨x, y, hy, rfl | rfl⟩
  · exact (shn_int b1 hn l).mono (by omega) (by decide)
  · exact (sha_lst (sha_cons (shn_int b1 hn l) (sha_cons (shn_int b2 hn l) (sha_nil (W := 0))))).mono (by omega) (Nat.le_refl _)
  · exact (sha_tup (sha_cons (shn_int b1 hn l) (sha_cons (shn_int b2 hn l) (sha_nil (W := 0))))).mono (by omega) (Nat.le_refl _)
theorem sha_frs {n : Nat} (hn : 1 ≤ n) (l : n ≤ 1900) : ∀ {ds : List PyData}, (∀ d ∈ ds, isFrD d = true ∧ Bt n (upD d) ∧ Bt n (dnD d)) → ShA (n + 1) (ds.length * (2 * n + 4)) 2 ds
  | [], _ => sha_nil
  | d :: ds, h => by
    have t := sha_frs hn l (ds := ds) fun x hx => h x (List.mem_cons_of_mem _ hx)
    obtain ⟨h1, h2, h3⟩ := h d List.mem_cons_self
    have z := sha_cons (shn_fr h1 h2 h3 hn l) t
    refine ⟨z.sh, z.lv, z.nd, z.ly, ?_, z.dp⟩
    have w := z.wt
    rw [List.length_cons, Nat.succ_mul]
    omega
theorem frs_dp {q : Addr} {K : PySem.W.Frag} {H : Hp} : ∀ {vs : List V} {ds : List PyData}, DqAll q K H vs ds → (∀ d ∈ ds, isFrD d = true) → DpAll K H vs ds
  | _, _, .nil, _ => .nil
  | _, _, .cons (d := d) h t, f => by
    have fd := f d List.mem_cons_self
    have nd : noDct d = true := by
      rcases fr_shape fd with ⟨i, rfl⟩ | ⟨x, y, hy, rfl | rfl⟩ <;> rfl
    exact .cons (h.dp nd) (frs_dp t fun x hx => f x (List.mem_cons_of_mem _ hx))
/-- a list and a tuple of fractions, shown -/
theorem sha_lt {n L1 L2 : Nat} (hn : 1 ≤ n) (l : n ≤ 1900) {ds es : List PyData} (hd : ∀ d ∈ ds, isFrD d = true ∧ Bt n (upD d) ∧ Bt n (dnD d)) (he : ∀ d ∈ es, isFrD d = true ∧ Bt n (upD d) ∧ Bt n (dnD d)) (l1 : ds.length ≤ L1) (l2 : es.length ≤ L2) :
    ShN (n + 1) (L1 * (2 * n + 4) + 1 + 1 + (L2 * (2 * n + 4) + 1 + 1 + 0) + 1) 4 (.list [.list ds, .tuple es]) := by
  have a := (sha_lst (sha_frs hn l hd)).mono (W' := L1 * (2 * n + 4) + 1) (Nat.add_le_add_right (Nat.mul_le_mul_right _ l1) 1) (Nat.le_refl _)
  have b := (sha_tup (sha_frs hn l he)).mono (W' := L2 * (2 * n + 4) + 1) (Nat.add_le_add_right (Nat.mul_le_mul_right _ l2) 1) (Nat.le_refl _)
  exact sha_lst (sha_cons a (sha_cons b (sha_nil (W := 0))))
theorem dq_frt {q p : Addr} {K : PySem.W.Frag} {H : Hp} {xs : List V} {ds : List PyData} (hp : SqT K H p xs) (h : DqAll q K H xs ds) (f : ∀ d ∈ ds, isFrD d = true) : Dp K H (.ref p) (.tuple ds) := .tup hp (frs_dp h f)
theorem dq_frl {q p : Addr} {K : PySem.W.Frag} {H : Hp} {xs : List V} {ds : List PyData} (hp : SqL K H p xs) (h : DqAll q K H xs ds) (f : ∀ d ∈ ds, isFrD d = true) : Dp K H (.ref p) (.list ds) := .lst hp (frs_dp h f)
theorem rv_dp {p : Addr} {K : PySem.W.Frag} {H : Hp} {r : Rat} (e : H p = some (.tup (rv r))) : Dp K H (.ref p) (rd r) := .tup (tupU e) (.cons (.int _) (.cons (.int _) .nil))
def sp_long (K : PySem.W.Frag) : Sp := fun vs H Q _ => ∃ (q : Addr) (t : Int), vs = [.ref q] ∧ Qy K q t H ∧ t ≤ 900000 ∧ ∀ H', Q (.bl true) H'
end Mf
/-! a def that raises, as a contract -/
namespace Mf
open PySem PySem.Spec PySem.Calls PyProof.Rows L2
structure ClX (c : Cn) (k : Nat) (x : Str) (st : Stmt) (ps : List Str) (sp : Sp) : Prop where
  ex : ∃ (f : Addr) (fd : FuncData), FnG c.P c.w c.K c.mg c.base (L2.CX c.P c.w) k f fd ps sp ∧ c.mg x = some (.ref f) ∧ Fun c.K x x st f fd
theorem De.clX {c : Cn} {x : Str} {st : Stmt} {N ps : List Str} {k : Nat} {sp : Sp} (D : De c x st) (S : FnScope N ps (defScope st))
    (len : ∀ vs H Q E, sp vs H Q E → vs.length = ps.length)
    (hbody : ∀ (f : Addr) (cdv : Value) (A : Around) (outer : List Env) (s : Shared) (H : Hp) (vs : List V) (Q : VK) (E : XK),
      (A.deeper (envOfC x (defScope st) s.heap.objs.size f cdv)).guards = some [] →
      Room k (A.deeper (envOfC x (defScope st) s.heap.objs.size f cdv)) → sp vs H Q E →
      ∃ t, PSs (cxOf (L2.CX c.P c.w) c.P c.w c.K c.mg c.base N x (defScope st) f cdv A outer s H E) (defBody st) t ∧
        t { nx := fun _ H' => Q .non H', rt := Q } (start N vs) H) : ClX c (k + 1) x st ps sp := by
  obtain ⟨f, fd, hm, F⟩ := D.ex
  exact ⟨f, fd, okGX F S len (hbody f), hm, F⟩
section
variable {X : Cx} {k j : Nat} {ps : List Str} {sp : Sp} {x : Str} {p pos : Pos} {e : Expr} {es : List Expr} {t : TA} {st : Stmt} {E : L2.St → XK}
def tClX (sp : Sp) (E : L2.St → XK) (t : TA) : TE := fun σ H Q => t σ H fun vs H1 => sp vs H1 Q (E σ)
theorem pe_fX (c : ClX (cnOf X) k x st ps sp) (hA : X.A.guards = some []) (hr : Room j X.A) (hk : k ≤ j) (hp : Pl x st ps) (hg : Gl X x) (hx : ∀ σ, PassesAt (L2.CX X.prog X.w) X σ (E σ)) (ha : PA X (e :: es) t)
    (hdb : (x == ("__debug__" : Str)) = false := by decide) (he : starEach (e :: es) X.env = (false, eval e X.env) :: starEach es X.env := by rfl)
    (hpl : (backTo pos (starEach es X.env)).any (·.1) = false := by rfl) : PE X (.Call (.Name x p) (e :: es) [] pos) (tClX sp E t) := by
  obtain ⟨f, fd, F, hm, W⟩ := c.ex
  exact pe_callGS F hA (hr.mono hk) hg hm W.kp (W.binds hp) hx ha hdb he hpl
end
/-- a product of too many numbers -/
def sp_ptimesX (C : Addr) (K : PySem.W.Frag) : Sp := fun vs H Q E => ∃ q a b xs ys ds es n A B, vs = [.ref a, .ref b] ∧ a ≠ q ∧ b ≠ q ∧ Sq K H a xs ∧ Sq K H b ys ∧ DqAll q K H xs ds ∧ DqAll q K H ys es ∧
  (∀ d ∈ ds, isFrD d = true ∧ Bt n (upD d) ∧ Bt n (dnD d)) ∧ (∀ d ∈ es, isFrD d = true ∧ Bt n (upD d) ∧ Bt n (dnD d)) ∧ n ≤ 7000 ∧ ds.length ≤ 80 ∧ es.length ≤ 80 ∧ RbL A (trimR (ds.map valQ)) ∧ RbL B (trimR (es.map valQ)) ∧ 1 ≤ A ∧ 1 ≤ B ∧ (trimR (ds.map valQ)).length * A + A ≤ 3000 ∧ (trimR (es.map valQ)).length * B + B ≤ 3000 ∧ trimR (ds.map valQ) ≠ [] ∧ trimR (es.map valQ) ≠ [] ∧
  82 ≤ (trimR (ds.map valQ)).length + (trimR (es.map valQ)).length ∧ ∀ d H', H d = none → Same H H' → H' d = some (.xd [("most", .int 80), ("what", .str "numbers")]) → E (.ref C) (some d) H'
end Mf
namespace Mf
open PySem PySem.Spec PyProof.Rows L2
/-- whole numbers from 1 to 9 -/
def Nz (f : List Rat) : Prop := ∀ r ∈ f, ∃ z : Int, 1 ≤ z ∧ z ≤ 9 ∧ r = Rat.divInt z 1
theorem Nz.app {f g : List Rat} (hf : Nz f) (hg : Nz g) : Nz (f ++ g) := fun r hr => by
  rcases List.mem_append.mp hr with h | h
  · exact hf r h
  · exact hg r h
theorem Nz.take {f : List Rat} (h : Nz f) (n : Nat) : Nz (f.take n) := fun r hr => h r (List.mem_of_mem_take hr)
theorem Nz.snoc {f : List Rat} {z : Int} (h : Nz f) (z1 : 1 ≤ z) (z2 : z ≤ 9) : Nz (f ++ [Rat.divInt z 1]) := h.app fun r hr => ⟨z, z1, z2, List.mem_singleton.mp hr⟩
theorem bt4 {z : Int} (z1 : 0 ≤ z) (z2 : z ≤ 9) : Bt 4 z := by
  show z.natAbs < 2 ^ 4
  omega
theorem Nz.rb {f : List Rat} (h : Nz f) : RbL 4 f := fun r hr => by
  obtain ⟨z, z1, z2, rfl⟩ := h r hr
  exact Rb.of (by decide) (bt4 (by omega) z2) (bt4 (by decide) (by decide))
theorem Nz.at {f : List Rat} (h : Nz f) {i : Nat} (hi : i < f.length) : ∃ z : Int, 1 ≤ z ∧ z ≤ 9 ∧ co f i = Rat.divInt z 1 := by
  rw [co_get hi]
  exact h _ (List.getElem_mem hi)
theorem Nz.tr {f : List Rat} (h : Nz f) : Tr f := fun hne => by
  have l : 0 < f.length := List.length_pos_iff.mpr hne
  obtain ⟨z, z1, z2, e⟩ := h.at (i := f.length - 1) (by omega)
  rw [e]
  intro e0
  have e1 : Rat.divInt z 1 = Rat.divInt 0 1 := by rw [e0, Rat.zero_divInt]
  have := (Rat.divInt_eq_divInt_iff (by decide) (by decide)).mp e1
  omega
theorem Nz.sc {f : List Rat} (h : Nz f) (i : Nat) : Sc 1 4 (co f i) := by
  by_cases hi : i < f.length
  · obtain ⟨z, z1, z2, e⟩ := h.at hi
    exact ⟨z, e, bt4 (by omega) z2⟩
  · rw [co_ge (by omega)]
    exact Sc.zero
theorem Nz.conv {f g : List Rat} (hf : Nz f) (hg : Nz g) (l : f.length ≤ 40) : RbL 50 (conv f g) := RbL.of_co fun i hi => by
  rw [co_conv, ← cs_co]
  exact (sc_pc (by decide) (by decide) hf.sc hg.sc f.length i).rb (w := 1) (by decide) (show ((1 : Int) * 1).natAbs < 2 ^ 1 by decide) (by omega) (by decide)
theorem zeros2 : trimR ([PyData.int 0, .int 0].map valQ) = [] := by
  have e : ([PyData.int 0, .int 0].map valQ) = [0, 0] := by
    show [valQ (.int 0), valQ (.int 0)] = _
    rw [show valQ (.int 0) = 0 from zero1]
  rw [e]
  exact (tr_trim [0, 0]).ext (b := []) (fun h => absurd rfl h) fun i => by
    rw [co_trim, co_nil]
    match i with
    | 0 => rfl
    | 1 => rfl
    | i + 2 => exact co_ge (by simp)
theorem conv_nil (f : List Rat) : trimR (Mf.conv f []) = [] := (tr_trim _).ext (b := []) (fun h => absurd rfl h) fun i => by
  rw [co_trim, co_nil, co_conv, show (co []) = fun _ => (0 : Rat) from funext fun j => co_nil, ← cs_co]
  have key : ∀ m, cs (co f) (fun _ => (0 : Rat)) m i = 0 := by
    intro m
    induction m with
    | zero => rfl
    | succ m ih =>
      rw [cs_succ, ih]
      split <;> grind
  exact key _
theorem rv_half : rv (Rat.divInt (-1) 2) = [.int (-1), .int 2] := by decide +kernel
theorem rb_half : Rb 2 (Rat.divInt (-1) 2) := Rb.of (by decide) (show (-1 : Int).natAbs < 2 ^ 2 by decide) (show (2 : Int).natAbs < 2 ^ 2 by decide)
theorem Nz.val {f : List Rat} (h : Nz f) (l : f.length ≤ 80) (i : Nat) (hi : i ≤ f.length) : Rb 561 (evs (co f) (Rat.divInt (-1) 2) i) := by
  have b := Rb.hor (fun j => h.rb.co (by decide) j) rb_half i 0
  rw [hor_snoc, evs_congr (d := co f) (fun j => by rw [Nat.zero_add])] at b
  refine b.mono ?_
  omega
theorem slope_full (l : List Rat) : (fullS l).drop 1 = slope l := ext_co (by rw [List.length_drop, len_full, len_slope]) fun j => drop_full l j
theorem div_int (z : Int) : Rat.divInt z 1 = (z : Rat) := by
  have e := Rat.num_divInt_den (z : Rat)
  rw [show ((z : Rat)).num = z from rfl, show (((z : Rat)).den : Int) = 1 from rfl] at e
  exact e
theorem rv_int (z : Int) : rv (Rat.divInt z 1) = [.int z, .int 1] := by
  rw [show Rat.divInt z 1 = (z : Rat) from div_int z]
  rfl
theorem rv_mul (n : Nat) (z : Int) : rv ((n : Rat) * Rat.divInt z 1) = [.int ((n : Int) * z), .int 1] := by
  rw [← div_nat, Rat.divInt_mul_divInt, Int.one_mul]
  exact rv_int _
theorem rbl_full {l : List Rat} (h : Nz l) (hl : l.length ≤ 80) : RbL 14 (slope l) := (rbl_slope h.rb (by decide) (by omega)).mono (by decide)
/-- the kept error's fields -/
theorem g_eqNM {K : PySem.W.Frag} {H : Hp} {Q : VK} {p r : Addr} (hp : H p = some (.tup [.str "numbers", .int 80])) (hr : H r = some (.tup [.str "numbers", .int 80])) (q : Q (.bl true) H) : rEqU K (.ref p) (.ref r) H Q :=
  .inr ⟨.tuple [.str "numbers", .int 80], .tuple [.str "numbers", .int 80], .tup (tupU hp) (.cons (.str _) (.cons (.int _) .nil)), .tup (tupU hr) (.cons (.str _) (.cons (.int _) .nil)), by decide +kernel, by decide +kernel, by
    rw [show PyData.eqv (.tuple [.str "numbers", .int 80]) (.tuple [.str "numbers", .int 80]) = true by decide +kernel]
    exact q⟩
end Mf
/-! polynomials through points -/
namespace Mf
/-- what stands before (x - a) and behind -/
def syn (c : Nat → Rat) (a : Rat) (n : Nat) (i : Nat) : Rat := hor c a i (n - i)
theorem syn_step (c : Nat → Rat) (a : Rat) {n i : Nat} (h : i < n) : syn c a n i = syn c a n (i + 1) * a + c i := by
  unfold syn
  obtain ⟨m, hm⟩ : ∃ m, n - i = m + 1 := ⟨n - i - 1, by omega⟩
  rw [hm, show n - (i + 1) = m by omega]
  rfl
theorem syn_end (c : Nat → Rat) (a : Rat) (n : Nat) : syn c a n n = 0 := by
  unfold syn
  rw [Nat.sub_self]
  rfl
theorem syn_zero (c : Nat → Rat) (a : Rat) (n : Nat) : syn c a n 0 = evs c a n := by
  unfold syn
  rw [Nat.sub_zero, hor_snoc]
  exact evs_congr (fun i => by rw [Nat.zero_add]) a n
theorem syn_part (c : Nat → Rat) (a x : Rat) (n : Nat) : ∀ m, m ≤ n → evs c x m = syn c a n 0 - syn c a n m * x ^ m + (x - a) * evs (fun i => syn c a n (i + 1)) x m
  | 0, _ => by
    show (0 : Rat) = syn c a n 0 - syn c a n 0 * x ^ 0 + (x - a) * 0
    rw [Rat.pow_zero]
    grind
  | m + 1, h => by
    show evs c x m + c m * x ^ m = syn c a n 0 - syn c a n (m + 1) * x ^ (m + 1) + (x - a) * (evs (fun i => syn c a n (i + 1)) x m + syn c a n (m + 1) * x ^ m)
    rw [syn_part c a x n m (by omega), Rat.pow_succ]
    have := syn_step c a (n := n) (i := m) (by omega)
    grind
theorem no_zeros : ∀ (xs : List Rat) (c : Nat → Rat), xs.Nodup → (∀ x ∈ xs, evs c x xs.length = 0) → ∀ i, i < xs.length → c i = 0
  | [], _, _, _, i, hi => absurd hi (Nat.not_lt_zero i)
  | a :: as, c, nd, h, i, hi => by
    rw [List.nodup_cons] at nd
    have h0 : syn c a (as.length + 1) 0 = 0 := by
      rw [syn_zero]
      exact h a List.mem_cons_self
    have ih := no_zeros as (fun i => syn c a (as.length + 1) (i + 1)) nd.2 fun x hx => by
      have e := syn_part c a x (as.length + 1) (as.length + 1) (Nat.le_refl _)
      have hx0 : evs c x (as.length + 1) = 0 := h x (List.mem_cons_of_mem _ hx)
      rw [hx0, h0, syn_end] at e
      have e2 : evs (fun i => syn c a (as.length + 1) (i + 1)) x (as.length + 1) = evs (fun i => syn c a (as.length + 1) (i + 1)) x as.length + syn c a (as.length + 1) (as.length + 1) * x ^ as.length := rfl
      rw [e2, syn_end] at e
      have ne : x - a ≠ 0 := fun z => nd.1 (by
        have : x = a := by grind
        rw [← this]
        exact hx)
      have e3 : (x - a) * evs (fun i => syn c a (as.length + 1) (i + 1)) x as.length = 0 := by grind
      exact (Rat.mul_eq_zero.mp e3).resolve_left ne
    have all : ∀ j, j ≤ as.length + 1 → syn c a (as.length + 1) j = 0 := fun j hj => by
      cases j with
      | zero => exact h0
      | succ j =>
        by_cases z : j < as.length
        · exact ih j z
        · rw [show j + 1 = as.length + 1 by omega]
          exact syn_end _ _ _
    have s := syn_step c a (n := as.length + 1) (i := i) hi
    have hi : i < as.length + 1 := hi
    rw [all i (by omega), all (i + 1) (by omega)] at s
    grind
/-- just one polynomial through points -/
theorem val_uniq {f g xs : List Rat} (hf : Tr f) (hg : Tr g) (nd : xs.Nodup) (lf : f.length ≤ xs.length) (lg : g.length ≤ xs.length) (h : ∀ x ∈ xs, val f x = val g x) : f = g := by
  refine hf.ext hg fun i => ?_
  by_cases hi : i < xs.length
  · have z := no_zeros xs (fun i => co f i - co g i) nd (fun x hx => ?_) i hi
    · have z : co f i - co g i = 0 := z
      grind
    · have key : ∀ n, evs (fun i => co f i - co g i) x n = evs (co f) x n - evs (co g) x n := by
        intro n
        induction n with
        | zero => show (0 : Rat) = 0 - 0; grind
        | succ n ih =>
          show evs _ x n + (co f n - co g n) * x ^ n = (evs (co f) x n + co f n * x ^ n) - (evs (co g) x n + co g n * x ^ n)
          rw [ih]
          grind
      rw [key, val_ge lf, val_ge lg, h x hx]
      grind
  · rw [co_ge (by omega), co_ge (by omega)]
/-! ### integers: times a factor, and without one -/
def ic (P : List Int) (i : Nat) : Int := P.getD i 0
theorem ic_ge {P : List Int} {i : Nat} (h : P.length ≤ i) : ic P i = 0 := by
  unfold ic
  rw [List.getD_eq_getElem?_getD, List.getElem?_eq_none h]
  rfl
theorem ic_some {P : List Int} {i : Nat} {z : Int} (h : P[i]? = some z) : ic P i = z := by
  unfold ic
  rw [List.getD_eq_getElem?_getD, h]
  rfl
theorem ic_get {P : List Int} {i : Nat} (h : i < P.length) : P[i]? = some (ic P i) := by
  rw [List.getElem?_eq_getElem h, ic_some (List.getElem?_eq_getElem h)]
theorem ic_ext {a b : List Int} (hl : a.length = b.length) (h : ∀ i, ic a i = ic b i) : a = b := by
  refine List.ext_getElem? fun i => ?_
  by_cases z : i < a.length
  · rw [ic_get z, ic_get (by omega), h]
  · rw [List.getElem?_eq_none (by omega), List.getElem?_eq_none (by omega)]
/-- down x - up times P -/
def tf (a : Int × Int) (P : List Int) : List Int := (List.range (P.length + 1)).map fun i => a.2 * (if i = 0 then 0 else ic P (i - 1)) - a.1 * ic P i
theorem len_tf (a : Int × Int) (P : List Int) : (tf a P).length = P.length + 1 := by simp [tf]
theorem ic_tf (a : Int × Int) (P : List Int) (i : Nat) : ic (tf a P) i = a.2 * (if i = 0 then 0 else ic P (i - 1)) - a.1 * ic P i := by
  by_cases h : i < P.length + 1
  · refine ic_some ?_
    unfold tf
    rw [List.getElem?_map, List.getElem?_range h]
    rfl
  · rw [ic_ge (by rw [len_tf]; omega), if_neg (by omega), ic_ge (P := P) (i := i) (by omega), ic_ge (P := P) (i := i - 1) (by omega), Int.mul_zero, Int.mul_zero]
    rfl
theorem tf_comm (a b : Int × Int) (P : List Int) : tf a (tf b P) = tf b (tf a P) := by
  refine ic_ext (by rw [len_tf, len_tf, len_tf, len_tf]) fun i => ?_
  rw [ic_tf, ic_tf, ic_tf, ic_tf, ic_tf, ic_tf]
  match i with
  | 0 => simp only [if_pos]; grind
  | 1 => simp; grind
  | i + 2 =>
    rw [if_neg (by omega), if_neg (by omega), if_neg (by omega), if_neg (by omega)]
    grind
def prodF (L : List (Int × Int)) : List Int := L.foldl (fun P a => tf a P) [1]
theorem fold_tf (a : Int × Int) : ∀ (L : List (Int × Int)) (P : List Int), L.foldl (fun P a => tf a P) (tf a P) = tf a (L.foldl (fun P a => tf a P) P)
  | [], _ => rfl
  | b :: L, P => by
    show L.foldl _ (tf b (tf a P)) = tf a (L.foldl _ (tf b P))
    rw [tf_comm, fold_tf a L]
/-- the product, one factor taken out -/
theorem prod_out (L1 L2 : List (Int × Int)) (a : Int × Int) : prodF (L1 ++ a :: L2) = tf a (prodF (L1 ++ L2)) := by
  unfold prodF
  rw [List.foldl_append, List.foldl_append]
  exact fold_tf a L2 _
theorem len_prod : ∀ (L : List (Int × Int)) (P : List Int), (L.foldl (fun P a => tf a P) P).length = P.length + L.length
  | [], _ => rfl
  | a :: L, P => by
    show (L.foldl _ (tf a P)).length = _
    rw [len_prod L, len_tf, List.length_cons]
    omega
def ival (P : List Int) (x : Rat) : Rat := evs (fun i => (ic P i : Rat)) x P.length
theorem ival_ge {P : List Int} {x : Rat} {n : Nat} (h : P.length ≤ n) : evs (fun i => (ic P i : Rat)) x n = ival P x := evs_stop (fun k hk => by rw [ic_ge hk] <;> rfl) n h
theorem ival_tf (a : Int × Int) (P : List Int) (x : Rat) : ival (tf a P) x = ((a.2 : Rat) * x - (a.1 : Rat)) * ival P x := by
  have key : ∀ n, evs (fun i => (ic (tf a P) i : Rat)) x (n + 1) = (a.2 : Rat) * x * evs (fun i => (ic P i : Rat)) x n - (a.1 : Rat) * evs (fun i => (ic P i : Rat)) x (n + 1) := by
    intro n
    induction n with
    | zero =>
      show (0 : Rat) + (ic (tf a P) 0 : Rat) * x ^ 0 = (a.2 : Rat) * x * 0 - (a.1 : Rat) * (0 + (ic P 0 : Rat) * x ^ 0)
      rw [ic_tf, if_pos rfl, Rat.intCast_sub, Rat.intCast_mul, Rat.intCast_mul]
      grind
    | succ n ih =>
      have e1 : evs (fun i => (ic (tf a P) i : Rat)) x (n + 1 + 1) = evs (fun i => (ic (tf a P) i : Rat)) x (n + 1) + (ic (tf a P) (n + 1) : Rat) * x ^ (n + 1) := rfl
      have e2 : evs (fun i => (ic P i : Rat)) x (n + 1 + 1) = evs (fun i => (ic P i : Rat)) x (n + 1) + (ic P (n + 1) : Rat) * x ^ (n + 1) := rfl
      have e3 : evs (fun i => (ic P i : Rat)) x (n + 1) = evs (fun i => (ic P i : Rat)) x n + (ic P n : Rat) * x ^ n := rfl
      rw [e1, ih, e2, ic_tf, if_neg (by omega), Nat.add_sub_cancel, Rat.intCast_sub, Rat.intCast_mul, Rat.intCast_mul, e3, Rat.pow_succ]
      grind
  unfold ival
  rw [len_tf, key, ival_ge (Nat.le_refl _), ival_ge (by omega)]
  grind
/-- what a division by the factor asks at its step -/
theorem tf_div (a : Int × Int) (R : List Int) (hd : a.2 ≠ 0) (i : Nat) : (ic (tf a R) (i + 1) + a.1 * ic R (i + 1)) / a.2 = ic R i := by
  rw [ic_tf, if_neg (by omega), Nat.add_sub_cancel, Int.sub_add_cancel, Int.mul_ediv_cancel_left _ hd]
end Mf
namespace Mf
open PySem PySem.Spec PySem.Calls PyProof.Rows L2
/-! ### polynomials with integers -/
def ics (a b : Nat → Int) : Nat → Nat → Int
  | 0, _ => 0
  | i + 1, n => ics a b i n + (if i ≤ n then a i * b (n - i) else 0)
theorem ics_succ (a b : Nat → Int) (i n : Nat) : ics a b (i + 1) n = ics a b i n + (if i ≤ n then a i * b (n - i) else 0) := rfl
def iconv (us vv : List Int) : List Int := if us = [] ∨ vv = [] then [] else (List.range (us.length + vv.length - 1)).map (ics (ic us) (ic vv) us.length)
theorem iconv_no {us vv : List Int} (h : us = [] ∨ vv = []) : iconv us vv = [] := if_pos h
theorem len_iconv {us vv : List Int} (h1 : us ≠ []) (h2 : vv ≠ []) : (iconv us vv).length = us.length + vv.length - 1 := by
  unfold iconv
  rw [if_neg (fun h => h.elim h1 h2), List.length_map, List.length_range]
theorem get_iconv {us vv : List Int} (h1 : us ≠ []) (h2 : vv ≠ []) {j : Nat} (hj : j < us.length + vv.length - 1) : (iconv us vv)[j]? = some (ics (ic us) (ic vv) us.length j) := by
  unfold iconv
  rw [if_neg (fun h => h.elim h1 h2), List.getElem?_map, List.getElem?_range hj]
  rfl
def RetI (zs : List Int) (H : Hp) (Q : VK) : Prop := ∀ p H', Same H H' → H p = none → H' p = some (.lst (zs.map V.int)) → Q (.ref p) H'
def sp_twhole (K : PySem.W.Frag) : Sp := fun vs H Q _ => ∃ a b us vv A B, vs = [.ref a, .ref b] ∧ SqL K H a (us.map V.int) ∧ SqL K H b (vv.map V.int) ∧ (∀ u ∈ us, Bt A u) ∧ (∀ v ∈ vv, Bt B v) ∧ A + B ≤ 20000 ∧ us.length ≤ 200 ∧ vv.length ≤ 200 ∧ RetI (iconv us vv) H Q
theorem ic_mem {us : List Int} {i : Nat} (h : i < us.length) : ic us i ∈ us := List.mem_of_getElem? (ic_get h)
/-- rational numbers over one down -/
theorem ics_q {a b : Nat → Int} {c d : Nat → Rat} {D E : Int} (hD : D ≠ 0) (hE : E ≠ 0) (h1 : ∀ i, Rat.divInt (a i) D = c i) (h2 : ∀ i, Rat.divInt (b i) E = d i) : ∀ n j, Rat.divInt (ics a b n j) (D * E) = cs c d n j
  | 0, j => by show Rat.divInt 0 (D * E) = 0; rw [Rat.zero_divInt]
  | n + 1, j => by
    have DE : D * E ≠ 0 := Int.mul_ne_zero hD hE
    rw [ics_succ, cs_succ, ← ics_q hD hE h1 h2 n j]
    by_cases z : n ≤ j
    · rw [if_pos z, if_pos z, ← h1, ← h2, Rat.divInt_mul_divInt, Rat.divInt_add_divInt _ _ DE DE, ← Int.add_mul, Rat.divInt_mul_right DE]
    · rw [if_neg z, if_neg z, Int.add_zero, Rat.add_zero]
theorem trim_conv0 {f g : List Rat} (h : f = [] ∨ g = []) : trimR (conv f g) = [] := by
  show _ = trimR []
  refine trim_eq fun i => ?_
  rw [co_conv, co_nil]
  have key : ∀ (a b : Nat → Rat), (∀ j, a j = 0) ∨ (∀ j, b j = 0) → ∀ m, cs a b m i = 0 := fun a b z m => by
    induction m with
    | zero => rfl
    | succ m ih =>
      rw [cs_succ, ih]
      split
      · rcases z with z | z
        · rw [z, Rat.zero_mul, Rat.add_zero]
        · rw [z, Rat.mul_zero, Rat.add_zero]
      · exact Rat.add_zero _
  rcases h with rfl | rfl
  · exact key _ _ (.inl fun j => co_nil) _
  · exact key _ _ (.inr fun j => co_nil) _
theorem iconv_conv {f g : List Rat} {us vv : List Int} {D E : Int} (hD : D ≠ 0) (hE : E ≠ 0) (lu : us.length = f.length) (lv : vv.length = g.length) (h1 : ∀ i, Rat.divInt (ic us i) D = co f i) (h2 : ∀ i, Rat.divInt (ic vv i) E = co g i) (tf : Tr f) (tg : Tr g) : (iconv us vv).map (fun z => Rat.divInt z (D * E)) = trimR (conv f g) := by
  by_cases nf : f = []
  · rw [iconv_no (.inl (List.length_eq_zero_iff.mp (by rw [lu, nf]; rfl))), trim_conv0 (.inl nf)]
    rfl
  by_cases ng : g = []
  · rw [iconv_no (.inr (List.length_eq_zero_iff.mp (by rw [lv, ng]; rfl))), trim_conv0 (.inr ng)]
    rfl
  have nu : us ≠ [] := fun z => nf (List.length_eq_zero_iff.mp (by rw [← lu, z]; rfl))
  have nv : vv ≠ [] := fun z => ng (List.length_eq_zero_iff.mp (by rw [← lv, z]; rfl))
  rw [(tr_conv tf tg nf ng).trim]
  refine List.ext_getElem? fun j => ?_
  by_cases z : j < us.length + vv.length - 1
  · rw [List.getElem?_map, get_iconv nu nv z]
    unfold conv
    rw [List.getElem?_map, List.getElem?_range (by omega)]
    show some (Rat.divInt (ics (ic us) (ic vv) us.length j) (D * E)) = some (pc (co f) (co g) j)
    rw [ics_q hD hE h1 h2, lu, cs_co]
  · rw [List.getElem?_eq_none (by rw [List.length_map, len_iconv nu nv]; omega), List.getElem?_eq_none (by rw [len_conv]; omega)]
theorem divs_co {f : List Rat} {us : List Int} {D : Int} {P : Int → Prop} (lu : us.length = f.length) (h : ∀ j, j < f.length → ∃ u, us[j]? = some u ∧ Rat.divInt u D = co f j ∧ P u) (i : Nat) : Rat.divInt (ic us i) D = co f i := by
  by_cases z : i < f.length
  · obtain ⟨u, h1, h2, _⟩ := h i z
    rw [ic_some h1, h2]
  · rw [ic_ge (by omega), co_ge (by omega), Rat.zero_divInt]
theorem divs_bt {f : List Rat} {us : List Int} {D : Int} {P : Int → Prop} (lu : us.length = f.length) (h : ∀ j, j < f.length → ∃ u, us[j]? = some u ∧ Rat.divInt u D = co f j ∧ P u) : ∀ u ∈ us, P u := fun u hu => by
  obtain ⟨j, hj⟩ := List.mem_iff_getElem?.mp hu
  obtain ⟨v, h1, _, h3⟩ := h j (by have := (List.getElem?_eq_some_iff.mp hj).1; omega)
  rw [hj] at h1
  obtain rfl := Option.some.inj h1
  exact h3
end Mf
namespace Mf
open PySem PySem.Spec PyProof.Rows L2
local macro_rules | `(tactic| walk_at "mf1") => `(tactic| first
  | ((with_reducible apply g_var); exact rfl)
  | with_reducible first
    | refine g_c ?_ | refine g_op ?_ | refine g_un ?_ | refine g_cb ?_ | refine g_cl ?_ | refine g_clk ?_ | refine g_nil ?_ | refine g_cons ?_
    | refine g_tB ?_ | refine g_test ?_ | refine g_bl ?_ | refine g_and ?_ | refine g_or ?_ | refine g_not ?_ | refine g_andV ?_ | refine g_orV ?_ | refine g_notV ?_
    | refine g_if ?_ | refine g_ifS ?_ | refine g_seq ?_ | refine g_next ?_ | refine g_ret ?_ | refine g_drop ?_ | refine g_asg ?_ | refine g_name ?_ | refine g_sub ?_
    | refine g_int ?_ | refine g_intB ?_ | refine g_abs ?_ | refine g_I0 ?_ | refine g_addI ?_ | refine g_U ?_ | refine g_isNn ?_ | refine g_isNi ?_ | refine g_notN ?_ | refine g_notT1 ?_ | refine g_notT2 ?_ | refine g_notT3 ?_ | refine g_notT4 ?_ | refine g_notTb ?_ | refine g_notTi ?_ | refine g_eqI ?_ | refine g_neI ?_ | refine g_neSs ?_ | refine g_neS ?_ | refine g_eqS ?_
    | refine g_iteT ?_ | refine g_iteF ?_ | refine g_iteNT ?_ | refine g_iteNF ?_ | refine g_lst ?_ | refine g_tup ?_ | refine g_seqP ?_ | refine g_sl ?_ | refine g_noPart ?_ | refine g_part ?_ | refine g_yes ?_ | refine g_thenT ?_ | refine g_consG ?_ | refine g_nilG ?_ | refine g_ii ?_ | refine g_par ?_ | refine g_par3 ?_ | refine g_vv ?_ | refine g_vvv ?_ | refine g_reprB ?_ | refine g_lcL ?_ | refine g_lcR ?_
  | ((with_reducible refine g_mod ?_ ?_); (first | omega | decide))
  | ((with_reducible refine g_div ?_ ?_ ?_); (first | omega | decide); (first | assumption | decide))
  | ((with_reducible refine g_mulL ?_ ?_ ?_); (first | omega | decide); (first | omega | decide))
  | ((with_reducible refine g_mulR ?_ ?_ ?_); (first | omega | decide); (first | omega | decide))
  | ((with_reducible refine g_pow ?_ ?_ ?_ ?_); decide; decide; (first | omega | decide))
  | dsimp only)
local macro_rules | `(tactic| walk_at "mf1s") => `(tactic| first
  | ((with_reducible apply g_var); exact rfl)
  | with_reducible first
    | refine g_c ?_ | refine g_op ?_ | refine g_un ?_ | refine g_cb ?_ | refine g_cl ?_ | refine g_clk ?_ | refine g_nil ?_ | refine g_cons ?_
    | refine g_tB ?_ | refine g_test ?_ | refine g_bl ?_ | refine g_and ?_ | refine g_or ?_ | refine g_not ?_ | refine g_andV ?_ | refine g_orV ?_ | refine g_notV ?_
    | refine g_if ?_ | refine g_ifS ?_ | refine g_next ?_ | refine g_ret ?_ | refine g_drop ?_ | refine g_asg ?_ | refine g_name ?_ | refine g_sub ?_
    | refine g_int ?_ | refine g_intB ?_ | refine g_abs ?_ | refine g_I0 ?_ | refine g_addI ?_ | refine g_U ?_ | refine g_isNn ?_ | refine g_isNi ?_ | refine g_notN ?_ | refine g_notT1 ?_ | refine g_notT2 ?_ | refine g_notT3 ?_ | refine g_notT4 ?_ | refine g_notTb ?_ | refine g_notTi ?_ | refine g_eqI ?_ | refine g_neI ?_ | refine g_neSs ?_ | refine g_neS ?_ | refine g_eqS ?_
    | refine g_iteT ?_ | refine g_iteF ?_ | refine g_iteNT ?_ | refine g_iteNF ?_ | refine g_lst ?_ | refine g_tup ?_ | refine g_seqP ?_ | refine g_sl ?_ | refine g_noPart ?_ | refine g_part ?_ | refine g_yes ?_ | refine g_thenT ?_ | refine g_consG ?_ | refine g_nilG ?_ | refine g_ii ?_ | refine g_par ?_ | refine g_par3 ?_ | refine g_vv ?_ | refine g_vvv ?_ | refine g_reprB ?_ | refine g_lcL ?_ | refine g_lcR ?_
  | ((with_reducible refine g_mod ?_ ?_); (first | omega | decide))
  | ((with_reducible refine g_div ?_ ?_ ?_); (first | omega | decide); (first | assumption | decide))
  | ((with_reducible refine g_mulL ?_ ?_ ?_); (first | omega | decide); (first | omega | decide))
  | ((with_reducible refine g_mulR ?_ ?_ ?_); (first | omega | decide); (first | omega | decide))
  | ((with_reducible refine g_pow ?_ ?_ ?_ ?_); decide; decide; (first | omega | decide))
  | dsimp only)
local macro_rules | `(tactic| walk_at "mfs") => `(tactic| repeat walk_at "mf1s")
local macro_rules | `(tactic| walk_at "mf") => `(tactic| repeat walk_at "mf1")
local macro_rules | `(tactic| walk_at "ed") => `(tactic| repeat (first
  | with_reducible first
    | exact eds_nil | apply eds_cons | exact ed_int | exact ed_bl | exact ed_non | apply ed_neg
  | ((with_reducible apply ed_str); decide)
  | ((with_reducible apply ed_var); (exact rfl); (first | assumption | exact Dq.int _))
  | ((with_reducible apply ed_dict0); assumption)
  | ((with_reducible apply ed_dict2); assumption)
  | ((with_reducible apply ed_tup); assumption)
  | ((with_reducible apply ed_lst); assumption)
  | (with_reducible apply ed_pow)
  | (with_reducible apply ed_mul)
  | assumption
  | (exact Dq.int _)
  | (exact ⟨by decide, by decide, by decide⟩)
  | (show List.length _ ≤ 1000; simp only [List.length_cons, List.length_nil]; decide)))
def topS (i : Nat) : Stmt := PySem.Challenge.pw_mapflow_k40_polynomials_added_and_multip.main.body.getD i (.Pass ⟨0, 0, 0, 0⟩)
abbrev s_is_integer : Stmt := topS 2
theorem sc_is_integer : FnScope ["value"] ["value"] (defScope s_is_integer) := ⟨rfl, rfl, rfl, by decide +kernel, rfl, by decide +kernel, by decide +kernel⟩
theorem pl_is_integer : Pl "is_integer" s_is_integer ["value"] := fun _ _ _ _ _ _ us hl => match us, hl with | [_], _ => rfl
abbrev s_is_within : Stmt := topS 3
theorem sc_is_within : FnScope ["value", "least", "most"] ["value", "least", "most"] (defScope s_is_within) := ⟨rfl, rfl, rfl, by decide +kernel, rfl, by decide +kernel, by decide +kernel⟩
theorem pl_is_within : Pl "is_within" s_is_within ["value", "least", "most"] := fun _ _ _ _ _ _ us hl => match us, hl with | [_, _, _], _ => rfl
abbrev s_is_list : Stmt := topS 4
theorem sc_is_list : FnScope ["value"] ["value"] (defScope s_is_list) := ⟨rfl, rfl, rfl, by decide +kernel, rfl, by decide +kernel, by decide +kernel⟩
theorem pl_is_list : Pl "is_list" s_is_list ["value"] := fun _ _ _ _ _ _ us hl => match us, hl with | [_], _ => rfl
abbrev s_is_fraction : Stmt := topS 5
theorem sc_is_fraction : FnScope ["value"] ["value"] (defScope s_is_fraction) := ⟨rfl, rfl, rfl, by decide +kernel, rfl, by decide +kernel, by decide +kernel⟩
theorem pl_is_fraction : Pl "is_fraction" s_is_fraction ["value"] := fun _ _ _ _ _ _ us hl => match us, hl with | [_], _ => rfl
abbrev s_reduced : Stmt := topS 12
theorem sc_reduced : FnScope ["up", "down", "common"] ["up", "down"] (defScope s_reduced) := ⟨rfl, rfl, rfl, by decide +kernel, rfl, by decide +kernel, by decide +kernel⟩
theorem pl_reduced : Pl "reduced" s_reduced ["up", "down"] := fun _ _ _ _ _ _ us hl => match us, hl with | [_, _], _ => rfl
abbrev s_read_fraction : Stmt := topS 13
theorem sc_read_fraction : FnScope ["value", "part", "up", "down"] ["value", "part"] (defScope s_read_fraction) := ⟨rfl, rfl, rfl, by decide +kernel, rfl, by decide +kernel, by decide +kernel⟩
theorem pl_read_fraction : Pl "read_fraction" s_read_fraction ["value", "part"] := fun _ _ _ _ _ _ us hl => match us, hl with | [_, _], _ => rfl
abbrev s_over_one_down : Stmt := topS 14
theorem sc_over_one_down : FnScope ["some", "down", "_", "below", "up"] ["some"] (defScope s_over_one_down) := ⟨rfl, rfl, rfl, by decide +kernel, rfl, by decide +kernel, by decide +kernel⟩
theorem pl_over_one_down : Pl "over_one_down" s_over_one_down ["some"] := fun _ _ _ _ _ _ us hl => match us, hl with | [_], _ => rfl
abbrev s_fraction_of : Stmt := topS 15
theorem sc_fraction_of : FnScope ["value"] ["value"] (defScope s_fraction_of) := ⟨rfl, rfl, rfl, by decide +kernel, rfl, by decide +kernel, by decide +kernel⟩
theorem pl_fraction_of : Pl "fraction_of" s_fraction_of ["value"] := fun _ _ _ _ _ _ us hl => match us, hl with | [_], _ => rfl
abbrev s_added : Stmt := topS 16
theorem sc_added : FnScope ["one", "other", "up", "down", "more", "below"] ["one", "other"] (defScope s_added) := ⟨rfl, rfl, rfl, by decide +kernel, rfl, by decide +kernel, by decide +kernel⟩
theorem pl_added : Pl "added" s_added ["one", "other"] := fun _ _ _ _ _ _ us hl => match us, hl with | [_, _], _ => rfl
abbrev s_multiplied : Stmt := topS 17
theorem sc_multiplied : FnScope ["one", "other", "up", "down", "times", "below"] ["one", "other"] (defScope s_multiplied) := ⟨rfl, rfl, rfl, by decide +kernel, rfl, by decide +kernel, by decide +kernel⟩
theorem pl_multiplied : Pl "multiplied" s_multiplied ["one", "other"] := fun _ _ _ _ _ _ us hl => match us, hl with | [_, _], _ => rfl
abbrev s_times_whole : Stmt := topS 19
theorem sc_times_whole : FnScope ["one", "other", "product", "k", "number", "i", "more", "_"] ["one", "other"] (defScope s_times_whole) := ⟨rfl, rfl, rfl, by decide +kernel, rfl, by decide +kernel, by decide +kernel⟩
theorem pl_times_whole : Pl "times_whole" s_times_whole ["one", "other"] := fun _ _ _ _ _ _ us hl => match us, hl with | [_, _], _ => rfl
abbrev s_trimmed : Stmt := topS 22
theorem sc_trimmed : FnScope ["numbers", "length"] ["numbers"] (defScope s_trimmed) := ⟨rfl, rfl, rfl, by decide +kernel, rfl, by decide +kernel, by decide +kernel⟩
theorem pl_trimmed : Pl "trimmed" s_trimmed ["numbers"] := fun _ _ _ _ _ _ us hl => match us, hl with | [_], _ => rfl
abbrev s_is_poly : Stmt := topS 23
theorem sc_is_poly : FnScope ["value", "number"] ["value"] (defScope s_is_poly) := ⟨rfl, rfl, rfl, by decide +kernel, rfl, by decide +kernel, by decide +kernel⟩
theorem pl_is_poly : Pl "is_poly" s_is_poly ["value"] := fun _ _ _ _ _ _ us hl => match us, hl with | [_], _ => rfl
abbrev s_read_poly : Stmt := topS 24
theorem sc_read_poly : FnScope ["value", "part", "number"] ["value", "part"] (defScope s_read_poly) := ⟨rfl, rfl, rfl, by decide +kernel, rfl, by decide +kernel, by decide +kernel⟩
theorem pl_read_poly : Pl "read_poly" s_read_poly ["value", "part"] := fun _ _ _ _ _ _ us hl => match us, hl with | [_, _], _ => rfl
abbrev s_poly_of : Stmt := topS 25
theorem sc_poly_of : FnScope ["value"] ["value"] (defScope s_poly_of) := ⟨rfl, rfl, rfl, by decide +kernel, rfl, by decide +kernel, by decide +kernel⟩
theorem pl_poly_of : Pl "poly_of" s_poly_of ["value"] := fun _ _ _ _ _ _ us hl => match us, hl with | [_], _ => rfl
abbrev s_value_at : Stmt := topS 26
theorem sc_value_at : FnScope ["poly", "at", "numbers", "total", "number"] ["poly", "at"] (defScope s_value_at) := ⟨rfl, rfl, rfl, by decide +kernel, rfl, by decide +kernel, by decide +kernel⟩
theorem pl_value_at : Pl "value_at" s_value_at ["poly", "at"] := fun _ _ _ _ _ _ us hl => match us, hl with | [_, _], _ => rfl
abbrev s_poly_sum : Stmt := topS 27
theorem sc_poly_sum : FnScope ["one", "other", "first", "second", "total", "k", "number"] ["one", "other"] (defScope s_poly_sum) := ⟨rfl, rfl, rfl, by decide +kernel, rfl, by decide +kernel, by decide +kernel⟩
theorem pl_poly_sum : Pl "poly_sum" s_poly_sum ["one", "other"] := fun _ _ _ _ _ _ us hl => match us, hl with | [_, _], _ => rfl
abbrev s_poly_times : Stmt := topS 28
theorem sc_poly_times : FnScope ["one", "other", "first", "down", "second", "below", "product", "up"] ["one", "other"] (defScope s_poly_times) := ⟨rfl, rfl, rfl, by decide +kernel, rfl, by decide +kernel, by decide +kernel⟩
theorem pl_poly_times : Pl "poly_times" s_poly_times ["one", "other"] := fun _ _ _ _ _ _ us hl => match us, hl with | [_, _], _ => rfl
abbrev s_slope_of : Stmt := topS 29
theorem sc_slope_of : FnScope ["poly", "numbers", "k", "number"] ["poly"] (defScope s_slope_of) := ⟨rfl, rfl, rfl, by decide +kernel, rfl, by decide +kernel, by decide +kernel⟩
theorem pl_slope_of : Pl "slope_of" s_slope_of ["poly"] := fun _ _ _ _ _ _ us hl => match us, hl with | [_], _ => rfl
abbrev s__law_abbot : Stmt := topS 31
theorem sc__law_abbot : FnScope ["script", "cell"] ["script"] (defScope s__law_abbot) := ⟨rfl, rfl, rfl, by decide +kernel, rfl, by decide +kernel, by decide +kernel⟩
theorem pl__law_abbot : Pl "_law_abbot" s__law_abbot ["script"] := fun _ _ _ _ _ _ us hl => match us, hl with | [_], _ => rfl
abbrev s__law_bead : Stmt := topS 32
theorem sc__law_bead : FnScope ["abbot", "many", "left", "turn", "cell", "mixed"] ["abbot", "many"] (defScope s__law_bead) := ⟨rfl, rfl, rfl, by decide +kernel, rfl, by decide +kernel, by decide +kernel⟩
theorem pl__law_bead : Pl "_law_bead" s__law_bead ["abbot", "many"] := fun _ _ _ _ _ _ us hl => match us, hl with | [_, _], _ => rfl
abbrev s__law_pick : Stmt := topS 33
theorem sc__law_pick : FnScope ["abbot", "some"] ["abbot", "some"] (defScope s__law_pick) := ⟨rfl, rfl, rfl, by decide +kernel, rfl, by decide +kernel, by decide +kernel⟩
theorem pl__law_pick : Pl "_law_pick" s__law_pick ["abbot", "some"] := fun _ _ _ _ _ _ us hl => match us, hl with | [_, _], _ => rfl
abbrev s__law_low : Stmt := topS 34
theorem sc__law_low : FnScope ["up", "down", "one", "other", "part"] ["up", "down"] (defScope s__law_low) := ⟨rfl, rfl, rfl, by decide +kernel, rfl, by decide +kernel, by decide +kernel⟩
theorem pl__law_low : Pl "_law_low" s__law_low ["up", "down"] := fun _ _ _ _ _ _ us hl => match us, hl with | [_, _], _ => rfl
abbrev s__law_plus : Stmt := topS 35
theorem sc__law_plus : FnScope ["one", "other"] ["one", "other"] (defScope s__law_plus) := ⟨rfl, rfl, rfl, by decide +kernel, rfl, by decide +kernel, by decide +kernel⟩
theorem pl__law_plus : Pl "_law_plus" s__law_plus ["one", "other"] := fun _ _ _ _ _ _ us hl => match us, hl with | [_, _], _ => rfl
abbrev s__law_times : Stmt := topS 36
theorem sc__law_times : FnScope ["one", "other"] ["one", "other"] (defScope s__law_times) := ⟨rfl, rfl, rfl, by decide +kernel, rfl, by decide +kernel, by decide +kernel⟩
theorem pl__law_times : Pl "_law_times" s__law_times ["one", "other"] := fun _ _ _ _ _ _ us hl => match us, hl with | [_, _], _ => rfl
abbrev s__law_fraction : Stmt := topS 37
theorem sc__law_fraction : FnScope ["abbot", "up", "down"] ["abbot"] (defScope s__law_fraction) := ⟨rfl, rfl, rfl, by decide +kernel, rfl, by decide +kernel, by decide +kernel⟩
theorem pl__law_fraction : Pl "_law_fraction" s__law_fraction ["abbot"] := fun _ _ _ _ _ _ us hl => match us, hl with | [_], _ => rfl
abbrev s__law_as : Stmt := topS 38
theorem sc__law_as : FnScope ["abbot", "number", "by"] ["abbot", "number"] (defScope s__law_as) := ⟨rfl, rfl, rfl, by decide +kernel, rfl, by decide +kernel, by decide +kernel⟩
theorem pl__law_as : Pl "_law_as" s__law_as ["abbot", "number"] := fun _ _ _ _ _ _ us hl => match us, hl with | [_, _], _ => rfl
abbrev s__law_trimmed : Stmt := topS 39
theorem sc__law_trimmed : FnScope ["row", "many"] ["row"] (defScope s__law_trimmed) := ⟨rfl, rfl, rfl, by decide +kernel, rfl, by decide +kernel, by decide +kernel⟩
theorem pl__law_trimmed : Pl "_law_trimmed" s__law_trimmed ["row"] := fun _ _ _ _ _ _ us hl => match us, hl with | [_], _ => rfl
abbrev s__law_product : Stmt := topS 40
theorem sc__law_product : FnScope ["one", "other", "found", "at", "mine", "spot", "its"] ["one", "other"] (defScope s__law_product) := ⟨rfl, rfl, rfl, by decide +kernel, rfl, by decide +kernel, by decide +kernel⟩
theorem pl__law_product : Pl "_law_product" s__law_product ["one", "other"] := fun _ _ _ _ _ _ us hl => match us, hl with | [_, _], _ => rfl
abbrev s__law_sum : Stmt := topS 41
theorem sc__law_sum : FnScope ["one", "other", "found", "at", "its"] ["one", "other"] (defScope s__law_sum) := ⟨rfl, rfl, rfl, by decide +kernel, rfl, by decide +kernel, by decide +kernel⟩
theorem pl__law_sum : Pl "_law_sum" s__law_sum ["one", "other"] := fun _ _ _ _ _ _ us hl => match us, hl with | [_, _], _ => rfl
abbrev s__law_value : Stmt := topS 42
theorem sc__law_value : FnScope ["row", "at", "found", "power", "number"] ["row", "at"] (defScope s__law_value) := ⟨rfl, rfl, rfl, by decide +kernel, rfl, by decide +kernel, by decide +kernel⟩
theorem pl__law_value : Pl "_law_value" s__law_value ["row", "at"] := fun _ _ _ _ _ _ us hl => match us, hl with | [_, _], _ => rfl
abbrev s__law_row : Stmt := topS 43
theorem sc__law_row : FnScope ["abbot", "most", "at"] ["abbot", "most"] (defScope s__law_row) := ⟨rfl, rfl, rfl, by decide +kernel, rfl, by decide +kernel, by decide +kernel⟩
theorem pl__law_row : Pl "_law_row" s__law_row ["abbot", "most"] := fun _ _ _ _ _ _ us hl => match us, hl with | [_, _], _ => rfl
abbrev s__law_long_right : Stmt := topS 44
theorem sc__law_long_right : FnScope ["abbot", "mine", "its", "long", "caught", "error", "at", "number"] ["abbot"] (defScope s__law_long_right) := ⟨rfl, rfl, rfl, by decide +kernel, rfl, by decide +kernel, by decide +kernel⟩
theorem pl__law_long_right : Pl "_law_long_right" s__law_long_right ["abbot"] := fun _ _ _ _ _ _ us hl => match us, hl with | [_], _ => rfl
abbrev s_law : Stmt := topS 45
theorem sc_law : FnScope ["script", "abbot", "turn", "one", "other", "some", "more", "kept", "at", "number"] ["script"] (defScope s_law) := ⟨rfl, rfl, rfl, by decide +kernel, rfl, by decide +kernel, by decide +kernel⟩
theorem pl_law : Pl "law" s_law ["script"] := fun _ _ _ _ _ _ us hl => match us, hl with | [_], _ => rfl
theorem pk_value_at : Pk "value_at" s_value_at ["poly", "at"] ["at", "poly"] List.reverse := fun _ _ _ _ _ _ us hl => match us, hl with | [_, _], _ => rfl
theorem pk_poly_times : Pk "poly_times" s_poly_times ["one", "other"] ["other", "one"] List.reverse := fun _ _ _ _ _ _ us hl => match us, hl with | [_, _], _ => rfl
theorem pk_poly_sum : Pk "poly_sum" s_poly_sum ["one", "other"] ["other", "one"] List.reverse := fun _ _ _ _ _ _ us hl => match us, hl with | [_, _], _ => rfl
theorem pk_poly_of : Pk "poly_of" s_poly_of ["value"] ["value"] List.reverse := fun _ _ _ _ _ _ us hl => match us, hl with | [_], _ => rfl
def clsBody (s : Stmt) : List Stmt := match s with
  | .ClassDef _ _ _ b _ _ _ _ _ _ _ => b
  | _ => []
abbrev s_TooMany : Stmt := (clsBody (topS 10)).getD 0 (.Pass ⟨0, 0, 0, 0⟩)
theorem sc_TooMany : FnScope ["self", "what", "most"] ["self", "what", "most"] (defScope s_TooMany) := ⟨rfl, rfl, rfl, by decide +kernel, rfl, by decide +kernel, by decide +kernel⟩
theorem pl_TooMany : PlI "TooMany.__init__" s_TooMany ["self", "what", "most"] := fun _ _ _ _ _ _ us hl => match us, hl with | [_, _, _], _ => rfl
theorem pk_TooMany : PkI "TooMany.__init__" s_TooMany ["what", "most"] := fun _ _ _ _ _ _ _ ws hl => match ws, hl with | [_, _], _ => rfl
structure Tx (c : Cn) : Prop where
  n_abs : c.mg "abs" = none
  n_all : c.mg "all" = none
  n_bool : c.mg "bool" = none
  n_enumerate : c.mg "enumerate" = none
  n_int : c.mg "int" = none
  n_isinstance : c.mg "isinstance" = none
  n_len : c.mg "len" = none
  n_list : c.mg "list" = none
  n_max : c.mg "max" = none
  n_range : c.mg "range" = none
  n_repr : c.mg "repr" = none
  n_reversed : c.mg "reversed" = none
  n_tuple : c.mg "tuple" = none
  d_is_integer : De c "is_integer" s_is_integer
  d_is_within : De c "is_within" s_is_within
  d_is_list : De c "is_list" s_is_list
  d_is_fraction : De c "is_fraction" s_is_fraction
  d_reduced : De c "reduced" s_reduced
  d_read_fraction : De c "read_fraction" s_read_fraction
  d_over_one_down : De c "over_one_down" s_over_one_down
  d_fraction_of : De c "fraction_of" s_fraction_of
  d_added : De c "added" s_added
  d_multiplied : De c "multiplied" s_multiplied
  d_times_whole : De c "times_whole" s_times_whole
  d_trimmed : De c "trimmed" s_trimmed
  d_is_poly : De c "is_poly" s_is_poly
  d_read_poly : De c "read_poly" s_read_poly
  d_poly_of : De c "poly_of" s_poly_of
  d_value_at : De c "value_at" s_value_at
  d_poly_sum : De c "poly_sum" s_poly_sum
  d_poly_times : De c "poly_times" s_poly_times
  d_slope_of : De c "slope_of" s_slope_of
  d__law_abbot : De c "_law_abbot" s__law_abbot
  d__law_bead : De c "_law_bead" s__law_bead
  d__law_pick : De c "_law_pick" s__law_pick
  d__law_low : De c "_law_low" s__law_low
  d__law_plus : De c "_law_plus" s__law_plus
  d__law_times : De c "_law_times" s__law_times
  d__law_fraction : De c "_law_fraction" s__law_fraction
  d__law_as : De c "_law_as" s__law_as
  d__law_trimmed : De c "_law_trimmed" s__law_trimmed
  d__law_product : De c "_law_product" s__law_product
  d__law_sum : De c "_law_sum" s__law_sum
  d__law_value : De c "_law_value" s__law_value
  d__law_row : De c "_law_row" s__law_row
  d__law_long_right : De c "_law_long_right" s__law_long_right
  d_law : De c "law" s_law
  c_MOST_NUMBERS : ∃ t, c.mg "MOST_NUMBERS" = some (.int 80 t)
  m_lcm : c.mg "lcm" = some (.builtin "math.lcm")
  m_gcd : c.mg "gcd" = some (.builtin "math.gcd")
  x_err : ∃ C F, Ed c "TooMany" "TooMany.__init__" s_TooMany C (.ref F :: veT) ["what", "most"] ∧ c.mg "FlowError" = some (.ref F) ∧ ClsAt c.K F veT
theorem ec_TooMany (c : Cn) {C F : Addr} (D : Ed c "TooMany" "TooMany.__init__" s_TooMany C (.ref F :: veT) ["what", "most"]) : Ec c "TooMany" C ["what", "most"] := by
  obtain ⟨P, w, K, mg, base⟩ := c
  refine D.ec (by decide) sc_TooMany pl_TooMany pk_TooMany (fun f cdv A outer s H vs Q E h => ?_)
  have S := sc_TooMany
  exact ⟨_, pss_cons (ps_ost (pv 0) (pv 1)) (pss_one (ps_ost (pv 0) (pv 2))), init2_rd h⟩

def sp_iswth (K : PySem.W.Frag) : Sp := fun vs H Q _ => ∃ q v d l m, vs = [v, bdV l, bdV m] ∧ Dq q K H v d ∧ Q (.bl (wthD d l m)) H
def sp_islist (K : PySem.W.Frag) : Sp := fun vs H Q _ => ∃ q v d, vs = [v] ∧ Dq q K H v d ∧ Q (.bl (isSeqD d)) H
def sp_isfr (K : PySem.W.Frag) : Sp := fun vs H Q _ => ∃ q v d, vs = [v] ∧ Dq q K H v d ∧ Q (.bl (isFrD d)) H
def sp_ispl (K : PySem.W.Frag) : Sp := fun vs H Q _ => ∃ q v d, vs = [v] ∧ Dq q K H v d ∧ Q (.bl (isPlD d)) H
def sp_isint (K : PySem.W.Frag) : Sp := fun vs H Q _ => ∃ q v d, vs = [v] ∧ Dq q K H v d ∧ Q (.bl (isIntD d)) H
theorem ok_is_integer (c : Cn) (T : Tx c) : Cl c 1 "is_integer" s_is_integer ["value"] (sp_isint c.K) := by
  obtain ⟨P, w, K, mg, base⟩ := c
  refine De.cl (N := ["value"]) T.d_is_integer sc_is_integer (fun vs H Q E h => ?_) (fun f0 cdv A outer s H vs Q E hA hr h => ?_)
  · obtain ⟨q, v, d, rfl, _⟩ := h; rfl
  · have S := sc_is_integer
    obtain ⟨q, v, d, rfl, hd, k⟩ := h
    refine ⟨_, (pss_one (ps_ret (pe_and (pe_callB call_isi (by rfl) T.n_isinstance (show bootBuiltins "isinstance" = some (.builtin "isinstance") by decide +kernel) (pa_cons (pv 0) (pa_cons (pe_bltn (v := .ty "int") (by rfl) T.n_int (show bootBuiltins "int" = some (.type "int") by decide +kernel) rfl) pa_nil))) (pe_one (pe_not (pe_callB call_isi (by rfl) T.n_isinstance (show bootBuiltins "isinstance" = some (.builtin "isinstance") by decide +kernel) (pa_cons (pv 0) (pa_cons (pe_bltn (v := .ty "bool") (by rfl) T.n_bool (show bootBuiltins "bool" = some (.type "bool") by decide +kernel) rfl) pa_nil)))))))), ?_⟩
    walk_at "mf"
    refine g_isiI hd ?_
    walk_at "mf"
    refine g_ite (fun h => ?_) (fun h => ?_)
    · walk_at "mf"
      refine g_isiB hd ?_
      walk_at "mf"
      rw [show isIntD d = !isBoolD d by cases d <;> first | rfl | cases h] at k
      exact k
    · rw [show isIntD d = false by cases d <;> first | rfl | cases h] at k
      exact k
theorem ok_is_within (c : Cn) (T : Tx c) : Cl c 2 "is_within" s_is_within ["value", "least", "most"] (sp_iswth c.K) := by
  obtain ⟨P, w, K, mg, base⟩ := c
  have C_is_integer := ok_is_integer _ T
  refine De.cl (N := ["value", "least", "most"]) T.d_is_within sc_is_within (fun vs H Q E h => ?_) (fun f0 cdv A outer s H vs Q E hA hr h => ?_)
  · obtain ⟨q, v, d, l, m, rfl, _⟩ := h; rfl
  · have S := sc_is_within
    obtain ⟨q, v, d, l, m, rfl, hd, k⟩ := h
    refine ⟨_, (pss_cons (ps_if (pt_not (pt_val (pe_f C_is_integer hA hr (by decide) pl_is_integer (by rfl) (pa_cons (pv 0) pa_nil)))) (pss_one (ps_ret pe_bl)) pss_nil)
      (pss_one (ps_ret (pe_and (pe_or (pe_cmpR op_isNU (pv 1) pe_non (nomark _)) (pe_one (pe_cmpR op_ge (pv 0) (pv 1) (nomark _)))) (pe_one (pe_or (pe_cmpR op_isNU (pv 2) pe_non (nomark _)) (pe_one (pe_cmpR op_le (pv 0) (pv 2) (nomark _))))))))), ?_⟩
    walk_at "mf"
    refine ⟨q, v, d, rfl, hd, ?_⟩
    walk_at "mf"
    refine g_ite (fun h => ?_) (fun h => ?_)
    · have e : isIntD d = false := by simpa using h
      walk_at "mf"
      rw [show wthD d l m = false by unfold wthD; rw [e]; rfl] at k
      exact k
    · have e : isIntD d = true := by simpa using h
      obtain ⟨rfl, hv⟩ := hd.int_of e
      rw [show wthD d l m = (loB l (valD d) && hiB m (valD d)) by unfold wthD; rw [e]; rfl] at k
      cases l with
      | none => cases m with
        | none =>
          dsimp only [bdV]
          walk_at "mf"
          exact k
        | some m =>
          dsimp only [bdV]
          walk_at "mf"
          exact k
      | some l => cases m with
        | none =>
          dsimp only [bdV]
          walk_at "mf"
          refine g_ite (fun h1 => ?_) (fun h1 => ?_)
          · walk_at "mf"
            rw [show loB (some l) (valD d) = true from h1] at k
            exact k
          · rw [show loB (some l) (valD d) = false from h1] at k
            exact k
        | some m =>
          dsimp only [bdV]
          walk_at "mf"
          refine g_ite (fun h1 => ?_) (fun h1 => ?_)
          · walk_at "mf"
            rw [show loB (some l) (valD d) = true from h1] at k
            exact k
          · rw [show loB (some l) (valD d) = false from h1] at k
            exact k
theorem ok_is_list (c : Cn) (T : Tx c) : Cl c 1 "is_list" s_is_list ["value"] (sp_islist c.K) := by
  obtain ⟨P, w, K, mg, base⟩ := c
  refine De.cl (N := ["value"]) T.d_is_list sc_is_list (fun vs H Q E h => ?_) (fun f0 cdv A outer s H vs Q E hA hr h => ?_)
  · obtain ⟨q, v, d, rfl, _⟩ := h; rfl
  · have S := sc_is_list
    obtain ⟨q, v, d, rfl, hd, k⟩ := h
    refine ⟨_, (pss_one (ps_ret (pe_isSeq (by rfl) T.n_isinstance (by rfl) T.n_list (by rfl) T.n_tuple (pv 0)))), ?_⟩
    walk_at "mf"
    exact g_seqQ hd k
theorem ok_is_fraction (c : Cn) (T : Tx c) : Cl c 3 "is_fraction" s_is_fraction ["value"] (sp_isfr c.K) := by
  obtain ⟨P, w, K, mg, base⟩ := c
  have C_is_integer := ok_is_integer _ T
  have C_is_list := ok_is_list _ T
  have C_is_within := ok_is_within _ T
  refine De.cl (N := ["value"]) T.d_is_fraction sc_is_fraction (fun vs H Q E h => ?_) (fun f0 cdv A outer s H vs Q E hA hr h => ?_)
  · obtain ⟨q, v, d, rfl, _⟩ := h; rfl
  · have S := sc_is_fraction
    obtain ⟨q, v, d, rfl, hd, k⟩ := h
    refine ⟨_, (pss_cons (ps_if (pt_val (pe_f C_is_integer hA hr (by decide) pl_is_integer (by rfl) (pa_cons (pv 0) pa_nil))) (pss_one (ps_ret pe_bl)) pss_nil)
      (pss_cons (ps_if (PW.pt (pw_or (pt_not (pt_val (pe_f C_is_list hA hr (by decide) pl_is_list (by rfl) (pa_cons (pv 0) pa_nil)))) (pw_or1 (pt_cmpR (op_neU hr.units) (pe_callB call_lenU (by rfl) T.n_len PySem.boot_len (pa_cons (pv 0) pa_nil)) pe_int (nomark _))))) (pss_one (ps_ret pe_bl)) pss_nil)
      (pss_one (ps_ret (pe_and (pe_f C_is_integer hA hr (by decide) pl_is_integer (by rfl) (pa_cons (pe_ix ix_seq (pv 0) pe_int (fun _ _ => rfl)) pa_nil)) (pe_one (pe_f C_is_within hA hr (by decide) pl_is_within (by rfl) (pa_cons (pe_ix ix_seq (pv 0) pe_int (fun _ _ => rfl)) (pa_cons pe_int (pa_cons pe_non pa_nil)))))))))), ?_⟩
    walk_at "mf"
    refine ⟨q, v, d, rfl, hd, ?_⟩
    walk_at "mf"
    refine g_ite (fun h1 => ?_) (fun h1 => ?_)
    · walk_at "mf"
      rw [frD_int h1] at k
      exact k
    · walk_at "mf"
      refine ⟨q, v, d, rfl, hd, ?_⟩
      walk_at "mf"
      refine g_ite (fun h2 => ?_) (fun h2 => ?_)
      · walk_at "mf"
        rw [frD_no h1 (by simpa using h2)] at k
        exact k
      · obtain ⟨a, xs, ds, rfl, na, hs, hall, ed⟩ := hd.seq (by simpa using h2)
        walk_at "mf"
        refine g_len hs ?_
        walk_at "mf"
        refine g_ite (fun h3 => ?_) (fun h3 => ?_)
        · walk_at "mf"
          rw [(frD_two ed (by rw [← hall.len]; simp at h3; omega)).1] at k
          exact k
        · obtain ⟨x, y, dx, dy, rfl, rfl, hx, hy⟩ := two_of hall (by simp at h3; omega)
          rw [(frD_of ed).1] at k
          walk_at "mf"
          refine g_ix hs rfl ?_
          walk_at "mf"
          refine ⟨q, x, dx, rfl, hx, ?_⟩
          walk_at "mf"
          refine g_ite (fun h4 => ?_) (fun h4 => ?_)
          · walk_at "mf"
            refine g_ix hs rfl ?_
            walk_at "mf"
            refine ⟨q, y, dy, some 1, none, rfl, hy, ?_⟩
            rw [h4, Bool.true_and, posD_eq] at k
            exact k
          · rw [h4] at k
            exact k
end Mf
namespace Mf
open PySem PySem.Spec PyProof.Rows L2
local macro_rules | `(tactic| walk_at "mf1") => `(tactic| first
  | ((with_reducible apply g_var); exact rfl)
  | with_reducible first
    | refine g_c ?_ | refine g_op ?_ | refine g_un ?_ | refine g_cb ?_ | refine g_cl ?_ | refine g_clk ?_ | refine g_nil ?_ | refine g_cons ?_
    | refine g_tB ?_ | refine g_test ?_ | refine g_bl ?_ | refine g_and ?_ | refine g_or ?_ | refine g_not ?_ | refine g_andV ?_ | refine g_orV ?_ | refine g_notV ?_
    | refine g_if ?_ | refine g_ifS ?_ | refine g_seq ?_ | refine g_next ?_ | refine g_ret ?_ | refine g_drop ?_ | refine g_asg ?_ | refine g_name ?_ | refine g_sub ?_
    | refine g_int ?_ | refine g_intB ?_ | refine g_abs ?_ | refine g_I0 ?_ | refine g_addI ?_ | refine g_U ?_ | refine g_isNn ?_ | refine g_isNi ?_ | refine g_notN ?_ | refine g_notT1 ?_ | refine g_notT2 ?_ | refine g_notT3 ?_ | refine g_notT4 ?_ | refine g_notTb ?_ | refine g_notTi ?_ | refine g_eqI ?_ | refine g_neI ?_ | refine g_neSs ?_ | refine g_neS ?_ | refine g_eqS ?_
    | refine g_iteT ?_ | refine g_iteF ?_ | refine g_iteNT ?_ | refine g_iteNF ?_ | refine g_lst ?_ | refine g_tup ?_ | refine g_seqP ?_ | refine g_sl ?_ | refine g_noPart ?_ | refine g_part ?_ | refine g_yes ?_ | refine g_thenT ?_ | refine g_consG ?_ | refine g_nilG ?_ | refine g_ii ?_ | refine g_par ?_ | refine g_par3 ?_ | refine g_vv ?_ | refine g_vvv ?_ | refine g_reprB ?_ | refine g_lcL ?_ | refine g_lcR ?_
  | ((with_reducible refine g_mod ?_ ?_); (first | omega | decide))
  | ((with_reducible refine g_div ?_ ?_ ?_); (first | omega | decide); (first | assumption | decide))
  | ((with_reducible refine g_mulL ?_ ?_ ?_); (first | omega | decide); (first | omega | decide))
  | ((with_reducible refine g_mulR ?_ ?_ ?_); (first | omega | decide); (first | omega | decide))
  | ((with_reducible refine g_pow ?_ ?_ ?_ ?_); decide; decide; (first | omega | decide))
  | dsimp only)
local macro_rules | `(tactic| walk_at "mf1s") => `(tactic| first
  | ((with_reducible apply g_var); exact rfl)
  | with_reducible first
    | refine g_c ?_ | refine g_op ?_ | refine g_un ?_ | refine g_cb ?_ | refine g_cl ?_ | refine g_clk ?_ | refine g_nil ?_ | refine g_cons ?_
    | refine g_tB ?_ | refine g_test ?_ | refine g_bl ?_ | refine g_and ?_ | refine g_or ?_ | refine g_not ?_ | refine g_andV ?_ | refine g_orV ?_ | refine g_notV ?_
    | refine g_if ?_ | refine g_ifS ?_ | refine g_next ?_ | refine g_ret ?_ | refine g_drop ?_ | refine g_asg ?_ | refine g_name ?_ | refine g_sub ?_
    | refine g_int ?_ | refine g_intB ?_ | refine g_abs ?_ | refine g_I0 ?_ | refine g_addI ?_ | refine g_U ?_ | refine g_isNn ?_ | refine g_isNi ?_ | refine g_notN ?_ | refine g_notT1 ?_ | refine g_notT2 ?_ | refine g_notT3 ?_ | refine g_notT4 ?_ | refine g_notTb ?_ | refine g_notTi ?_ | refine g_eqI ?_ | refine g_neI ?_ | refine g_neSs ?_ | refine g_neS ?_ | refine g_eqS ?_
    | refine g_iteT ?_ | refine g_iteF ?_ | refine g_iteNT ?_ | refine g_iteNF ?_ | refine g_lst ?_ | refine g_tup ?_ | refine g_seqP ?_ | refine g_sl ?_ | refine g_noPart ?_ | refine g_part ?_ | refine g_yes ?_ | refine g_thenT ?_ | refine g_consG ?_ | refine g_nilG ?_ | refine g_ii ?_ | refine g_par ?_ | refine g_par3 ?_ | refine g_vv ?_ | refine g_vvv ?_ | refine g_reprB ?_ | refine g_lcL ?_ | refine g_lcR ?_
  | ((with_reducible refine g_mod ?_ ?_); (first | omega | decide))
  | ((with_reducible refine g_div ?_ ?_ ?_); (first | omega | decide); (first | assumption | decide))
  | ((with_reducible refine g_mulL ?_ ?_ ?_); (first | omega | decide); (first | omega | decide))
  | ((with_reducible refine g_mulR ?_ ?_ ?_); (first | omega | decide); (first | omega | decide))
  | ((with_reducible refine g_pow ?_ ?_ ?_ ?_); decide; decide; (first | omega | decide))
  | dsimp only)
local macro_rules | `(tactic| walk_at "mfs") => `(tactic| repeat walk_at "mf1s")
local macro_rules | `(tactic| walk_at "mf") => `(tactic| repeat walk_at "mf1")
local macro_rules | `(tactic| walk_at "ed") => `(tactic| repeat (first
  | with_reducible first
    | exact eds_nil | apply eds_cons | exact ed_int | exact ed_bl | exact ed_non | apply ed_neg
  | ((with_reducible apply ed_str); decide)
  | ((with_reducible apply ed_var); (exact rfl); (first | assumption | exact Dq.int _))
  | ((with_reducible apply ed_dict0); assumption)
  | ((with_reducible apply ed_dict2); assumption)
  | ((with_reducible apply ed_tup); assumption)
  | ((with_reducible apply ed_lst); assumption)
  | (with_reducible apply ed_pow)
  | (with_reducible apply ed_mul)
  | assumption
  | (exact Dq.int _)
  | (exact ⟨by decide, by decide, by decide⟩)
  | (show List.length _ ≤ 1000; simp only [List.length_cons, List.length_nil]; decide)))
theorem ok__law_abbot (c : Cn) (T : Tx c) : Cl c 1 "_law_abbot" s__law_abbot ["script"] (sp_quay c.K) := by
  obtain ⟨P, w, K, mg, base⟩ := c
  refine De.cl (N := ["script", "cell"]) T.d__law_abbot sc__law_abbot (fun vs H Q E h => ?_) (fun f0 cdv A outer s H vs Q E hA hr h => ?_)
  · obtain ⟨a, ns, rfl, _⟩ := h; rfl
  · have S := sc__law_abbot
    obtain ⟨a, ns, rfl, hS, hlen, k⟩ := h
    refine ⟨_, (pss_one (ps_ret (pe_lst (pa_cons (pe_lc (own := [("cell", 1)]) (g := gName 1) (tt := tYes) rfl S.nd (pi_list (pe_slice sl_list (pv 0) po_none (po_some pe_int))) (blkOk_by (N := ["script", "cell"]) (sc := defScope s__law_abbot) (by decide +kernel)) (fun _ _ _ _ _ => pg_name (i := 1) S.nd rfl (Or.inl rfl)) (fun _ _ _ _ _ => pts_nil) (fun _ _ _ _ _ => (pe_callTy call_intU (by rfl) T.n_int PyProof.Rows.boot_int (pa_cons (pv 1) pa_nil)))) (pa_cons pe_int (pa_cons pe_int pa_nil)))))), ?_⟩
    walk_at "mf"
    refine g_slL hS fun p H1 hp s1 e1 => ?_
    obtain ⟨ms, em, lm⟩ := cut_ints ns none (some 60)
    walk_at "mf"
    rw [em] at e1
    refine ⟨p, rfl, ⟨_, seqU e1⟩, ?_⟩
    refine lcgo_list (xs := ms.map V.int) (fun D i H' => Same H1 H' ∧ H' D = some (.lst ((ms.take i).map V.int))) (fun x => rfl) (fun D hD => ⟨same_new hD, upd_same⟩) (fun D i H' _ h => seqU (h.1 _ _ e1)) (fun D i x H' hD ex h => ?_) (fun D H' hD h => ?_)
    · obtain ⟨h1, h2⟩ := h
      rw [List.getElem?_map] at ex
      obtain ⟨z, ez, rfl⟩ := Option.map_eq_some_iff.mp ex
      walk_at "mf"
      have hi := (List.getElem?_eq_some_iff.mp ez).1
      refine ⟨_, h2, ?_, ?_, ?_⟩
      · rw [List.length_map, List.length_take]
        exact small1000 (by omega)
      · intro b o e
        rw [upd_ne (ne_of_none e hD)]
        exact h1 b o e
      · rw [upd_same, List.take_add_one, ez, List.map_append]
        rfl
    · obtain ⟨h1, h2⟩ := h
      rw [List.length_map, List.take_length] at h2
      walk_at "mf"
      refine g_newL (by show 3 ≤ sizeLine; decide) fun q H2 hq s2 e2 => ?_
      have hDq : D ≠ q := ne_of_none h2 hq
      refine k q H2 ((s1.trans h1).trans s2) ((s1.trans h1).free hq) ⟨D, ms, 0, e2, s2 _ _ h2, hDq, by omega, by omega, by omega⟩
theorem ok__law_bead (c : Cn) (T : Tx c) : Cl c 1 "_law_bead" s__law_bead ["abbot", "many"] (sp_moor c.K) := by
  obtain ⟨P, w, K, mg, base⟩ := c
  refine De.cl (N := ["abbot", "many", "left", "turn", "cell", "mixed"]) T.d__law_bead sc__law_bead (fun vs H Q E h => ?_) (fun f0 cdv A outer s H vs Q E hA hr h => ?_)
  · obtain ⟨q, t, n, rfl, _⟩ := h; rfl
  · have S := sc__law_bead
    obtain ⟨q, t, n, rfl, hq, ht, hn, hn9, k⟩ := h
    refine ⟨_, (pss_cons (ps_if (pt_cmpR op_gt (pe_ix ix_seq (pv 0) pe_int (fun _ _ => rfl)) pe_int (nomark _)) (pss_cons (ps_set (i := 2) S.nd rfl (by first | exact .inl rfl | exact .inr rfl) (pe_callTy call_intU (by rfl) T.n_int PyProof.Rows.boot_int (pa_cons (pe_ix ix_seq (pv 0) pe_int (fun _ _ => rfl)) pa_nil)))
      (pss_cons (ps_asg (pe_op op_fdivW (pv 2) (pv 1)) (pg_sub (pv 0) pe_int set_list))
      (pss_one (ps_ret (pe_op op_mod (pe_callTy call_intU (by rfl) T.n_int PyProof.Rows.boot_int (pa_cons (pv 2) pa_nil)) (pv 1)))))) pss_nil)
      (pss_cons (ps_set (i := 3) S.nd rfl (by first | exact .inl rfl | exact .inr rfl) (pe_ix ix_seq (pv 0) pe_int (fun _ _ => rfl)))
      (pss_cons (ps_asg (pe_op op_addU (pv 3) pe_int) (pg_sub (pv 0) pe_int set_list))
      (pss_cons (ps_set (i := 4) S.nd rfl (by first | exact .inl rfl | exact .inr rfl) (pe_op op_addU (pe_op op_mulU pe_int (pv 3)) pe_int))
      (pss_cons (ps_if (pt_cmpR (op_neU hr.units) (pe_ix ix_seq (pv 0) pe_int (fun _ _ => rfl)) (pe_lst pa_nil) (nomark _)) (pss_one (ps_set (i := 4) S.nd rfl (by first | exact .inl rfl | exact .inr rfl) (pe_ix ix_seq (pe_ix ix_seq (pv 0) pe_int (fun _ _ => rfl)) (pe_op op_mod (pe_callTy call_intU (by rfl) T.n_int PyProof.Rows.boot_int (pa_cons (pv 3) pa_nil)) (pe_callB call_lenU (by rfl) T.n_len PySem.boot_len (pa_cons (pe_ix ix_seq (pv 0) pe_int (fun _ _ => rfl)) pa_nil))) (fun _ _ => rfl)))) pss_nil)
      (pss_cons (ps_if (PW.pt (pw_and (pt_cmpR op_lt (pv 3) (pe_callB call_lenU (by rfl) T.n_len PySem.boot_len (pa_cons (pe_ix ix_seq (pv 0) pe_int (fun _ _ => rfl)) pa_nil)) (nomark _)) (pw_and1 (pt_cmpR op_ge (pe_callB call_absU (by rfl) T.n_abs (show bootBuiltins "abs" = some (.builtin "abs") by decide +kernel) (pa_cons (pv 4) pa_nil)) (pe_op op_pow pe_int pe_int) (nomark _))))) (pss_cons (ps_set (i := 2) S.nd rfl (by first | exact .inl rfl | exact .inr rfl) (pe_op op_addU (pe_op op_mulU pe_int (pe_op op_sub (pe_callB call_absU (by rfl) T.n_abs (show bootBuiltins "abs" = some (.builtin "abs") by decide +kernel) (pa_cons (pe_callTy call_intU (by rfl) T.n_int PyProof.Rows.boot_int (pa_cons (pv 4) pa_nil)) pa_nil)) (pe_op op_pow pe_int pe_int))) (pe_callTy call_intU (by rfl) T.n_int PyProof.Rows.boot_int (pa_cons (pe_cmpR op_lt (pv 4) pe_int (nomark _)) pa_nil))))
      (pss_cons (ps_asg (pe_op op_fdivW (pv 2) (pv 1)) (pg_sub (pv 0) pe_int set_list))
      (pss_one (ps_ret (pe_op op_mod (pe_callTy call_intU (by rfl) T.n_int PyProof.Rows.boot_int (pa_cons (pv 2) pa_nil)) (pv 1)))))) pss_nil)
      (pss_cons (ps_set (i := 5) S.nd rfl (by first | exact .inl rfl | exact .inr rfl) (pe_op op_mod (pe_callTy call_intU (by rfl) T.n_int PyProof.Rows.boot_int (pa_cons (pe_op op_pow (pe_op op_addU (pe_op op_addU (pe_op op_mod (pe_callTy call_intU (by rfl) T.n_int PyProof.Rows.boot_int (pa_cons (pv 4) pa_nil)) pe_int) (pe_op op_mulU pe_int (pv 3))) pe_int) pe_int) pa_nil)) pe_int))
      (pss_cons (ps_set (i := 5) S.nd rfl (by first | exact .inl rfl | exact .inr rfl) (pe_op op_mod (pe_callTy call_intU (by rfl) T.n_int PyProof.Rows.boot_int (pa_cons (pe_op op_pow (pe_op op_addU (pe_op op_addU (pe_op op_mulU (pv 5) (pe_op op_addU (pe_op op_mulU pe_int (pv 3)) pe_int)) (pe_op op_mulU (pe_op op_mulU pe_int (pv 3)) (pv 3))) pe_int) pe_int) pa_nil)) pe_int))
      (pss_one (ps_ret (pe_op op_mod (pe_callTy call_intU (by rfl) T.n_int PyProof.Rows.boot_int (pa_cons (pe_op op_fdivW (pv 5) pe_int) pa_nil)) (pv 1)))))))))))), ?_⟩
    obtain ⟨c, ns, r, eq, hc, ncq, hns, hr0, ht0⟩ := hq
    walk_at "mf"
    refine g_ix (.inl (seqU eq)) (v := .int r) rfl ?_
    walk_at "mf"
    refine g_ite (fun h => ?_) (fun h => ?_)
    · walk_at "mf"
      refine g_ix (.inl (seqU eq)) (v := .int r) rfl ?_
      walk_at "mf"
      refine g_setL eq (j := 2) rfl ?_
      walk_at "mf"
      exact k t _ _ (upd_x eq) ⟨c, ns, _, upd_same, (upd_x eq).kept _ _ ncq hc, ncq, hns, Int.ediv_nonneg hr0 (by omega), ht0⟩ (by omega) (by omega) (Int.emod_nonneg _ (by omega)) (Int.emod_lt_of_pos _ hn)
    · walk_at "mf"
      refine g_ix (.inl (seqU eq)) (v := .int t) rfl ?_
      walk_at "mf"
      refine g_setL eq (j := 1) rfl ?_
      have eq1 : (upd H q (.lst [.ref c, .int (t + 1), .int r])) q = some (.lst [.ref c, .int (t + 1), .int r]) := upd_same
      have hc1 : (upd H q (.lst [.ref c, .int (t + 1), .int r])) c = some (.lst (ns.map V.int)) := (upd_x eq).kept _ _ ncq hc
      have sx1 : SameX q H (upd H q (.lst [.ref c, .int (t + 1), .int r])) := upd_x eq
      have es : [V.ref c, .int t, .int r].set 1 (.int (t + 1)) = [.ref c, .int (t + 1), .int r] := rfl
      rw [es]
      generalize upd H q (.lst [.ref c, .int (t + 1), .int r]) = Hb at *
      walk_at "mf"
      refine g_ix (.inl (seqU eq1)) (v := .ref c) rfl ?_
      walk_at "mf"
      refine g_newL (by show 0 ≤ sizeLine; decide) fun p H2 hp s2 e2 => ?_
      have eq2 := s2 _ _ eq1
      have hc2 := s2 _ _ hc1
      have sx := sx1.trans (Same.x s2)
      walk_at "mf"
      refine g_neNil (seqU hc2) (seqU e2) ?_
      walk_at "mf"
      refine g_ite (fun h2 => ?_) (fun h2 => ?_)
      · walk_at "mf"
        refine g_ix (.inl (seqU eq2)) (v := .ref c) rfl ?_
        walk_at "mf"
        refine g_ix (.inl (seqU eq2)) (v := .ref c) rfl ?_
        walk_at "mf"
        refine g_len (.inl (seqU hc2)) ?_
        have hpos : 0 < ((ns.map V.int).length : Int) := by
          cases ns with
          | nil => cases h2
          | cons z l => rw [List.map_cons, List.length_cons]; omega
        walk_at "mf"
        obtain ⟨z, ez⟩ : ∃ z, atI (ns.map V.int) (t % ((ns.map V.int).length : Int)) = some (.int z) := by
          have b1 := Int.emod_nonneg t (Int.ne_of_gt hpos)
          have b2 := Int.emod_lt_of_pos t hpos
          have b3 : (t % ((ns.map V.int).length : Int)).toNat < ns.length := by
            rw [List.length_map] at b1 b2 ⊢
            omega
          refine ⟨ns[(t % ((ns.map V.int).length : Int)).toNat], ?_⟩
          refine at_of (j := (t % ((ns.map V.int).length : Int)).toNat) (by omega) ?_
          rw [List.getElem?_map, List.getElem?_eq_getElem b3]
          rfl
        refine g_ix (.inl (seqU hc2)) ez ?_
        walk_at "mf"
        refine g_ix (.inl (seqU eq2)) (v := .ref c) rfl ?_
        walk_at "mf"
        refine g_len (.inl (seqU hc2)) ?_
        walk_at "mf"
        refine g_ite (fun h3 => ?_) (fun h3 => ?_)
        · walk_at "mf"
          refine g_ite (fun h4 => ?_) (fun h4 => ?_)
          · have h5 := of_decide_eq_true h4
            rw [show (10 : Int) ^ (18 : Int).toNat = 1000000000000000000 by decide] at h5
            walk_at "mf"
            refine g_setL eq2 (j := 2) rfl ?_
            walk_at "mf"
            rw [show (10 : Int) ^ (18 : Int).toNat = 1000000000000000000 by decide]
            exact k (t + 1) _ _ (sx.trans (upd_x eq2)) ⟨c, ns, _, upd_same, (upd_x eq2).kept _ _ ncq hc2, ncq, hns, Int.ediv_nonneg (by split <;> omega) (by omega), by omega⟩ (by omega) (by omega) (Int.emod_nonneg _ (by omega)) (Int.emod_lt_of_pos _ hn)
          · walk_at "mf"
            walk_at "mf"
            refine g_pow (by decide) (by decide) (stir_bd (Int.emod_nonneg _ (by decide)) (Int.lt_of_lt_of_le (Int.emod_lt_of_pos _ (by decide)) (by decide)) ht0 ht (by decide) (by decide) (by decide) (by decide) (by decide) (by decide)) ?_
            walk_at "mf"
            exact k (t + 1) _ _ sx ⟨c, ns, r, eq2, hc2, ncq, hns, hr0, by omega⟩ (by omega) (by omega) (Int.emod_nonneg _ (by omega)) (Int.emod_lt_of_pos _ hn)
        · walk_at "mf"
          walk_at "mf"
          refine g_pow (by decide) (by decide) (stir_bd (Int.emod_nonneg _ (by decide)) (Int.lt_of_lt_of_le (Int.emod_lt_of_pos _ (by decide)) (by decide)) ht0 ht (by decide) (by decide) (by decide) (by decide) (by decide) (by decide)) ?_
          walk_at "mf"
          exact k (t + 1) _ _ sx ⟨c, ns, r, eq2, hc2, ncq, hns, hr0, by omega⟩ (by omega) (by omega) (Int.emod_nonneg _ (by omega)) (Int.emod_lt_of_pos _ hn)
      · walk_at "mf"
        walk_at "mf"
        refine g_ix (.inl (seqU eq2)) (v := .ref c) rfl ?_
        walk_at "mf"
        refine g_len (.inl (seqU hc2)) ?_
        walk_at "mf"
        refine g_ite (fun h3 => ?_) (fun h3 => ?_)
        · walk_at "mf"
          refine g_ite (fun h4 => ?_) (fun h4 => ?_)
          · have h5 := of_decide_eq_true h4
            rw [show (10 : Int) ^ (18 : Int).toNat = 1000000000000000000 by decide] at h5
            walk_at "mf"
            refine g_setL eq2 (j := 2) rfl ?_
            walk_at "mf"
            rw [show (10 : Int) ^ (18 : Int).toNat = 1000000000000000000 by decide]
            exact k (t + 1) _ _ (sx.trans (upd_x eq2)) ⟨c, ns, _, upd_same, (upd_x eq2).kept _ _ ncq hc2, ncq, hns, Int.ediv_nonneg (by split <;> omega) (by omega), by omega⟩ (by omega) (by omega) (Int.emod_nonneg _ (by omega)) (Int.emod_lt_of_pos _ hn)
          · walk_at "mf"
            walk_at "mf"
            refine g_pow (by decide) (by decide) (stir_bd (Int.emod_nonneg _ (by decide)) (Int.lt_of_lt_of_le (Int.emod_lt_of_pos _ (by decide)) (by decide)) ht0 ht (by decide) (by decide) (by decide) (by decide) (by decide) (by decide)) ?_
            walk_at "mf"
            exact k (t + 1) _ _ sx ⟨c, ns, r, eq2, hc2, ncq, hns, hr0, by omega⟩ (by omega) (by omega) (Int.emod_nonneg _ (by omega)) (Int.emod_lt_of_pos _ hn)
        · walk_at "mf"
          walk_at "mf"
          refine g_pow (by decide) (by decide) (stir_bd (Int.emod_nonneg _ (by decide)) (Int.lt_of_lt_of_le (Int.emod_lt_of_pos _ (by decide)) (by decide)) ht0 ht (by decide) (by decide) (by decide) (by decide) (by decide) (by decide)) ?_
          walk_at "mf"
          exact k (t + 1) _ _ sx ⟨c, ns, r, eq2, hc2, ncq, hns, hr0, by omega⟩ (by omega) (by omega) (Int.emod_nonneg _ (by omega)) (Int.emod_lt_of_pos _ hn)
theorem ok__law_pick (c : Cn) (T : Tx c) : Cl c 2 "_law_pick" s__law_pick ["abbot", "some"] (sp_pick c.K) := by
  obtain ⟨P, w, K, mg, base⟩ := c
  have C__law_bead := ok__law_bead _ T
  refine De.cl (N := ["abbot", "some"]) T.d__law_pick sc__law_pick (fun vs H Q E h => ?_) (fun f0 cdv A outer s H vs Q E hA hr h => ?_)
  · obtain ⟨q, a, t, xs, rfl, _⟩ := h; rfl
  · have S := sc__law_pick
    obtain ⟨q, a, t, xs, rfl, hq, ht, na, hs, hne, hl, k⟩ := h
    refine ⟨_, (pss_one (ps_ret (pe_ix ix_seq (pv 1) (pe_f C__law_bead hA hr (by decide) pl__law_bead (by rfl) (pa_cons (pv 0) (pa_cons (pe_callB call_lenU (by rfl) T.n_len PySem.boot_len (pa_cons (pv 1) pa_nil)) pa_nil))) (fun _ _ => rfl)))), ?_⟩
    have hp : 0 < xs.length := by
      cases xs with
      | nil => exact absurd rfl hne
      | cons z r => exact Nat.succ_pos _
    walk_at "mf"
    refine g_len hs ?_
    walk_at "mf"
    refine ⟨q, t, _, rfl, hq, ht, by omega, ?_, fun t' H' i sx hq' h1 h2 h3 h4 => ?_⟩
    · rw [Int.natAbs_natCast]
      exact Nat.lt_of_lt_of_le ((Nat.log2_lt (by omega)).mpr (show xs.length < 2 ^ 10 by omega)) (by decide)
    · walk_at "mf"
      have hi : i.toNat < xs.length := by omega
      refine g_ix (hs.go sx na) (at_of (j := i.toNat) (by omega) (List.getElem?_eq_getElem hi)) ?_
      exact k t' H' _ sx hq' h1 h2 (List.getElem_mem hi)
end Mf
namespace Mf
open PySem PySem.Spec PyProof.Rows L2
local macro_rules | `(tactic| walk_at "mf1") => `(tactic| first
  | ((with_reducible apply g_var); exact rfl)
  | with_reducible first
    | refine g_c ?_ | refine g_op ?_ | refine g_un ?_ | refine g_cb ?_ | refine g_cl ?_ | refine g_clk ?_ | refine g_nil ?_ | refine g_cons ?_
    | refine g_tB ?_ | refine g_test ?_ | refine g_bl ?_ | refine g_and ?_ | refine g_or ?_ | refine g_not ?_ | refine g_andV ?_ | refine g_orV ?_ | refine g_notV ?_
    | refine g_if ?_ | refine g_ifS ?_ | refine g_seq ?_ | refine g_next ?_ | refine g_ret ?_ | refine g_drop ?_ | refine g_asg ?_ | refine g_name ?_ | refine g_sub ?_
    | refine g_int ?_ | refine g_intB ?_ | refine g_abs ?_ | refine g_I0 ?_ | refine g_addI ?_ | refine g_U ?_ | refine g_isNn ?_ | refine g_isNi ?_ | refine g_notN ?_ | refine g_notT1 ?_ | refine g_notT2 ?_ | refine g_notT3 ?_ | refine g_notT4 ?_ | refine g_notTb ?_ | refine g_notTi ?_ | refine g_eqI ?_ | refine g_neI ?_ | refine g_neSs ?_ | refine g_neS ?_ | refine g_eqS ?_
    | refine g_iteT ?_ | refine g_iteF ?_ | refine g_iteNT ?_ | refine g_iteNF ?_ | refine g_lst ?_ | refine g_tup ?_ | refine g_seqP ?_ | refine g_sl ?_ | refine g_noPart ?_ | refine g_part ?_ | refine g_yes ?_ | refine g_thenT ?_ | refine g_consG ?_ | refine g_nilG ?_ | refine g_ii ?_ | refine g_par ?_ | refine g_par3 ?_ | refine g_vv ?_ | refine g_vvv ?_ | refine g_reprB ?_ | refine g_lcL ?_ | refine g_lcR ?_
  | ((with_reducible refine g_mod ?_ ?_); (first | omega | decide))
  | ((with_reducible refine g_div ?_ ?_ ?_); (first | omega | decide); (first | assumption | decide))
  | ((with_reducible refine g_mulL ?_ ?_ ?_); (first | omega | decide); (first | omega | decide))
  | ((with_reducible refine g_mulR ?_ ?_ ?_); (first | omega | decide); (first | omega | decide))
  | ((with_reducible refine g_pow ?_ ?_ ?_ ?_); decide; decide; (first | omega | decide))
  | dsimp only)
local macro_rules | `(tactic| walk_at "mf1s") => `(tactic| first
  | ((with_reducible apply g_var); exact rfl)
  | with_reducible first
    | refine g_c ?_ | refine g_op ?_ | refine g_un ?_ | refine g_cb ?_ | refine g_cl ?_ | refine g_clk ?_ | refine g_nil ?_ | refine g_cons ?_
    | refine g_tB ?_ | refine g_test ?_ | refine g_bl ?_ | refine g_and ?_ | refine g_or ?_ | refine g_not ?_ | refine g_andV ?_ | refine g_orV ?_ | refine g_notV ?_
    | refine g_if ?_ | refine g_ifS ?_ | refine g_next ?_ | refine g_ret ?_ | refine g_drop ?_ | refine g_asg ?_ | refine g_name ?_ | refine g_sub ?_
    | refine g_int ?_ | refine g_intB ?_ | refine g_abs ?_ | refine g_I0 ?_ | refine g_addI ?_ | refine g_U ?_ | refine g_isNn ?_ | refine g_isNi ?_ | refine g_notN ?_ | refine g_notT1 ?_ | refine g_notT2 ?_ | refine g_notT3 ?_ | refine g_notT4 ?_ | refine g_notTb ?_ | refine g_notTi ?_ | refine g_eqI ?_ | refine g_neI ?_ | refine g_neSs ?_ | refine g_neS ?_ | refine g_eqS ?_
    | refine g_iteT ?_ | refine g_iteF ?_ | refine g_iteNT ?_ | refine g_iteNF ?_ | refine g_lst ?_ | refine g_tup ?_ | refine g_seqP ?_ | refine g_sl ?_ | refine g_noPart ?_ | refine g_part ?_ | refine g_yes ?_ | refine g_thenT ?_ | refine g_consG ?_ | refine g_nilG ?_ | refine g_ii ?_ | refine g_par ?_ | refine g_par3 ?_ | refine g_vv ?_ | refine g_vvv ?_ | refine g_reprB ?_ | refine g_lcL ?_ | refine g_lcR ?_
  | ((with_reducible refine g_mod ?_ ?_); (first | omega | decide))
  | ((with_reducible refine g_div ?_ ?_ ?_); (first | omega | decide); (first | assumption | decide))
  | ((with_reducible refine g_mulL ?_ ?_ ?_); (first | omega | decide); (first | omega | decide))
  | ((with_reducible refine g_mulR ?_ ?_ ?_); (first | omega | decide); (first | omega | decide))
  | ((with_reducible refine g_pow ?_ ?_ ?_ ?_); decide; decide; (first | omega | decide))
  | dsimp only)
local macro_rules | `(tactic| walk_at "mfs") => `(tactic| repeat walk_at "mf1s")
local macro_rules | `(tactic| walk_at "mf") => `(tactic| repeat walk_at "mf1")
local macro_rules | `(tactic| walk_at "ed") => `(tactic| repeat (first
  | with_reducible first
    | exact eds_nil | apply eds_cons | exact ed_int | exact ed_bl | exact ed_non | apply ed_neg
  | ((with_reducible apply ed_str); decide)
  | ((with_reducible apply ed_var); (exact rfl); (first | assumption | exact Dq.int _))
  | ((with_reducible apply ed_dict0); assumption)
  | ((with_reducible apply ed_dict2); assumption)
  | ((with_reducible apply ed_tup); assumption)
  | ((with_reducible apply ed_lst); assumption)
  | (with_reducible apply ed_pow)
  | (with_reducible apply ed_mul)
  | assumption
  | (exact Dq.int _)
  | (exact ⟨by decide, by decide, by decide⟩)
  | (show List.length _ ≤ 1000; simp only [List.length_cons, List.length_nil]; decide)))
theorem ok_reduced (c : Cn) (T : Tx c) : Cl c 1 "reduced" s_reduced ["up", "down"] (sp_reduced c.K) := by
  obtain ⟨P, w, K, mg, base⟩ := c
  refine De.cl (N := ["up", "down", "common"]) T.d_reduced sc_reduced (fun vs H Q E h => ?_) (fun f0 cdv A outer s H vs Q E hA hr h => ?_)
  · obtain ⟨u, d, rfl, _⟩ := h; rfl
  · have S := sc_reduced
    obtain ⟨u, d, rfl, hd, hb, k⟩ := h
    refine ⟨_, (pss_cons (ps_set (i := 2) S.nd rfl (by first | exact .inl rfl | exact .inr rfl) (pe_callBfun cr_gcd (by rfl) T.m_gcd (pa_cons (pv 0) (pa_cons (pv 1) pa_nil))))
      (pss_one (ps_ret (pe_tup (pa_cons (pe_op op_fdivW (pv 0) (pv 2)) (pa_cons (pe_op op_fdivW (pv 1) (pv 2)) pa_nil)))))), ?_⟩
    walk_at "mf"
    have hpos : 0 < ((Nat.gcd u.natAbs d.natAbs : Nat) : Int) := by
      have := Nat.gcd_pos_of_pos_right u.natAbs (show 0 < d.natAbs by omega)
      omega
    have hlog : ((Nat.gcd u.natAbs d.natAbs : Nat) : Int).natAbs.log2 < 9000 := by
      refine Bt.log (n := 8000) ?_ (by decide)
      show ((Nat.gcd u.natAbs d.natAbs : Nat) : Int).natAbs < _
      rw [Int.natAbs_natCast]
      exact Nat.lt_of_le_of_lt (Nat.gcd_le_right _ (by omega)) hb
    refine g_gcd ?_
    walk_at "mf"
    refine g_newT (by show 2 ≤ sizeLine; decide) fun p H1 hp s1 e1 => ?_
    rw [red_num u d hd, red_den u d hd] at e1
    exact k p H1 s1 hp e1
theorem ok_read_fraction (c : Cn) (T : Tx c) : Cl c 4 "read_fraction" s_read_fraction ["value", "part"] (sp_read c.K) := by
  obtain ⟨P, w, K, mg, base⟩ := c
  have C_is_fraction := ok_is_fraction _ T
  have C_is_integer := ok_is_integer _ T
  have C_reduced := ok_reduced _ T
  refine De.cl (N := ["value", "part", "up", "down"]) T.d_read_fraction sc_read_fraction (fun vs H Q E h => ?_) (fun f0 cdv A outer s H vs Q E hA hr h => ?_)
  · obtain ⟨q, v, part, r, n, rfl, _⟩ := h; rfl
  · have S := sc_read_fraction
    obtain ⟨q, v, part, r, n, rfl, hf, hn, k⟩ := h
    refine ⟨_, (pss_cons (ps_if (pt_not (pt_val (pe_f C_is_fraction hA hr (by decide) pl_is_fraction (by rfl) (pa_cons (pv 0) pa_nil)))) (pss_one ps_never) pss_nil)
      (pss_cons (ps_if (pt_val (pe_f C_is_integer hA hr (by decide) pl_is_integer (by rfl) (pa_cons (pv 0) pa_nil))) (pss_one (ps_ret (pe_f C_reduced hA hr (by decide) pl_reduced (by rfl) (pa_cons (pv 0) (pa_cons pe_int pa_nil))))) pss_nil)
      (pss_cons (ps_asg (pv 0) (pg_or (pg_tup rfl (pgs_cons (pg_name (i := 2) S.nd rfl (by first | exact .inl rfl | exact .inr rfl)) (pgs_cons (pg_name (i := 3) S.nd rfl (by first | exact .inl rfl | exact .inr rfl)) pgs_nil))) (pg_unl rfl (pgs_cons (pg_name (i := 2) S.nd rfl (by first | exact .inl rfl | exact .inr rfl)) (pgs_cons (pg_name (i := 3) S.nd rfl (by first | exact .inl rfl | exact .inr rfl)) pgs_nil)))))
      (pss_one (ps_ret (pe_f C_reduced hA hr (by decide) pl_reduced (by rfl) (pa_cons (pv 2) (pa_cons (pv 3) pa_nil)))))))), ?_⟩
    rcases hf.cases with ⟨i, rfl, hd, rfl, hb⟩ | ⟨a, d, x, y, rfl, na, hd, e1, e2, hs, hy, rfl, hbx, hby⟩
    · walk_at "mf"
      refine ⟨q, _, _, rfl, hd, ?_⟩
      walk_at "mf"
      refine g_iteF ?_
      walk_at "mf"
      refine ⟨q, _, _, rfl, hd, ?_⟩
      walk_at "mf"
      refine g_iteT ?_
      walk_at "mf"
      exact ⟨i, 1, rfl, by decide, Bt.mono (m := 1) (by show 1 < 2 ^ 1; decide) (by decide), k⟩
    · walk_at "mf"
      refine ⟨q, _, _, rfl, hd, ?_⟩
      rw [e2]
      walk_at "mf"
      refine ⟨q, _, _, rfl, hd, ?_⟩
      rw [e1]
      walk_at "mf"
      refine g_seqG hs rfl ?_
      walk_at "mf"
      exact ⟨x, y, rfl, hy, hby.mono hn, k⟩
theorem ok_fraction_of (c : Cn) (T : Tx c) : Cl c 5 "fraction_of" s_fraction_of ["value"] (sp_frof c.K) := by
  obtain ⟨P, w, K, mg, base⟩ := c
  have C_read_fraction := ok_read_fraction _ T
  refine De.cl (N := ["value"]) T.d_fraction_of sc_fraction_of (fun vs H Q E h => ?_) (fun f0 cdv A outer s H vs Q E hA hr h => ?_)
  · obtain ⟨q, v, r, n, rfl, _⟩ := h; rfl
  · have S := sc_fraction_of
    obtain ⟨q, v, r, n, rfl, hf, hn, k⟩ := h
    refine ⟨_, (pss_one (ps_ret (pe_f C_read_fraction hA hr (by decide) pl_read_fraction (by rfl) (pa_cons (pv 0) (pa_cons pe_str pa_nil))))), ?_⟩
    walk_at "mf"
    exact ⟨q, v, _, r, n, rfl, hf, hn, k⟩
theorem ok_added (c : Cn) (T : Tx c) : Cl c 5 "added" s_added ["one", "other"] (sp_bin (· + ·) c.K) := by
  obtain ⟨P, w, K, mg, base⟩ := c
  have C_read_fraction := ok_read_fraction _ T
  have C_reduced := ok_reduced _ T
  refine De.cl (N := ["one", "other", "up", "down", "more", "below"]) T.d_added sc_added (fun vs H Q E h => ?_) (fun f0 cdv A outer s H vs Q E hA hr h => ?_)
  · obtain ⟨q, v1, v2, r1, r2, m, n, rfl, _⟩ := h; rfl
  · have S := sc_added
    obtain ⟨q, v1, v2, r1, r2, m, n, rfl, h1, h2, hmn, k⟩ := h
    refine ⟨_, (pss_cons (ps_asg (pe_f C_read_fraction hA hr (by decide) pl_read_fraction (by rfl) (pa_cons (pv 0) (pa_cons pe_str pa_nil))) (pg_tup rfl (pgs_cons (pg_name (i := 2) S.nd rfl (by first | exact .inl rfl | exact .inr rfl)) (pgs_cons (pg_name (i := 3) S.nd rfl (by first | exact .inl rfl | exact .inr rfl)) pgs_nil))))
      (pss_cons (ps_asg (pe_f C_read_fraction hA hr (by decide) pl_read_fraction (by rfl) (pa_cons (pv 1) (pa_cons pe_str pa_nil))) (pg_tup rfl (pgs_cons (pg_name (i := 4) S.nd rfl (by first | exact .inl rfl | exact .inr rfl)) (pgs_cons (pg_name (i := 5) S.nd rfl (by first | exact .inl rfl | exact .inr rfl)) pgs_nil))))
      (pss_one (ps_ret (pe_f C_reduced hA hr (by decide) pl_reduced (by rfl) (pa_cons (pe_op op_addU (pe_op op_mulU (pv 2) (pv 5)) (pe_op op_mulU (pv 4) (pv 3))) (pa_cons (pe_op op_mulU (pv 3) (pv 5)) pa_nil))))))), ?_⟩
    walk_at "mf"
    refine ⟨q, v1, _, r1, m, rfl, h1, by omega, fun p1 H1 s1 n1 e1 => ?_⟩
    refine g_tupG (tupU e1) rfl ?_
    walk_at "mf"
    refine ⟨q, v2, _, r2, n, rfl, h2.go (Same.x s1), by omega, fun p2 H2 s2 n2 e2 => ?_⟩
    refine g_tupG (tupU e2) rfl ?_
    have b1 := h1.rb
    have b2 := h2.rb
    have c1 := b1.1.cm b2.2 (by omega)
    have c2 := b2.1.cm b1.2 (by omega)
    have c3 := b1.2.cm b2.2 (by omega)
    have c4 := b1.1.cm b2.1 (by omega)
    walk_at "mf"
    refine g_mulU c1 ?_
    walk_at "mf"
    refine g_mulU c2 ?_
    walk_at "mf"
    refine g_mulU c3 ?_
    walk_at "mf"
    refine ⟨_, _, rfl, dd1 r1 r2, (b1.2.mul b2.2).mono (by omega), ?_⟩
    rw [add_div]
    exact (RetT.same k s1).same s2
theorem ok_multiplied (c : Cn) (T : Tx c) : Cl c 5 "multiplied" s_multiplied ["one", "other"] (sp_bin (· * ·) c.K) := by
  obtain ⟨P, w, K, mg, base⟩ := c
  have C_read_fraction := ok_read_fraction _ T
  have C_reduced := ok_reduced _ T
  refine De.cl (N := ["one", "other", "up", "down", "times", "below"]) T.d_multiplied sc_multiplied (fun vs H Q E h => ?_) (fun f0 cdv A outer s H vs Q E hA hr h => ?_)
  · obtain ⟨q, v1, v2, r1, r2, m, n, rfl, _⟩ := h; rfl
  · have S := sc_multiplied
    obtain ⟨q, v1, v2, r1, r2, m, n, rfl, h1, h2, hmn, k⟩ := h
    refine ⟨_, (pss_cons (ps_asg (pe_f C_read_fraction hA hr (by decide) pl_read_fraction (by rfl) (pa_cons (pv 0) (pa_cons pe_str pa_nil))) (pg_tup rfl (pgs_cons (pg_name (i := 2) S.nd rfl (by first | exact .inl rfl | exact .inr rfl)) (pgs_cons (pg_name (i := 3) S.nd rfl (by first | exact .inl rfl | exact .inr rfl)) pgs_nil))))
      (pss_cons (ps_asg (pe_f C_read_fraction hA hr (by decide) pl_read_fraction (by rfl) (pa_cons (pv 1) (pa_cons pe_str pa_nil))) (pg_tup rfl (pgs_cons (pg_name (i := 4) S.nd rfl (by first | exact .inl rfl | exact .inr rfl)) (pgs_cons (pg_name (i := 5) S.nd rfl (by first | exact .inl rfl | exact .inr rfl)) pgs_nil))))
      (pss_one (ps_ret (pe_f C_reduced hA hr (by decide) pl_reduced (by rfl) (pa_cons (pe_op op_mulU (pv 2) (pv 4)) (pa_cons (pe_op op_mulU (pv 3) (pv 5)) pa_nil))))))), ?_⟩
    walk_at "mf"
    refine ⟨q, v1, _, r1, m, rfl, h1, by omega, fun p1 H1 s1 n1 e1 => ?_⟩
    refine g_tupG (tupU e1) rfl ?_
    walk_at "mf"
    refine ⟨q, v2, _, r2, n, rfl, h2.go (Same.x s1), by omega, fun p2 H2 s2 n2 e2 => ?_⟩
    refine g_tupG (tupU e2) rfl ?_
    have b1 := h1.rb
    have b2 := h2.rb
    have c1 := b1.1.cm b2.2 (by omega)
    have c2 := b2.1.cm b1.2 (by omega)
    have c3 := b1.2.cm b2.2 (by omega)
    have c4 := b1.1.cm b2.1 (by omega)
    walk_at "mf"
    refine g_mulU c4 ?_
    walk_at "mf"
    refine g_mulU c3 ?_
    walk_at "mf"
    refine ⟨_, _, rfl, dd1 r1 r2, (b1.2.mul b2.2).mono (by omega), ?_⟩
    rw [mul_div]
    exact (RetT.same k s1).same s2
end Mf
namespace Mf
open PySem PySem.Spec PyProof.Rows L2
local macro_rules | `(tactic| walk_at "mf1") => `(tactic| first
  | ((with_reducible apply g_var); exact rfl)
  | with_reducible first
    | refine g_c ?_ | refine g_op ?_ | refine g_un ?_ | refine g_cb ?_ | refine g_cl ?_ | refine g_clk ?_ | refine g_nil ?_ | refine g_cons ?_
    | refine g_tB ?_ | refine g_test ?_ | refine g_bl ?_ | refine g_and ?_ | refine g_or ?_ | refine g_not ?_ | refine g_andV ?_ | refine g_orV ?_ | refine g_notV ?_
    | refine g_if ?_ | refine g_ifS ?_ | refine g_seq ?_ | refine g_next ?_ | refine g_ret ?_ | refine g_drop ?_ | refine g_asg ?_ | refine g_name ?_ | refine g_sub ?_
    | refine g_int ?_ | refine g_intB ?_ | refine g_abs ?_ | refine g_I0 ?_ | refine g_addI ?_ | refine g_U ?_ | refine g_isNn ?_ | refine g_isNi ?_ | refine g_notN ?_ | refine g_notT1 ?_ | refine g_notT2 ?_ | refine g_notT3 ?_ | refine g_notT4 ?_ | refine g_notTb ?_ | refine g_notTi ?_ | refine g_eqI ?_ | refine g_neI ?_ | refine g_neSs ?_ | refine g_neS ?_ | refine g_eqS ?_
    | refine g_iteT ?_ | refine g_iteF ?_ | refine g_iteNT ?_ | refine g_iteNF ?_ | refine g_lst ?_ | refine g_tup ?_ | refine g_seqP ?_ | refine g_sl ?_ | refine g_noPart ?_ | refine g_part ?_ | refine g_yes ?_ | refine g_thenT ?_ | refine g_consG ?_ | refine g_nilG ?_ | refine g_ii ?_ | refine g_par ?_ | refine g_par3 ?_ | refine g_vv ?_ | refine g_vvv ?_ | refine g_reprB ?_ | refine g_lcL ?_ | refine g_lcR ?_
  | ((with_reducible refine g_mod ?_ ?_); (first | omega | decide))
  | ((with_reducible refine g_div ?_ ?_ ?_); (first | omega | decide); (first | assumption | decide))
  | ((with_reducible refine g_mulL ?_ ?_ ?_); (first | omega | decide); (first | omega | decide))
  | ((with_reducible refine g_mulR ?_ ?_ ?_); (first | omega | decide); (first | omega | decide))
  | ((with_reducible refine g_pow ?_ ?_ ?_ ?_); decide; decide; (first | omega | decide))
  | dsimp only)
local macro_rules | `(tactic| walk_at "mf1s") => `(tactic| first
  | ((with_reducible apply g_var); exact rfl)
  | with_reducible first
    | refine g_c ?_ | refine g_op ?_ | refine g_un ?_ | refine g_cb ?_ | refine g_cl ?_ | refine g_clk ?_ | refine g_nil ?_ | refine g_cons ?_
    | refine g_tB ?_ | refine g_test ?_ | refine g_bl ?_ | refine g_and ?_ | refine g_or ?_ | refine g_not ?_ | refine g_andV ?_ | refine g_orV ?_ | refine g_notV ?_
    | refine g_if ?_ | refine g_ifS ?_ | refine g_next ?_ | refine g_ret ?_ | refine g_drop ?_ | refine g_asg ?_ | refine g_name ?_ | refine g_sub ?_
    | refine g_int ?_ | refine g_intB ?_ | refine g_abs ?_ | refine g_I0 ?_ | refine g_addI ?_ | refine g_U ?_ | refine g_isNn ?_ | refine g_isNi ?_ | refine g_notN ?_ | refine g_notT1 ?_ | refine g_notT2 ?_ | refine g_notT3 ?_ | refine g_notT4 ?_ | refine g_notTb ?_ | refine g_notTi ?_ | refine g_eqI ?_ | refine g_neI ?_ | refine g_neSs ?_ | refine g_neS ?_ | refine g_eqS ?_
    | refine g_iteT ?_ | refine g_iteF ?_ | refine g_iteNT ?_ | refine g_iteNF ?_ | refine g_lst ?_ | refine g_tup ?_ | refine g_seqP ?_ | refine g_sl ?_ | refine g_noPart ?_ | refine g_part ?_ | refine g_yes ?_ | refine g_thenT ?_ | refine g_consG ?_ | refine g_nilG ?_ | refine g_ii ?_ | refine g_par ?_ | refine g_par3 ?_ | refine g_vv ?_ | refine g_vvv ?_ | refine g_reprB ?_ | refine g_lcL ?_ | refine g_lcR ?_
  | ((with_reducible refine g_mod ?_ ?_); (first | omega | decide))
  | ((with_reducible refine g_div ?_ ?_ ?_); (first | omega | decide); (first | assumption | decide))
  | ((with_reducible refine g_mulL ?_ ?_ ?_); (first | omega | decide); (first | omega | decide))
  | ((with_reducible refine g_mulR ?_ ?_ ?_); (first | omega | decide); (first | omega | decide))
  | ((with_reducible refine g_pow ?_ ?_ ?_ ?_); decide; decide; (first | omega | decide))
  | dsimp only)
local macro_rules | `(tactic| walk_at "mfs") => `(tactic| repeat walk_at "mf1s")
local macro_rules | `(tactic| walk_at "mf") => `(tactic| repeat walk_at "mf1")
local macro_rules | `(tactic| walk_at "ed") => `(tactic| repeat (first
  | with_reducible first
    | exact eds_nil | apply eds_cons | exact ed_int | exact ed_bl | exact ed_non | apply ed_neg
  | ((with_reducible apply ed_str); decide)
  | ((with_reducible apply ed_var); (exact rfl); (first | assumption | exact Dq.int _))
  | ((with_reducible apply ed_dict0); assumption)
  | ((with_reducible apply ed_dict2); assumption)
  | ((with_reducible apply ed_tup); assumption)
  | ((with_reducible apply ed_lst); assumption)
  | (with_reducible apply ed_pow)
  | (with_reducible apply ed_mul)
  | assumption
  | (exact Dq.int _)
  | (exact ⟨by decide, by decide, by decide⟩)
  | (show List.length _ ≤ 1000; simp only [List.length_cons, List.length_nil]; decide)))
theorem ok__law_low (c : Cn) (T : Tx c) : Cl c 1 "_law_low" s__law_low ["up", "down"] (sp_low c.K) := by
  obtain ⟨P, w, K, mg, base⟩ := c
  refine De.cl (N := ["up", "down", "one", "other", "part"]) T.d__law_low sc__law_low (fun vs H Q E h => ?_) (fun f0 cdv A outer s H vs Q E hA hr h => ?_)
  · obtain ⟨u, d, rfl, _⟩ := h; rfl
  · have S := sc__law_low
    obtain ⟨u, d, rfl, hd, hb, k⟩ := h
    refine ⟨_, (pss_cons (ps_par (i := 2) (j := 3) (by rfl) S.nd rfl rfl (by decide) rfl rfl (pa_cons (pe_callB call_absU (by rfl) T.n_abs (show bootBuiltins "abs" = some (.builtin "abs") by decide +kernel) (pa_cons (pv 0) pa_nil)) (pa_cons (pe_callB call_absU (by rfl) T.n_abs (show bootBuiltins "abs" = some (.builtin "abs") by decide +kernel) (pa_cons (pv 1) pa_nil)) pa_nil)) (by rfl))
      (pss_cons (ps_while PassesOwn.never (pt_cmpR op_gt (pv 3) pe_int (nomark _)) (pss_one (ps_par (i := 2) (j := 3) (by rfl) S.nd rfl rfl (by decide) rfl rfl (pa_cons (pv 3) (pa_cons (pe_op op_mod (pe_callTy call_intU (by rfl) T.n_int PyProof.Rows.boot_int (pa_cons (pv 2) pa_nil)) (pv 3)) pa_nil)) (by rfl))))
      (pss_cons (ps_set (i := 4) S.nd rfl (by first | exact .inl rfl | exact .inr rfl) (pe_ifExp (pt_cmpR op_gt (pv 1) pe_int (nomark _)) (pv 2) (pe_un un_neg (pv 2))))
      (pss_one (ps_ret (pe_tup (pa_cons (pe_op op_fdivW (pv 0) (pv 4)) (pa_cons (pe_op op_fdivW (pv 1) (pv 4)) pa_nil)))))))), ?_⟩
    have hcpos : 0 < Nat.gcd u.natAbs d.natAbs := Nat.gcd_pos_of_pos_right u.natAbs (show 0 < d.natAbs by omega)
    have hlog0 : ((Nat.gcd u.natAbs d.natAbs : Nat) : Int).natAbs.log2 < 9000 := by
      refine Bt.log (n := 8000) ?_ (by decide)
      show ((Nat.gcd u.natAbs d.natAbs : Nat) : Int).natAbs < _
      rw [Int.natAbs_natCast]
      exact Nat.lt_of_le_of_lt (Nat.gcd_le_right _ (by omega)) hb
    walk_at "mf"
    refine ⟨fun m σ' H' => ∃ x y : Int, σ' = [some (.int u), some (.int d), some (.int x), some (.int y), none] ∧ 0 ≤ x ∧ 0 ≤ y ∧ Nat.gcd x.natAbs y.natAbs = Nat.gcd u.natAbs d.natAbs ∧ m = y.toNat ∧ H' = H,
      ⟨_, _, _, rfl, by split <;> omega, by split <;> omega, ?_, rfl, rfl⟩, ?_⟩
    · have e1 : (if u < 0 then -u else u).natAbs = u.natAbs := by split <;> omega
      have e2 : (if d < 0 then -d else d).natAbs = d.natAbs := by split <;> omega
      rw [e1, e2]
    · intro m σ' H' hW
      obtain ⟨x, y, rfl, x0, y0, hg, rfl, rfl⟩ := hW
      walk_at "mf"
      refine g_ite (fun h => ?_) (fun h => ?_)
      · have h := of_decide_eq_true h
        refine ⟨fun σ2 H2 => ∃ x' y' : Int, σ2 = [some (.int u), some (.int d), some (.int x'), some (.int y'), none] ∧ 0 ≤ x' ∧ 0 ≤ y' ∧ Nat.gcd x'.natAbs y'.natAbs = Nat.gcd u.natAbs d.natAbs ∧ y'.toNat < y.toNat ∧ H2 = H', ?_, ?_⟩
        · intro σ2 H2 hN
          obtain ⟨x', y', rfl, a1, a2, a3, a4, rfl⟩ := hN
          exact ⟨_, a4, x', y', rfl, a1, a2, a3, rfl, rfl⟩
        · walk_at "mf"
          have b1 := Int.emod_nonneg x (show y ≠ 0 by omega)
          have b2 := Int.emod_lt_of_pos x h
          have b3 : (x % y).toNat < y.toNat := by
            generalize x % y = z at b1 b2 ⊢
            omega
          refine ⟨y, x % y, rfl, y0, b1, ?_, b3, rfl⟩
          rw [show (x % y).natAbs = x.natAbs % y.natAbs by
            obtain ⟨a, rfl⟩ := Int.eq_ofNat_of_zero_le x0
            obtain ⟨b, rfl⟩ := Int.eq_ofNat_of_zero_le y0
            rw [← Int.natCast_emod]
            simp only [Int.natAbs_natCast]]
          rw [Nat.gcd_comm, ← Nat.gcd_rec, Nat.gcd_comm]
          exact hg
      · have h := of_decide_eq_false h
        have hy : y = 0 := by omega
        subst hy
        rw [show (0 : Int).natAbs = 0 from rfl, Nat.gcd_zero_right] at hg
        have hx : x = ((Nat.gcd u.natAbs d.natAbs : Nat) : Int) := by omega
        subst hx
        have hpos : 0 < ((Nat.gcd u.natAbs d.natAbs : Nat) : Int) := by omega
        walk_at "mf"
        rw [decide_eq_true (show 0 < d by omega)]
        refine g_iteT ?_
        walk_at "mf"
        refine g_newT (by show 2 ≤ sizeLine; decide) fun p H1 hp s1 e1 => ?_
        rw [red_num u d hd, red_den u d hd] at e1
        exact k p H1 s1 hp e1
theorem ok__law_plus (c : Cn) (T : Tx c) : Cl c 2 "_law_plus" s__law_plus ["one", "other"] (sp_lbin (· + ·) c.K) := by
  obtain ⟨P, w, K, mg, base⟩ := c
  have C__law_low := ok__law_low _ T
  refine De.cl (N := ["one", "other"]) T.d__law_plus sc__law_plus (fun vs H Q E h => ?_) (fun f0 cdv A outer s H vs Q E hA hr h => ?_)
  · obtain ⟨a, b, r, s, m, n, rfl, _⟩ := h; rfl
  · have S := sc__law_plus
    obtain ⟨a, b, r, s, m, n, rfl, ea, eb, br, bs, hmn, k⟩ := h
    refine ⟨_, (pss_one (ps_ret (pe_f C__law_low hA hr (by decide) pl__law_low (by rfl) (pa_cons (pe_op op_addU (pe_op op_mulU (pe_ix ix_seq (pv 0) pe_int (fun _ _ => rfl)) (pe_ix ix_seq (pv 1) pe_int (fun _ _ => rfl))) (pe_op op_mulU (pe_ix ix_seq (pv 1) pe_int (fun _ _ => rfl)) (pe_ix ix_seq (pv 0) pe_int (fun _ _ => rfl)))) (pa_cons (pe_op op_mulU (pe_ix ix_seq (pv 0) pe_int (fun _ _ => rfl)) (pe_ix ix_seq (pv 1) pe_int (fun _ _ => rfl))) pa_nil))))), ?_⟩
    walk_at "mf"
    refine g_ix (.inr (tupU ea)) (v := .int r.num) rfl ?_
    walk_at "mf"
    refine g_ix (.inr (tupU eb)) (v := .int s.den) rfl ?_
    walk_at "mf"
    refine g_mulU (br.1.cm bs.2 (by omega)) ?_
    walk_at "mf"
    refine g_ix (.inr (tupU eb)) (v := .int s.num) rfl ?_
    walk_at "mf"
    refine g_ix (.inr (tupU ea)) (v := .int r.den) rfl ?_
    walk_at "mf"
    refine g_mulU (bs.1.cm br.2 (by omega)) ?_
    walk_at "mf"
    refine g_ix (.inr (tupU ea)) (v := .int r.den) rfl ?_
    walk_at "mf"
    refine g_ix (.inr (tupU eb)) (v := .int s.den) rfl ?_
    walk_at "mf"
    refine g_mulU (br.2.cm bs.2 (by omega)) ?_
    walk_at "mf"
    refine ⟨_, _, rfl, dd1 r s, (br.2.mul bs.2).mono (by omega), ?_⟩
    rw [add_div]
    exact k
theorem ok__law_times (c : Cn) (T : Tx c) : Cl c 2 "_law_times" s__law_times ["one", "other"] (sp_lbin (· * ·) c.K) := by
  obtain ⟨P, w, K, mg, base⟩ := c
  have C__law_low := ok__law_low _ T
  refine De.cl (N := ["one", "other"]) T.d__law_times sc__law_times (fun vs H Q E h => ?_) (fun f0 cdv A outer s H vs Q E hA hr h => ?_)
  · obtain ⟨a, b, r, s, m, n, rfl, _⟩ := h; rfl
  · have S := sc__law_times
    obtain ⟨a, b, r, s, m, n, rfl, ea, eb, br, bs, hmn, k⟩ := h
    refine ⟨_, (pss_one (ps_ret (pe_f C__law_low hA hr (by decide) pl__law_low (by rfl) (pa_cons (pe_op op_mulU (pe_ix ix_seq (pv 0) pe_int (fun _ _ => rfl)) (pe_ix ix_seq (pv 1) pe_int (fun _ _ => rfl))) (pa_cons (pe_op op_mulU (pe_ix ix_seq (pv 0) pe_int (fun _ _ => rfl)) (pe_ix ix_seq (pv 1) pe_int (fun _ _ => rfl))) pa_nil))))), ?_⟩
    walk_at "mf"
    refine g_ix (.inr (tupU ea)) (v := .int r.num) rfl ?_
    walk_at "mf"
    refine g_ix (.inr (tupU eb)) (v := .int s.num) rfl ?_
    walk_at "mf"
    refine g_mulU (br.1.cm bs.1 (by omega)) ?_
    walk_at "mf"
    refine g_ix (.inr (tupU ea)) (v := .int r.den) rfl ?_
    walk_at "mf"
    refine g_ix (.inr (tupU eb)) (v := .int s.den) rfl ?_
    walk_at "mf"
    refine g_mulU (br.2.cm bs.2 (by omega)) ?_
    walk_at "mf"
    refine ⟨_, _, rfl, dd1 r s, (br.2.mul bs.2).mono (by omega), ?_⟩
    rw [mul_div]
    exact k
end Mf
namespace Mf
open PySem PySem.Spec PyProof.Rows L2
local macro_rules | `(tactic| walk_at "mf1") => `(tactic| first
  | ((with_reducible apply g_var); exact rfl)
  | with_reducible first
    | refine g_c ?_ | refine g_op ?_ | refine g_un ?_ | refine g_cb ?_ | refine g_cl ?_ | refine g_clk ?_ | refine g_nil ?_ | refine g_cons ?_
    | refine g_tB ?_ | refine g_test ?_ | refine g_bl ?_ | refine g_and ?_ | refine g_or ?_ | refine g_not ?_ | refine g_andV ?_ | refine g_orV ?_ | refine g_notV ?_
    | refine g_if ?_ | refine g_ifS ?_ | refine g_seq ?_ | refine g_next ?_ | refine g_ret ?_ | refine g_drop ?_ | refine g_asg ?_ | refine g_name ?_ | refine g_sub ?_
    | refine g_int ?_ | refine g_intB ?_ | refine g_abs ?_ | refine g_I0 ?_ | refine g_addI ?_ | refine g_U ?_ | refine g_isNn ?_ | refine g_isNi ?_ | refine g_notN ?_ | refine g_notT1 ?_ | refine g_notT2 ?_ | refine g_notT3 ?_ | refine g_notT4 ?_ | refine g_notTb ?_ | refine g_notTi ?_ | refine g_eqI ?_ | refine g_neI ?_ | refine g_neSs ?_ | refine g_neS ?_ | refine g_eqS ?_
    | refine g_iteT ?_ | refine g_iteF ?_ | refine g_iteNT ?_ | refine g_iteNF ?_ | refine g_lst ?_ | refine g_tup ?_ | refine g_seqP ?_ | refine g_sl ?_ | refine g_noPart ?_ | refine g_part ?_ | refine g_yes ?_ | refine g_thenT ?_ | refine g_consG ?_ | refine g_nilG ?_ | refine g_ii ?_ | refine g_par ?_ | refine g_par3 ?_ | refine g_vv ?_ | refine g_vvv ?_ | refine g_reprB ?_ | refine g_lcL ?_ | refine g_lcR ?_
  | ((with_reducible refine g_mod ?_ ?_); (first | omega | decide))
  | ((with_reducible refine g_div ?_ ?_ ?_); (first | omega | decide); (first | assumption | decide))
  | ((with_reducible refine g_mulL ?_ ?_ ?_); (first | omega | decide); (first | omega | decide))
  | ((with_reducible refine g_mulR ?_ ?_ ?_); (first | omega | decide); (first | omega | decide))
  | ((with_reducible refine g_pow ?_ ?_ ?_ ?_); decide; decide; (first | omega | decide))
  | dsimp only)
local macro_rules | `(tactic| walk_at "mf1s") => `(tactic| first
  | ((with_reducible apply g_var); exact rfl)
  | with_reducible first
    | refine g_c ?_ | refine g_op ?_ | refine g_un ?_ | refine g_cb ?_ | refine g_cl ?_ | refine g_clk ?_ | refine g_nil ?_ | refine g_cons ?_
    | refine g_tB ?_ | refine g_test ?_ | refine g_bl ?_ | refine g_and ?_ | refine g_or ?_ | refine g_not ?_ | refine g_andV ?_ | refine g_orV ?_ | refine g_notV ?_
    | refine g_if ?_ | refine g_ifS ?_ | refine g_next ?_ | refine g_ret ?_ | refine g_drop ?_ | refine g_asg ?_ | refine g_name ?_ | refine g_sub ?_
    | refine g_int ?_ | refine g_intB ?_ | refine g_abs ?_ | refine g_I0 ?_ | refine g_addI ?_ | refine g_U ?_ | refine g_isNn ?_ | refine g_isNi ?_ | refine g_notN ?_ | refine g_notT1 ?_ | refine g_notT2 ?_ | refine g_notT3 ?_ | refine g_notT4 ?_ | refine g_notTb ?_ | refine g_notTi ?_ | refine g_eqI ?_ | refine g_neI ?_ | refine g_neSs ?_ | refine g_neS ?_ | refine g_eqS ?_
    | refine g_iteT ?_ | refine g_iteF ?_ | refine g_iteNT ?_ | refine g_iteNF ?_ | refine g_lst ?_ | refine g_tup ?_ | refine g_seqP ?_ | refine g_sl ?_ | refine g_noPart ?_ | refine g_part ?_ | refine g_yes ?_ | refine g_thenT ?_ | refine g_consG ?_ | refine g_nilG ?_ | refine g_ii ?_ | refine g_par ?_ | refine g_par3 ?_ | refine g_vv ?_ | refine g_vvv ?_ | refine g_reprB ?_ | refine g_lcL ?_ | refine g_lcR ?_
  | ((with_reducible refine g_mod ?_ ?_); (first | omega | decide))
  | ((with_reducible refine g_div ?_ ?_ ?_); (first | omega | decide); (first | assumption | decide))
  | ((with_reducible refine g_mulL ?_ ?_ ?_); (first | omega | decide); (first | omega | decide))
  | ((with_reducible refine g_mulR ?_ ?_ ?_); (first | omega | decide); (first | omega | decide))
  | ((with_reducible refine g_pow ?_ ?_ ?_ ?_); decide; decide; (first | omega | decide))
  | dsimp only)
local macro_rules | `(tactic| walk_at "mfs") => `(tactic| repeat walk_at "mf1s")
local macro_rules | `(tactic| walk_at "mf") => `(tactic| repeat walk_at "mf1")
local macro_rules | `(tactic| walk_at "ed") => `(tactic| repeat (first
  | with_reducible first
    | exact eds_nil | apply eds_cons | exact ed_int | exact ed_bl | exact ed_non | apply ed_neg
  | ((with_reducible apply ed_str); decide)
  | ((with_reducible apply ed_var); (exact rfl); (first | assumption | exact Dq.int _))
  | ((with_reducible apply ed_dict0); assumption)
  | ((with_reducible apply ed_dict2); assumption)
  | ((with_reducible apply ed_tup); assumption)
  | ((with_reducible apply ed_lst); assumption)
  | (with_reducible apply ed_pow)
  | (with_reducible apply ed_mul)
  | assumption
  | (exact Dq.int _)
  | (exact ⟨by decide, by decide, by decide⟩)
  | (show List.length _ ≤ 1000; simp only [List.length_cons, List.length_nil]; decide)))
theorem ok__law_fraction (c : Cn) (T : Tx c) : Cl c 3 "_law_fraction" s__law_fraction ["abbot"] (sp_lrat c.K) := by
  obtain ⟨P, w, K, mg, base⟩ := c
  have C__law_bead := ok__law_bead _ T
  have C__law_low := ok__law_low _ T
  have C__law_pick := ok__law_pick _ T
  refine De.cl (N := ["abbot", "up", "down"]) T.d__law_fraction sc__law_fraction (fun vs H Q E h => ?_) (fun f0 cdv A outer s H vs Q E hA hr h => ?_)
  · obtain ⟨q, t, rfl, _⟩ := h; rfl
  · have S := sc__law_fraction
    obtain ⟨q, t, rfl, hq, ht, k⟩ := h
    refine ⟨_, (pss_cons (ps_par (i := 1) (j := 2) (by rfl) S.nd rfl rfl (by decide) rfl rfl (pa_cons (pe_f C__law_pick hA hr (by decide) pl__law_pick (by rfl) (pa_cons (pv 0) (pa_cons (pe_lst (pa_cons pe_int (pa_cons pe_int (pa_cons (pe_un un_neg pe_int) (pa_cons pe_int (pa_cons (pe_un un_neg pe_int) (pa_cons (pe_op op_sub (pe_f C__law_bead hA hr (by decide) pl__law_bead (by rfl) (pa_cons (pv 0) (pa_cons pe_int pa_nil))) pe_int) (pa_cons (pe_op op_sub (pe_f C__law_bead hA hr (by decide) pl__law_bead (by rfl) (pa_cons (pv 0) (pa_cons pe_int pa_nil))) pe_int) pa_nil)))))))) pa_nil))) (pa_cons (pe_f C__law_pick hA hr (by decide) pl__law_pick (by rfl) (pa_cons (pv 0) (pa_cons (pe_lst (pa_cons pe_int (pa_cons pe_int (pa_cons pe_int (pa_cons pe_int (pa_cons (pe_op op_addU pe_int (pe_f C__law_bead hA hr (by decide) pl__law_bead (by rfl) (pa_cons (pv 0) (pa_cons pe_int pa_nil)))) (pa_cons pe_int pa_nil))))))) pa_nil))) pa_nil)) (by rfl))
      (pss_one (ps_ret (pe_f C__law_low hA hr (by decide) pl__law_low (by rfl) (pa_cons (pv 1) (pa_cons (pv 2) pa_nil)))))), ?_⟩
    walk_at "mf"
    refine ⟨q, t, _, rfl, hq, by omega, by decide, by decide, fun t1 H1 i sx1 hq1 l1 u1 i0 i1 => ?_⟩
    walk_at "mf"
    refine ⟨q, t1, _, rfl, hq1, by omega, by decide, by decide, fun t2 H2 j sx2 hq2 l2 u2 j0 j1 => ?_⟩
    walk_at "mf"
    refine g_newL (by show 7 ≤ sizeLine; decide) fun p3 H3 hp3 s3 e3 => ?_
    walk_at "mf"
    refine ⟨q, p3, t2, _, rfl, hq2.same s3, by omega, hq2.ne hp3, .inl (seqU e3), by simp, by simp only [List.length_cons, List.length_nil]; decide, fun t4 H4 z sx4 hq4 l4 u4 m4 => ?_⟩
    obtain ⟨U, rfl, hU⟩ : ∃ y : Int, z = .int y ∧ Bt 11 y := by
      simp only [List.mem_cons, List.not_mem_nil, or_false] at m4
      rcases m4 with rfl | rfl | rfl | rfl | rfl | rfl | rfl <;> refine ⟨_, rfl, ?_⟩
      · show (0 : Int).natAbs < 2 ^ 11; decide
      · show (1 : Int).natAbs < 2 ^ 11; decide
      · show (-1 : Int).natAbs < 2 ^ 11; decide
      · show (2 : Int).natAbs < 2 ^ 11; decide
      · show (-3 : Int).natAbs < 2 ^ 11; decide
      · show (i - 20).natAbs < 2 ^ 11; omega
      · show (j - 2000).natAbs < 2 ^ 11; omega
    walk_at "mf"
    refine ⟨q, t4, _, rfl, hq4, by omega, by decide, by decide, fun t5 H5 l sx5 hq5 l5 u5 k0 k1 => ?_⟩
    walk_at "mf"
    refine g_newL (by show 6 ≤ sizeLine; decide) fun p6 H6 hp6 s6 e6 => ?_
    walk_at "mf"
    refine ⟨q, p6, t5, _, rfl, hq5.same s6, by omega, hq5.ne hp6, .inl (seqU e6), by simp, by simp only [List.length_cons, List.length_nil]; decide, fun t7 H7 z sx7 hq7 l7 u7 m7 => ?_⟩
    obtain ⟨D, rfl, hD, hD1⟩ : ∃ y : Int, z = .int y ∧ Bt 11 y ∧ 1 ≤ y := by
      simp only [List.mem_cons, List.not_mem_nil, or_false] at m7
      rcases m7 with rfl | rfl | rfl | rfl | rfl | rfl <;> refine ⟨_, rfl, ?_, ?_⟩
      · show (1 : Int).natAbs < 2 ^ 11; decide
      · decide
      · show (1 : Int).natAbs < 2 ^ 11; decide
      · decide
      · show (2 : Int).natAbs < 2 ^ 11; decide
      · decide
      · show (3 : Int).natAbs < 2 ^ 11; decide
      · decide
      · show (1 + l).natAbs < 2 ^ 11; omega
      · omega
      · show (720 : Int).natAbs < 2 ^ 11; decide
      · decide
    have sx : SameX q H H7 := ((((sx1.trans sx2).trans (Same.x s3)).trans sx4).trans (sx5.trans (Same.x s6))).trans sx7
    walk_at "mf"
    refine ⟨U, D, rfl, hD1, hD.mono (by decide), fun p H' s n e => ?_⟩
    have np : H p = none := by
      cases z : H p with
      | none => rfl
      | some o => exact absurd (show H p ≠ none by rw [z]; exact Option.some_ne_none _) (fresh_x sx hq7.at n)
    exact k t7 H' p _ (sx.trans (Same.x s)) (hq7.same s) (by omega) (by omega) np e ((Rb.of hD1 hU hD).mono (by decide))
theorem ok__law_as (c : Cn) (T : Tx c) : Cl c 3 "_law_as" s__law_as ["abbot", "number"] (sp_las c.K) := by
  obtain ⟨P, w, K, mg, base⟩ := c
  have C__law_bead := ok__law_bead _ T
  have C__law_pick := ok__law_pick _ T
  refine De.cl (N := ["abbot", "number", "by"]) T.d__law_as sc__law_as (fun vs H Q E h => ?_) (fun f0 cdv A outer s H vs Q E hA hr h => ?_)
  · obtain ⟨q, p, t, r, rfl, _⟩ := h; rfl
  · have S := sc__law_as
    obtain ⟨q, p, t, r, rfl, hq, ht, ep, br, k⟩ := h
    refine ⟨_, (pss_cons (ps_set (i := 2) S.nd rfl (by first | exact .inl rfl | exact .inr rfl) (pe_op op_addU pe_int (pe_f C__law_bead hA hr (by decide) pl__law_bead (by rfl) (pa_cons (pv 0) (pa_cons pe_int pa_nil)))))
      (pss_one (ps_ret (pe_f C__law_pick hA hr (by decide) pl__law_pick (by rfl) (pa_cons (pv 0) (pa_cons (pe_op op_addU (pe_lst (pa_cons (pv 1) (pa_cons (pe_lst (pa_cons (pe_op op_mulU (pe_ix ix_seq (pv 1) pe_int (fun _ _ => rfl)) (pv 2)) (pa_cons (pe_op op_mulU (pe_ix ix_seq (pv 1) pe_int (fun _ _ => rfl)) (pv 2)) pa_nil))) (pa_cons (pe_tup (pa_cons (pe_op op_mulU (pe_ix ix_seq (pv 1) pe_int (fun _ _ => rfl)) (pv 2)) (pa_cons (pe_op op_mulU (pe_ix ix_seq (pv 1) pe_int (fun _ _ => rfl)) (pv 2)) pa_nil))) pa_nil)))) (pe_op op_mulU (pe_lst (pa_cons (pe_ix ix_seq (pv 1) pe_int (fun _ _ => rfl)) pa_nil)) (pe_callTy call_intU (by rfl) T.n_int PyProof.Rows.boot_int (pa_cons (pe_cmpR (op_eqU hr.units) (pe_ix ix_seq (pv 1) pe_int (fun _ _ => rfl)) pe_int (nomark _)) pa_nil)))) pa_nil)))))), ?_⟩
    have npq : p ≠ q := fun z => by
      obtain ⟨c, ns, w, h1, _⟩ := hq
      rw [z, h1] at ep
      cases ep
    walk_at "mf"
    refine ⟨q, t, _, rfl, hq, by omega, by decide, by decide, fun t1 H1 i sx1 hq1 l1 u1 i0 i1 => ?_⟩
    have ep1 := sx1 _ _ npq ep
    have bb : Bt 3 (1 + i) := by show (1 + i).natAbs < 2 ^ 3; omega
    have b1 : Bt 103 (r.num * (1 + i)) := br.1.mul bb
    have b2 : Bt 103 ((r.den : Int) * (1 + i)) := br.2.mul bb
    have d2 : 1 ≤ (r.den : Int) * (1 + i) := mul_ge1 (den1 r) (by omega)
    have c1 := br.1.cm bb (by decide)
    have c2 := br.2.cm bb (by decide)
    walk_at "mf"
    refine g_ix (.inr (tupU ep1)) (v := .int r.num) rfl ?_
    walk_at "mf"
    refine g_ix (.inr (tupU ep1)) (v := .int r.den) rfl ?_
    walk_at "mf"
    refine g_newL (by show 2 ≤ sizeLine; decide) fun pa Ha na sa ea => ?_
    have epa := sa _ _ ep1
    walk_at "mf"
    refine g_ix (.inr (tupU epa)) (v := .int r.num) rfl ?_
    walk_at "mf"
    refine g_ix (.inr (tupU epa)) (v := .int r.den) rfl ?_
    walk_at "mf"
    refine g_newT (by show 2 ≤ sizeLine; decide) fun pb Hb nb sb eb => ?_
    walk_at "mf"
    refine g_newL (by show 3 ≤ sizeLine; decide) fun pc Hc nc sc ec => ?_
    have epc := sc _ _ (sb _ _ epa)
    walk_at "mf"
    refine g_ix (.inr (tupU epc)) (v := .int r.num) rfl ?_
    walk_at "mf"
    refine g_newL (by show 1 ≤ sizeLine; decide) fun pd Hd nd sd ed => ?_
    walk_at "mf"
    refine g_ix (.inr (tupU (sd _ _ epc))) (v := .int r.den) rfl ?_
    walk_at "mf"
    refine g_rep ed (by split <;> decide) (by split <;> decide) (by show 1 * _ ≤ sizeLine; split <;> decide) fun pe He ne se ee => ?_
    walk_at "mf"
    refine g_cat (se _ _ (sd _ _ ec)) ee ?_ fun pf Hf nf sf ef => ?_
    · show 3 + _ ≤ sizeLine
      by_cases z : (r.den : Int) = 1
      · rw [decide_eq_true z]
        show 4 ≤ sizeLine
        decide
      · rw [decide_eq_false z]
        show 3 ≤ sizeLine
        decide
    walk_at "mf"
    have sA : Same H1 Hf := ((((sa.trans sb).trans sc).trans sd).trans se).trans sf
    have hqf := hq1.same sA
    have nq : pf ≠ q := (hq1.same ((((sa.trans sb).trans sc).trans sd).trans se)).ne nf
    refine ⟨q, pf, t1, _, rfl, hqf, by omega, nq, .inl (seqU ef), by simp, ?_, fun t7 H7 x sx7 hq7 l7 u7 mx => ?_⟩
    · by_cases z : (r.den : Int) = 1
      · rw [decide_eq_true z]
        show 4 ≤ 1000
        decide
      · rw [decide_eq_false z]
        show 3 ≤ 1000
        decide
    have fin : SameX q H H7 := (sx1.trans (Same.x sA)).trans sx7
    have kk : ∀ x' y', Fz (isL H) H7 x x' y' → 1 ≤ y' → Rat.divInt x' y' = r → Bt 140 x' → Bt 140 y' → Q x H7 := fun x' y' => k t7 H7 x x' y' fin hq7 (by omega) (by omega)
    have nlf : ∀ {a : Addr}, H a = none → ¬ isL H a := fun h z => by
      obtain ⟨acc, z⟩ := z
      rw [h] at z
      cases z
    have n0 : ∀ {a : Addr} {Hz : Hp}, SameX q H Hz → (∃ o, Hz q = some o) → Hz a = none → H a = none := fun {a Hz} s hz n => by
      cases z : H a with
      | none => rfl
      | some o => exact absurd (show H a ≠ none by rw [z]; exact Option.some_ne_none _) (fresh_x s hz n)
    have er : Rat.divInt (r.num * (1 + i)) ((r.den : Int) * (1 + i)) = r := by
      rw [Rat.divInt_mul_right (by omega), Rat.num_divInt_den]
    have mx' : (x = .ref p ∨ x = .ref pa ∨ x = .ref pb) ∨ (x = .int r.num ∧ (r.den : Int) = 1) := by
      rcases List.mem_append.mp mx with mx | mx
      · simp only [List.mem_cons, List.not_mem_nil, or_false] at mx
        exact .inl mx
      · by_cases z : (r.den : Int) = 1
        · rw [decide_eq_true z] at mx
          have mx : x ∈ [V.int r.num] := mx
          exact .inr ⟨List.mem_singleton.mp mx, z⟩
        · rw [decide_eq_false z] at mx
          have mx : x ∈ ([] : List V) := mx
          exact absurd mx List.not_mem_nil
    rcases mx' with (rfl | rfl | rfl) | ⟨rfl, z⟩
    · refine kk r.num r.den (.inr ⟨p, rfl, fun z => ?_, .inl (fin _ _ npq ep)⟩) (den1 r) (Rat.num_divInt_den r) (br.1.mono (by decide)) (br.2.mono (by decide))
      obtain ⟨acc, z⟩ := z
      rw [ep] at z
      cases z
    · have n1 := n0 sx1 hq1.at na
      exact kk _ _ (.inr ⟨pa, rfl, nlf n1, .inr (sx7 _ _ (hq1.ne na) (sf _ _ (se _ _ (sd _ _ (sc _ _ (sb _ _ ea))))))⟩) d2 er (b1.mono (by decide)) (b2.mono (by decide))
    · have n1 := n0 (sx1.trans (Same.x sa)) (hq1.same sa).at nb
      exact kk _ _ (.inr ⟨pb, rfl, nlf n1, .inl (sx7 _ _ ((hq1.same sa).ne nb) (sf _ _ (se _ _ (sd _ _ (sc _ _ eb)))))⟩) d2 er (b1.mono (by decide)) (b2.mono (by decide))
    · refine kk r.num 1 (.inl ⟨rfl, rfl⟩) (by decide) ?_ (br.1.mono (by decide)) (by show (1 : Int).natAbs < 2 ^ 140; decide)
      have := Rat.num_divInt_den r
      rw [z] at this
      exact this
end Mf
namespace Mf
open PySem PySem.Spec PyProof.Rows L2
local macro_rules | `(tactic| walk_at "mf1") => `(tactic| first
  | ((with_reducible apply g_var); exact rfl)
  | with_reducible first
    | refine g_c ?_ | refine g_op ?_ | refine g_un ?_ | refine g_cb ?_ | refine g_cl ?_ | refine g_clk ?_ | refine g_nil ?_ | refine g_cons ?_
    | refine g_tB ?_ | refine g_test ?_ | refine g_bl ?_ | refine g_and ?_ | refine g_or ?_ | refine g_not ?_ | refine g_andV ?_ | refine g_orV ?_ | refine g_notV ?_
    | refine g_if ?_ | refine g_ifS ?_ | refine g_seq ?_ | refine g_next ?_ | refine g_ret ?_ | refine g_drop ?_ | refine g_asg ?_ | refine g_name ?_ | refine g_sub ?_
    | refine g_int ?_ | refine g_intB ?_ | refine g_abs ?_ | refine g_I0 ?_ | refine g_addI ?_ | refine g_U ?_ | refine g_isNn ?_ | refine g_isNi ?_ | refine g_notN ?_ | refine g_notT1 ?_ | refine g_notT2 ?_ | refine g_notT3 ?_ | refine g_notT4 ?_ | refine g_notTb ?_ | refine g_notTi ?_ | refine g_eqI ?_ | refine g_neI ?_ | refine g_neSs ?_ | refine g_neS ?_ | refine g_eqS ?_
    | refine g_iteT ?_ | refine g_iteF ?_ | refine g_iteNT ?_ | refine g_iteNF ?_ | refine g_lst ?_ | refine g_tup ?_ | refine g_seqP ?_ | refine g_sl ?_ | refine g_noPart ?_ | refine g_part ?_ | refine g_yes ?_ | refine g_thenT ?_ | refine g_consG ?_ | refine g_nilG ?_ | refine g_ii ?_ | refine g_par ?_ | refine g_par3 ?_ | refine g_vv ?_ | refine g_vvv ?_ | refine g_reprB ?_ | refine g_lcL ?_ | refine g_lcR ?_
  | ((with_reducible refine g_mod ?_ ?_); (first | omega | decide))
  | ((with_reducible refine g_div ?_ ?_ ?_); (first | omega | decide); (first | assumption | decide))
  | ((with_reducible refine g_mulL ?_ ?_ ?_); (first | omega | decide); (first | omega | decide))
  | ((with_reducible refine g_mulR ?_ ?_ ?_); (first | omega | decide); (first | omega | decide))
  | ((with_reducible refine g_pow ?_ ?_ ?_ ?_); decide; decide; (first | omega | decide))
  | dsimp only)
local macro_rules | `(tactic| walk_at "mf1s") => `(tactic| first
  | ((with_reducible apply g_var); exact rfl)
  | with_reducible first
    | refine g_c ?_ | refine g_op ?_ | refine g_un ?_ | refine g_cb ?_ | refine g_cl ?_ | refine g_clk ?_ | refine g_nil ?_ | refine g_cons ?_
    | refine g_tB ?_ | refine g_test ?_ | refine g_bl ?_ | refine g_and ?_ | refine g_or ?_ | refine g_not ?_ | refine g_andV ?_ | refine g_orV ?_ | refine g_notV ?_
    | refine g_if ?_ | refine g_ifS ?_ | refine g_next ?_ | refine g_ret ?_ | refine g_drop ?_ | refine g_asg ?_ | refine g_name ?_ | refine g_sub ?_
    | refine g_int ?_ | refine g_intB ?_ | refine g_abs ?_ | refine g_I0 ?_ | refine g_addI ?_ | refine g_U ?_ | refine g_isNn ?_ | refine g_isNi ?_ | refine g_notN ?_ | refine g_notT1 ?_ | refine g_notT2 ?_ | refine g_notT3 ?_ | refine g_notT4 ?_ | refine g_notTb ?_ | refine g_notTi ?_ | refine g_eqI ?_ | refine g_neI ?_ | refine g_neSs ?_ | refine g_neS ?_ | refine g_eqS ?_
    | refine g_iteT ?_ | refine g_iteF ?_ | refine g_iteNT ?_ | refine g_iteNF ?_ | refine g_lst ?_ | refine g_tup ?_ | refine g_seqP ?_ | refine g_sl ?_ | refine g_noPart ?_ | refine g_part ?_ | refine g_yes ?_ | refine g_thenT ?_ | refine g_consG ?_ | refine g_nilG ?_ | refine g_ii ?_ | refine g_par ?_ | refine g_par3 ?_ | refine g_vv ?_ | refine g_vvv ?_ | refine g_reprB ?_ | refine g_lcL ?_ | refine g_lcR ?_
  | ((with_reducible refine g_mod ?_ ?_); (first | omega | decide))
  | ((with_reducible refine g_div ?_ ?_ ?_); (first | omega | decide); (first | assumption | decide))
  | ((with_reducible refine g_mulL ?_ ?_ ?_); (first | omega | decide); (first | omega | decide))
  | ((with_reducible refine g_mulR ?_ ?_ ?_); (first | omega | decide); (first | omega | decide))
  | ((with_reducible refine g_pow ?_ ?_ ?_ ?_); decide; decide; (first | omega | decide))
  | dsimp only)
local macro_rules | `(tactic| walk_at "mfs") => `(tactic| repeat walk_at "mf1s")
local macro_rules | `(tactic| walk_at "mf") => `(tactic| repeat walk_at "mf1")
local macro_rules | `(tactic| walk_at "ed") => `(tactic| repeat (first
  | with_reducible first
    | exact eds_nil | apply eds_cons | exact ed_int | exact ed_bl | exact ed_non | apply ed_neg
  | ((with_reducible apply ed_str); decide)
  | ((with_reducible apply ed_var); (exact rfl); (first | assumption | exact Dq.int _))
  | ((with_reducible apply ed_dict0); assumption)
  | ((with_reducible apply ed_dict2); assumption)
  | ((with_reducible apply ed_tup); assumption)
  | ((with_reducible apply ed_lst); assumption)
  | (with_reducible apply ed_pow)
  | (with_reducible apply ed_mul)
  | assumption
  | (exact Dq.int _)
  | (exact ⟨by decide, by decide, by decide⟩)
  | (show List.length _ ≤ 1000; simp only [List.length_cons, List.length_nil]; decide)))
theorem ok_trimmed (c : Cn) (T : Tx c) : Cl c 1 "trimmed" s_trimmed ["numbers"] (sp_trim c.K) := by
  obtain ⟨P, w, K, mg, base⟩ := c
  refine De.cl (N := ["numbers", "length"]) T.d_trimmed sc_trimmed (fun vs H Q E h => ?_) (fun f0 cdv A outer s H vs Q E hA hr h => ?_)
  · obtain ⟨a, xs, rs, rfl, _⟩ := h; rfl
  · have S := sc_trimmed
    obtain ⟨a, xs, rs, rfl, hS, hT, hl, k⟩ := h
    refine ⟨_, (pss_cons (ps_set (i := 1) S.nd rfl (by first | exact .inl rfl | exact .inr rfl) (pe_callB call_lenU (by rfl) T.n_len PySem.boot_len (pa_cons (pv 0) pa_nil)))
      (pss_cons (ps_while PassesOwn.never (PW.pt (pw_and (pt_cmpR op_gt (pv 1) pe_int (nomark _)) (pw_and1 (pt_cmpR (op_eqU hr.units) (pe_ix ix_seq (pv 0) (pe_op op_sub (pv 1) pe_int) (fun _ _ => rfl)) (pe_tup (pa_cons pe_int (pa_cons pe_int pa_nil))) (nomark _))))) (pss_one (ps_aug (i := 1) S.nd rfl (by first | exact .inl rfl | exact .inr rfl) pe_int ip_sub)))
      (pss_one (ps_ret (pe_tupleOf (by rfl) T.n_tuple (pe_slice sl_list (pv 0) po_none (po_some (pv 1)))))))), ?_⟩
    have hlen := hT.len
    walk_at "mf"
    refine g_len (.inl hS) ?_
    walk_at "mf"
    refine ⟨fun m σ' H' => ∃ n : Nat, σ' = [some (.ref a), some (.int (n : Nat))] ∧ n ≤ rs.length ∧ tlen rs n = tlen rs rs.length ∧ m = n ∧ Same H H', ⟨xs.length, xs.length, rfl, by omega, by rw [hlen], rfl, Same.refl _⟩, ?_⟩
    intro m σ' H' hW
    obtain ⟨n, rfl, hn, htl, rfl, sW⟩ := hW
    have last : ∀ H2, Same H H2 → tlen rs m = m → ∀ p H3, H2 p = none → Same H2 H3 → H3 p = some (.tup (xs.take m)) → Q (.ref p) H3 := fun H2 s2 e p H3 np s3 e3 => by
      refine k p H3 _ (s2.trans s3) (s2.free np) e3 ?_
      unfold trimR
      rw [← htl, e]
      exact (hT.go (Same.kt (s2.trans s3))).take m
    walk_at "mf"
    refine g_ite (fun h => ?_) (fun h => ?_)
    · have h := of_decide_eq_true h
      obtain ⟨n, rfl⟩ : ∃ n, m = n + 1 := ⟨m - 1, by omega⟩
      obtain ⟨pa, hx, ea⟩ := hT.at (i := n) (by omega)
      walk_at "mf"
      refine g_ix (.inl (sW.seq hS)) (at_of (j := n) (by omega) hx) ?_
      walk_at "mf"
      refine g_newT (by show 2 ≤ sizeLine; decide) fun pz Hz nz sz ez => ?_
      walk_at "mf"
      refine g_eqZ (tupU (sz _ _ (sW _ _ ea))) (tupU ez) ?_
      walk_at "mf"
      refine g_ite (fun hz => ?_) (fun hz => ?_)
      · have hz := of_decide_eq_true hz
        refine ⟨fun σ2 H2 => σ2 = [some (.ref a), some (.int (n : Nat))] ∧ Same H H2, ?_, ?_⟩
        · intro σ2 H2 hN
          obtain ⟨rfl, s2⟩ := hN
          refine ⟨n, by omega, n, rfl, by omega, ?_, rfl, s2⟩
          rw [← htl]
          show _ = (if co rs n = 0 then tlen rs n else n + 1)
          rw [if_pos hz]
        · walk_at "mf"
          refine ⟨_, rfl, ?_⟩
          walk_at "mf"
          refine ⟨_, _, rfl, rfl, ?_⟩
          exact ⟨by show [some (V.ref a), some (V.int (((n + 1 : Nat) : Int) - 1))] = _; rw [show ((n + 1 : Nat) : Int) - 1 = (n : Int) by omega], sW.trans sz⟩
      · have hz := of_decide_eq_false hz
        walk_at "mf"
        refine g_slL (((sW.trans sz) : Same H _).seq hS) fun p2 H2 n2 s2 e2 => ?_
        rw [cut_hi (by omega)] at e2
        walk_at "mf"
        refine g_tupOf (seqU e2) fun p3 H3 n3 s3 e3 => ?_
        exact last _ (((sW.trans sz) : Same H _).trans s2) (by show (if co rs n = 0 then tlen rs n else n + 1) = _; rw [if_neg hz]) p3 H3 n3 s3 e3
    · have h := of_decide_eq_false h
      obtain rfl : m = 0 := by omega
      walk_at "mf"
      refine g_slL (sW.seq hS) fun p2 H2 n2 s2 e2 => ?_
      rw [cut_hi (by omega)] at e2
      walk_at "mf"
      refine g_tupOf (seqU e2) fun p3 H3 n3 s3 e3 => ?_
      exact last _ (sW.trans s2) rfl p3 H3 n3 s3 e3
theorem ok__law_trimmed (c : Cn) (T : Tx c) : Cl c 1 "_law_trimmed" s__law_trimmed ["row"] (sp_trim c.K) := by
  obtain ⟨P, w, K, mg, base⟩ := c
  refine De.cl (N := ["row", "many"]) T.d__law_trimmed sc__law_trimmed (fun vs H Q E h => ?_) (fun f0 cdv A outer s H vs Q E hA hr h => ?_)
  · obtain ⟨a, xs, rs, rfl, _⟩ := h; rfl
  · have S := sc__law_trimmed
    obtain ⟨a, xs, rs, rfl, hS, hT, hl, k⟩ := h
    refine ⟨_, (pss_cons (ps_set (i := 1) S.nd rfl (by first | exact .inl rfl | exact .inr rfl) (pe_callB call_lenU (by rfl) T.n_len PySem.boot_len (pa_cons (pv 0) pa_nil)))
      (pss_cons (ps_while PassesOwn.never (PW.pt (pw_and (pt_cmpR op_gt (pv 1) pe_int (nomark _)) (pw_and1 (pt_cmpR (op_eqU hr.units) (pe_ix ix_seq (pe_ix ix_seq (pv 0) (pe_op op_sub (pv 1) pe_int) (fun _ _ => rfl)) pe_int (fun _ _ => rfl)) pe_int (nomark _))))) (pss_one (ps_set (i := 1) S.nd rfl (by first | exact .inl rfl | exact .inr rfl) (pe_op op_sub (pv 1) pe_int))))
      (pss_one (ps_ret (pe_tupleOf (by rfl) T.n_tuple (pe_slice sl_list (pv 0) po_none (po_some (pv 1)))))))), ?_⟩
    have hlen := hT.len
    walk_at "mf"
    refine g_len (.inl hS) ?_
    walk_at "mf"
    refine ⟨fun m σ' H' => ∃ n : Nat, σ' = [some (.ref a), some (.int (n : Nat))] ∧ n ≤ rs.length ∧ tlen rs n = tlen rs rs.length ∧ m = n ∧ Same H H', ⟨xs.length, xs.length, rfl, by omega, by rw [hlen], rfl, Same.refl _⟩, ?_⟩
    intro m σ' H' hW
    obtain ⟨n, rfl, hn, htl, rfl, sW⟩ := hW
    have last : ∀ H2, Same H H2 → tlen rs m = m → ∀ p H3, H2 p = none → Same H2 H3 → H3 p = some (.tup (xs.take m)) → Q (.ref p) H3 := fun H2 s2 e p H3 np s3 e3 => by
      refine k p H3 _ (s2.trans s3) (s2.free np) e3 ?_
      unfold trimR
      rw [← htl, e]
      exact (hT.go (Same.kt (s2.trans s3))).take m
    walk_at "mf"
    refine g_ite (fun h => ?_) (fun h => ?_)
    · have h := of_decide_eq_true h
      obtain ⟨n, rfl⟩ : ∃ n, m = n + 1 := ⟨m - 1, by omega⟩
      obtain ⟨pa, hx, ea⟩ := hT.at (i := n) (by omega)
      walk_at "mf"
      refine g_ix (.inl (sW.seq hS)) (at_of (j := n) (by omega) hx) ?_
      walk_at "mf"
      refine g_ix (.inr (tupU (sW _ _ ea))) (v := .int (co rs n).num) rfl ?_
      walk_at "mf"
      rw [show decide ((co rs n).num = 0) = decide (co rs n = 0) from decide_eq_decide.mpr Rat.num_eq_zero]
      refine g_ite (fun hz => ?_) (fun hz => ?_)
      · have hz := of_decide_eq_true hz
        refine ⟨fun σ2 H2 => σ2 = [some (.ref a), some (.int (n : Nat))] ∧ Same H H2, ?_, ?_⟩
        · intro σ2 H2 hN
          obtain ⟨rfl, s2⟩ := hN
          refine ⟨n, by omega, n, rfl, by omega, ?_, rfl, s2⟩
          rw [← htl]
          show _ = (if co rs n = 0 then tlen rs n else n + 1)
          rw [if_pos hz]
        · walk_at "mf"
          skip
          exact ⟨by show [some (V.ref a), some (V.int (((n + 1 : Nat) : Int) - 1))] = _; rw [show ((n + 1 : Nat) : Int) - 1 = (n : Int) by omega], sW⟩
      · have hz := of_decide_eq_false hz
        walk_at "mf"
        refine g_slL (((sW) : Same H _).seq hS) fun p2 H2 n2 s2 e2 => ?_
        rw [cut_hi (by omega)] at e2
        walk_at "mf"
        refine g_tupOf (seqU e2) fun p3 H3 n3 s3 e3 => ?_
        exact last _ (((sW) : Same H _).trans s2) (by show (if co rs n = 0 then tlen rs n else n + 1) = _; rw [if_neg hz]) p3 H3 n3 s3 e3
    · have h := of_decide_eq_false h
      obtain rfl : m = 0 := by omega
      walk_at "mf"
      refine g_slL (sW.seq hS) fun p2 H2 n2 s2 e2 => ?_
      rw [cut_hi (by omega)] at e2
      walk_at "mf"
      refine g_tupOf (seqU e2) fun p3 H3 n3 s3 e3 => ?_
      exact last _ (sW.trans s2) rfl p3 H3 n3 s3 e3
end Mf
namespace Mf
open PySem PySem.Spec PyProof.Rows L2
local macro_rules | `(tactic| walk_at "mf1") => `(tactic| first
  | ((with_reducible apply g_var); exact rfl)
  | with_reducible first
    | refine g_c ?_ | refine g_op ?_ | refine g_un ?_ | refine g_cb ?_ | refine g_cl ?_ | refine g_clk ?_ | refine g_nil ?_ | refine g_cons ?_
    | refine g_tB ?_ | refine g_test ?_ | refine g_bl ?_ | refine g_and ?_ | refine g_or ?_ | refine g_not ?_ | refine g_andV ?_ | refine g_orV ?_ | refine g_notV ?_
    | refine g_if ?_ | refine g_ifS ?_ | refine g_seq ?_ | refine g_next ?_ | refine g_ret ?_ | refine g_drop ?_ | refine g_asg ?_ | refine g_name ?_ | refine g_sub ?_
    | refine g_int ?_ | refine g_intB ?_ | refine g_abs ?_ | refine g_I0 ?_ | refine g_addI ?_ | refine g_U ?_ | refine g_isNn ?_ | refine g_isNi ?_ | refine g_notN ?_ | refine g_notT1 ?_ | refine g_notT2 ?_ | refine g_notT3 ?_ | refine g_notT4 ?_ | refine g_notTb ?_ | refine g_notTi ?_ | refine g_eqI ?_ | refine g_neI ?_ | refine g_neSs ?_ | refine g_neS ?_ | refine g_eqS ?_
    | refine g_iteT ?_ | refine g_iteF ?_ | refine g_iteNT ?_ | refine g_iteNF ?_ | refine g_lst ?_ | refine g_tup ?_ | refine g_seqP ?_ | refine g_sl ?_ | refine g_noPart ?_ | refine g_part ?_ | refine g_yes ?_ | refine g_thenT ?_ | refine g_consG ?_ | refine g_nilG ?_ | refine g_ii ?_ | refine g_par ?_ | refine g_par3 ?_ | refine g_vv ?_ | refine g_vvv ?_ | refine g_reprB ?_ | refine g_lcL ?_ | refine g_lcR ?_
  | ((with_reducible refine g_mod ?_ ?_); (first | omega | decide))
  | ((with_reducible refine g_div ?_ ?_ ?_); (first | omega | decide); (first | assumption | decide))
  | ((with_reducible refine g_mulL ?_ ?_ ?_); (first | omega | decide); (first | omega | decide))
  | ((with_reducible refine g_mulR ?_ ?_ ?_); (first | omega | decide); (first | omega | decide))
  | ((with_reducible refine g_pow ?_ ?_ ?_ ?_); decide; decide; (first | omega | decide))
  | dsimp only)
local macro_rules | `(tactic| walk_at "mf1s") => `(tactic| first
  | ((with_reducible apply g_var); exact rfl)
  | with_reducible first
    | refine g_c ?_ | refine g_op ?_ | refine g_un ?_ | refine g_cb ?_ | refine g_cl ?_ | refine g_clk ?_ | refine g_nil ?_ | refine g_cons ?_
    | refine g_tB ?_ | refine g_test ?_ | refine g_bl ?_ | refine g_and ?_ | refine g_or ?_ | refine g_not ?_ | refine g_andV ?_ | refine g_orV ?_ | refine g_notV ?_
    | refine g_if ?_ | refine g_ifS ?_ | refine g_next ?_ | refine g_ret ?_ | refine g_drop ?_ | refine g_asg ?_ | refine g_name ?_ | refine g_sub ?_
    | refine g_int ?_ | refine g_intB ?_ | refine g_abs ?_ | refine g_I0 ?_ | refine g_addI ?_ | refine g_U ?_ | refine g_isNn ?_ | refine g_isNi ?_ | refine g_notN ?_ | refine g_notT1 ?_ | refine g_notT2 ?_ | refine g_notT3 ?_ | refine g_notT4 ?_ | refine g_notTb ?_ | refine g_notTi ?_ | refine g_eqI ?_ | refine g_neI ?_ | refine g_neSs ?_ | refine g_neS ?_ | refine g_eqS ?_
    | refine g_iteT ?_ | refine g_iteF ?_ | refine g_iteNT ?_ | refine g_iteNF ?_ | refine g_lst ?_ | refine g_tup ?_ | refine g_seqP ?_ | refine g_sl ?_ | refine g_noPart ?_ | refine g_part ?_ | refine g_yes ?_ | refine g_thenT ?_ | refine g_consG ?_ | refine g_nilG ?_ | refine g_ii ?_ | refine g_par ?_ | refine g_par3 ?_ | refine g_vv ?_ | refine g_vvv ?_ | refine g_reprB ?_ | refine g_lcL ?_ | refine g_lcR ?_
  | ((with_reducible refine g_mod ?_ ?_); (first | omega | decide))
  | ((with_reducible refine g_div ?_ ?_ ?_); (first | omega | decide); (first | assumption | decide))
  | ((with_reducible refine g_mulL ?_ ?_ ?_); (first | omega | decide); (first | omega | decide))
  | ((with_reducible refine g_mulR ?_ ?_ ?_); (first | omega | decide); (first | omega | decide))
  | ((with_reducible refine g_pow ?_ ?_ ?_ ?_); decide; decide; (first | omega | decide))
  | dsimp only)
local macro_rules | `(tactic| walk_at "mfs") => `(tactic| repeat walk_at "mf1s")
local macro_rules | `(tactic| walk_at "mf") => `(tactic| repeat walk_at "mf1")
local macro_rules | `(tactic| walk_at "ed") => `(tactic| repeat (first
  | with_reducible first
    | exact eds_nil | apply eds_cons | exact ed_int | exact ed_bl | exact ed_non | apply ed_neg
  | ((with_reducible apply ed_str); decide)
  | ((with_reducible apply ed_var); (exact rfl); (first | assumption | exact Dq.int _))
  | ((with_reducible apply ed_dict0); assumption)
  | ((with_reducible apply ed_dict2); assumption)
  | ((with_reducible apply ed_tup); assumption)
  | ((with_reducible apply ed_lst); assumption)
  | (with_reducible apply ed_pow)
  | (with_reducible apply ed_mul)
  | assumption
  | (exact Dq.int _)
  | (exact ⟨by decide, by decide, by decide⟩)
  | (show List.length _ ≤ 1000; simp only [List.length_cons, List.length_nil]; decide)))

def itD : PyData → List PyData
  | .list ds | .tuple ds => ds
  | _ => []
def isPyD (d : PyData) : Bool := isSeqD d && (decide ((itD d).length ≤ 80) && ((itD d).map isFrD).all id)
theorem isPyD_no {d : PyData} (e : isSeqD d = false) : isPyD d = false := by unfold isPyD; rw [e]; rfl
theorem isPyD_of {d : PyData} {ds : List PyData} (e : d = .list ds ∨ d = .tuple ds) : isPyD d = (decide (ds.length ≤ 80) && (ds.map isFrD).all id) := by rcases e with rfl | rfl <;> rfl
theorem all_isFr {ds : List PyData} (h : ∀ d ∈ ds, isFrD d = true) : (ds.map isFrD).all id = true := by
  rw [List.all_eq_true]
  intro b hb
  obtain ⟨d, hd, rfl⟩ := List.mem_map.mp hb
  exact h d hd
def sp_isply (K : PySem.W.Frag) : Sp := fun vs H Q _ => ∃ q v d, vs = [v] ∧ Dq q K H v d ∧ (itD d).length ≤ 900 ∧ ∀ H', Same H H' → Q (.bl (isPyD d)) H'
theorem ok_is_poly (c : Cn) (T : Tx c) : Cl c 4 "is_poly" s_is_poly ["value"] (sp_isply c.K) := by
  obtain ⟨P, w, K, mg, base⟩ := c
  have C_is_fraction := ok_is_fraction _ T
  have C_is_list := ok_is_list _ T
  refine De.cl (N := ["value", "number"]) T.d_is_poly sc_is_poly (fun vs H Q E h => ?_) (fun f0 cdv A outer s H vs Q E hA hr h => ?_)
  · obtain ⟨q, v, d, rfl, _⟩ := h; rfl
  · have S := sc_is_poly
    obtain ⟨q, v, d, rfl, hd, hsm, k⟩ := h
    refine ⟨_, (pss_one (ps_ret (pe_and (pe_f C_is_list hA hr (by decide) pl_is_list (by rfl) (pa_cons (pv 0) pa_nil)) (pe_and (pe_cmpR op_le (pe_callB call_lenU (by rfl) T.n_len PySem.boot_len (pa_cons (pv 0) pa_nil)) (pe_globI (i := 80) (by rfl) T.c_MOST_NUMBERS) (nomark _)) (pe_one (pe_callB (cr_all rfl) (by rfl) T.n_all (by decide +kernel) (pa_cons (pe_lc (own := [("number", 1)]) (g := gName 1) (tt := tYes) rfl S.nd (pi_or (pi_list (pv 0)) (pi_tup (pv 0))) (blkOk_by (N := ["value", "number"]) (sc := defScope s_is_poly) (by decide +kernel)) (fun _ _ _ _ _ => pg_name (i := 1) S.nd rfl (Or.inl rfl)) (fun _ _ _ _ _ => pts_nil) (fun _ _ _ _ _ => (pe_f C_is_fraction hA hr (by decide) pl_is_fraction (by rfl) (pa_cons (pv 1) pa_nil)))) pa_nil))))))), ?_⟩
    walk_at "mf"
    refine ⟨q, v, d, rfl, hd, ?_⟩
    walk_at "mf"
    refine g_ite (fun h2 => ?_) (fun h2 => ?_)
    · obtain ⟨a, xs, ds, rfl, na, hs, hall, ed⟩ := hd.seq h2
      have hit : itD d = ds := by rcases ed with rfl | rfl <;> rfl
      rw [hit] at hsm
      have hlen := hall.len
      rw [isPyD_of ed] at k
      walk_at "mf"
      refine g_len hs ?_
      walk_at "mf"
      refine g_ite (fun h3 => ?_) (fun h3 => ?_)
      · walk_at "mf"
        rw [decide_eq_true (show ds.length ≤ 80 by simp at h3; omega), Bool.true_and] at k
        refine cut_lc (fun (H1 : Hp) (D : Addr) => H1 D = some (.lst ((ds.map isFrD).map V.bl))) (fun Q' k' => ?_) (fun H1 D s1 e1 => ?_)
        · rcases hs with hs | hs
          · refine g_lcO1 ?_
            walk_at "mf"
            refine ⟨a, rfl, ⟨_, hs⟩, ?_⟩
            refine lcgo_listF (xs := xs) (fun D i H' => Same H H' ∧ H' D = some (.lst (((ds.map isFrD).take i).map V.bl))) (fun z => rfl) (fun D hD => ⟨same_new hD, upd_same⟩) (fun D i H' _ h => h.1.seq hs) (fun D i z H' hD ez h => ?_) (fun D H' hD h => ?_)
            · obtain ⟨h1, h2⟩ := h
              obtain ⟨d, ed, hd⟩ := hall.get ez
              have hi := (List.getElem?_eq_some_iff.mp ez).1
              walk_at "mf"
              refine ⟨q, z, d, rfl, hd.go (Same.x h1), ?_⟩
              refine ⟨_, h2, ?_, ?_, ?_⟩
              · rw [List.length_map, List.length_take, List.length_map]
                exact small1000 (by omega)
              · intro b o e
                rw [upd_ne (ne_of_none e hD)]
                exact h1 b o e
              · have eq1 : (ds.map isFrD)[i]? = some (isFrD d) := by rw [List.getElem?_map, ed]; rfl
                rw [upd_same, take_snoc eq1, List.map_append]
                rfl
            · obtain ⟨h1, h2⟩ := h
              exact k' H' D h1 (by rw [h2, hall.len, show ds.length = (ds.map isFrD).length by rw [List.length_map], List.take_length])
          · refine g_lcO2 ?_
            walk_at "mf"
            refine ⟨a, rfl, ⟨_, hs⟩, ?_⟩
            refine lcgo_tupF (xs := xs) (fun D i H' => Same H H' ∧ H' D = some (.lst (((ds.map isFrD).take i).map V.bl))) (fun z => rfl) (fun D hD => ⟨same_new hD, upd_same⟩) (fun D i H' _ h => (Same.x (q := q) h.1).tup na hs) (fun D i z H' hD ez h => ?_) (fun D H' hD h => ?_)
            · obtain ⟨h1, h2⟩ := h
              obtain ⟨d, ed, hd⟩ := hall.get ez
              have hi := (List.getElem?_eq_some_iff.mp ez).1
              walk_at "mf"
              refine ⟨q, z, d, rfl, hd.go (Same.x h1), ?_⟩
              refine ⟨_, h2, ?_, ?_, ?_⟩
              · rw [List.length_map, List.length_take, List.length_map]
                exact small1000 (by omega)
              · intro b o e
                rw [upd_ne (ne_of_none e hD)]
                exact h1 b o e
              · have eq1 : (ds.map isFrD)[i]? = some (isFrD d) := by rw [List.getElem?_map, ed]; rfl
                rw [upd_same, take_snoc eq1, List.map_append]
                rfl
            · obtain ⟨h1, h2⟩ := h
              exact k' H' D h1 (by rw [h2, hall.len, show ds.length = (ds.map isFrD).length by rw [List.length_map], List.take_length])
        walk_at "mf"
        exact g_all (seqU e1) (k _ s1)
      · rw [decide_eq_false (show ¬ ds.length ≤ 80 by simp at h3; omega), Bool.false_and] at k
        exact k _ (Same.refl _)
    · rw [isPyD_no h2] at k
      exact k _ (Same.refl _)
theorem ok_read_poly (c : Cn) (T : Tx c) : Cl c 6 "read_poly" s_read_poly ["value", "part"] (sp_rpoly c.K) := by
  obtain ⟨P, w, K, mg, base⟩ := c
  have C_fraction_of := ok_fraction_of _ T
  have C_is_poly := ok_is_poly _ T
  have C_trimmed := ok_trimmed _ T
  refine De.cl (N := ["value", "part", "number"]) T.d_read_poly sc_read_poly (fun vs H Q E h => ?_) (fun f0 cdv A outer s H vs Q E hA hr h => ?_)
  · obtain ⟨q, a, xs, ds, n, part, rfl, _⟩ := h; rfl
  · have S := sc_read_poly
    obtain ⟨q, a, xs, ds, n, part, rfl, na, hs, hall, hok, hn, hl, k⟩ := h
    refine ⟨_, (pss_cons (ps_if (pt_not (pt_val (pe_f C_is_poly hA hr (by decide) pl_is_poly (by rfl) (pa_cons (pv 0) pa_nil)))) (pss_one ps_never) pss_nil)
      (pss_one (ps_ret (pe_f C_trimmed hA hr (by decide) pl_trimmed (by rfl) (pa_cons (pe_lc (own := [("number", 2)]) (g := gName 2) (tt := tYes) rfl S.nd (pi_or (pi_list (pv 0)) (pi_tup (pv 0))) (blkOk_by (N := ["value", "part", "number"]) (sc := defScope s_read_poly) (by decide +kernel)) (fun _ _ _ _ _ => pg_name (i := 2) S.nd rfl (Or.inl rfl)) (fun _ _ _ _ _ => pts_nil) (fun _ _ _ _ _ => (pe_f C_fraction_of hA hr (by decide) pl_fraction_of (by rfl) (pa_cons (pv 2) pa_nil)))) pa_nil))))), ?_⟩
    obtain ⟨dd, hdd, hse⟩ : ∃ dd, Dq q K H (.ref a) dd ∧ (dd = .list ds ∨ dd = .tuple ds) := by
      rcases hs with hs | hs
      · exact ⟨.list ds, .lst na hs hall, .inl rfl⟩
      · exact ⟨.tuple ds, .tup na hs hall, .inr rfl⟩
    have hlen := hall.len
    have hit : itD dd = ds := by rcases hse with rfl | rfl <;> rfl
    walk_at "mf"
    refine ⟨q, .ref a, dd, rfl, hdd, by rw [hit]; omega, fun H1 s1 => ?_⟩
    rw [isPyD_of hse, decide_eq_true hl, Bool.true_and, all_isFr fun d hd => (hok d hd).1]
    walk_at "mf"
    refine cut_lc (fun (H2 : Hp) (D : Addr) => ∃ vs, H2 D = some (.lst vs) ∧ vs.length = ds.length ∧ TL H2 vs (ds.map valQ)) (fun Q' k' => ?_) (fun H2 D2 s2 e2 => ?_)
    · have hs := hs.go (Same.x (q := q) s1) na
      rcases hs with hs | hs
      · refine g_lcO1 ?_
        walk_at "mf"
        refine ⟨a, rfl, ⟨_, hs⟩, ?_⟩
        refine lcgo_listF (xs := xs) (fun D i H' => Same H1 H' ∧ ∃ vs, H' D = some (.lst vs) ∧ vs.length = i ∧ TL H' vs ((ds.map valQ).take i)) (fun z => rfl) (fun D hD => ⟨same_new hD, [], upd_same, rfl, .nil⟩) (fun D i H' _ h => h.1.seq hs) (fun D i z H' hD ez h => ?_) (fun D H' hD h => ?_)
        · obtain ⟨h1, vs, h2, h3, h4⟩ := h
          obtain ⟨d, ed, hd⟩ := hall.get ez
          have hi := (List.getElem?_eq_some_iff.mp ez).1
          rw [hall.len] at hi
          obtain ⟨f1, f2, f3⟩ := hok d (List.mem_of_getElem? ed)
          walk_at "mf"
          refine ⟨q, z, valQ d, n, rfl, Fr.of (hd.go (Same.x (s1.trans h1))) f1 f2 f3, by omega, fun p3 H3 s3 n3 e3 => ?_⟩
          have eD := s3 _ _ h2
          have kt := upd_kt (o := .lst (vs ++ [.ref p3])) eD
          refine ⟨vs, eD, small1000 (by omega), ?_, vs ++ [.ref p3], upd_same, by rw [List.length_append, h3]; rfl, ?_⟩
          · intro b o e
            rw [upd_ne (ne_of_none e hD)]
            exact s3 _ _ (h1 _ _ e)
          · have eq1 : (ds.map valQ)[i]? = some (valQ d) := by rw [List.getElem?_map, ed]; rfl
            rw [take_snoc eq1]
            exact ((h4.go (Same.kt s3)).go kt).snoc (kt _ _ e3)
        · obtain ⟨h1, vs, h2, h3, h4⟩ := h
          rw [hall.len, show ds.length = (ds.map valQ).length by rw [List.length_map], List.take_length] at h4
          exact k' H' D h1 ⟨vs, h2, by rw [h3, hall.len], h4⟩
      · refine g_lcO2 ?_
        walk_at "mf"
        refine ⟨a, rfl, ⟨_, hs⟩, ?_⟩
        refine lcgo_tupF (xs := xs) (fun D i H' => Same H1 H' ∧ ∃ vs, H' D = some (.lst vs) ∧ vs.length = i ∧ TL H' vs ((ds.map valQ).take i)) (fun z => rfl) (fun D hD => ⟨same_new hD, [], upd_same, rfl, .nil⟩) (fun D i H' _ h => (Same.x (q := q) h.1).tup na hs) (fun D i z H' hD ez h => ?_) (fun D H' hD h => ?_)
        · obtain ⟨h1, vs, h2, h3, h4⟩ := h
          obtain ⟨d, ed, hd⟩ := hall.get ez
          have hi := (List.getElem?_eq_some_iff.mp ez).1
          rw [hall.len] at hi
          obtain ⟨f1, f2, f3⟩ := hok d (List.mem_of_getElem? ed)
          walk_at "mf"
          refine ⟨q, z, valQ d, n, rfl, Fr.of (hd.go (Same.x (s1.trans h1))) f1 f2 f3, by omega, fun p3 H3 s3 n3 e3 => ?_⟩
          have eD := s3 _ _ h2
          have kt := upd_kt (o := .lst (vs ++ [.ref p3])) eD
          refine ⟨vs, eD, small1000 (by omega), ?_, vs ++ [.ref p3], upd_same, by rw [List.length_append, h3]; rfl, ?_⟩
          · intro b o e
            rw [upd_ne (ne_of_none e hD)]
            exact s3 _ _ (h1 _ _ e)
          · have eq1 : (ds.map valQ)[i]? = some (valQ d) := by rw [List.getElem?_map, ed]; rfl
            rw [take_snoc eq1]
            exact ((h4.go (Same.kt s3)).go kt).snoc (kt _ _ e3)
        · obtain ⟨h1, vs, h2, h3, h4⟩ := h
          rw [hall.len, show ds.length = (ds.map valQ).length by rw [List.length_map], List.take_length] at h4
          exact k' H' D h1 ⟨vs, h2, by rw [h3, hall.len], h4⟩
    obtain ⟨vs, e2, l2, t2⟩ := e2
    walk_at "mf"
    refine ⟨D2, vs, _, rfl, seqU e2, t2, by omega, fun p H' ws s n e t => ?_⟩
    exact k p H' ws ((s1.trans s2).trans s) ((s1.trans s2).free n) e t
end Mf
namespace Mf
open PySem PySem.Spec PyProof.Rows L2
local macro_rules | `(tactic| walk_at "mf1") => `(tactic| first
  | ((with_reducible apply g_var); exact rfl)
  | with_reducible first
    | refine g_c ?_ | refine g_op ?_ | refine g_un ?_ | refine g_cb ?_ | refine g_cl ?_ | refine g_clk ?_ | refine g_nil ?_ | refine g_cons ?_
    | refine g_tB ?_ | refine g_test ?_ | refine g_bl ?_ | refine g_and ?_ | refine g_or ?_ | refine g_not ?_ | refine g_andV ?_ | refine g_orV ?_ | refine g_notV ?_
    | refine g_if ?_ | refine g_ifS ?_ | refine g_seq ?_ | refine g_next ?_ | refine g_ret ?_ | refine g_drop ?_ | refine g_asg ?_ | refine g_name ?_ | refine g_sub ?_
    | refine g_int ?_ | refine g_intB ?_ | refine g_abs ?_ | refine g_I0 ?_ | refine g_addI ?_ | refine g_U ?_ | refine g_isNn ?_ | refine g_isNi ?_ | refine g_notN ?_ | refine g_notT1 ?_ | refine g_notT2 ?_ | refine g_notT3 ?_ | refine g_notT4 ?_ | refine g_notTb ?_ | refine g_notTi ?_ | refine g_eqI ?_ | refine g_neI ?_ | refine g_neSs ?_ | refine g_neS ?_ | refine g_eqS ?_
    | refine g_iteT ?_ | refine g_iteF ?_ | refine g_iteNT ?_ | refine g_iteNF ?_ | refine g_lst ?_ | refine g_tup ?_ | refine g_seqP ?_ | refine g_sl ?_ | refine g_noPart ?_ | refine g_part ?_ | refine g_yes ?_ | refine g_thenT ?_ | refine g_consG ?_ | refine g_nilG ?_ | refine g_ii ?_ | refine g_par ?_ | refine g_par3 ?_ | refine g_vv ?_ | refine g_vvv ?_ | refine g_reprB ?_ | refine g_lcL ?_ | refine g_lcR ?_
  | ((with_reducible refine g_mod ?_ ?_); (first | omega | decide))
  | ((with_reducible refine g_div ?_ ?_ ?_); (first | omega | decide); (first | assumption | decide))
  | ((with_reducible refine g_mulL ?_ ?_ ?_); (first | omega | decide); (first | omega | decide))
  | ((with_reducible refine g_mulR ?_ ?_ ?_); (first | omega | decide); (first | omega | decide))
  | ((with_reducible refine g_pow ?_ ?_ ?_ ?_); decide; decide; (first | omega | decide))
  | dsimp only)
local macro_rules | `(tactic| walk_at "mf1s") => `(tactic| first
  | ((with_reducible apply g_var); exact rfl)
  | with_reducible first
    | refine g_c ?_ | refine g_op ?_ | refine g_un ?_ | refine g_cb ?_ | refine g_cl ?_ | refine g_clk ?_ | refine g_nil ?_ | refine g_cons ?_
    | refine g_tB ?_ | refine g_test ?_ | refine g_bl ?_ | refine g_and ?_ | refine g_or ?_ | refine g_not ?_ | refine g_andV ?_ | refine g_orV ?_ | refine g_notV ?_
    | refine g_if ?_ | refine g_ifS ?_ | refine g_next ?_ | refine g_ret ?_ | refine g_drop ?_ | refine g_asg ?_ | refine g_name ?_ | refine g_sub ?_
    | refine g_int ?_ | refine g_intB ?_ | refine g_abs ?_ | refine g_I0 ?_ | refine g_addI ?_ | refine g_U ?_ | refine g_isNn ?_ | refine g_isNi ?_ | refine g_notN ?_ | refine g_notT1 ?_ | refine g_notT2 ?_ | refine g_notT3 ?_ | refine g_notT4 ?_ | refine g_notTb ?_ | refine g_notTi ?_ | refine g_eqI ?_ | refine g_neI ?_ | refine g_neSs ?_ | refine g_neS ?_ | refine g_eqS ?_
    | refine g_iteT ?_ | refine g_iteF ?_ | refine g_iteNT ?_ | refine g_iteNF ?_ | refine g_lst ?_ | refine g_tup ?_ | refine g_seqP ?_ | refine g_sl ?_ | refine g_noPart ?_ | refine g_part ?_ | refine g_yes ?_ | refine g_thenT ?_ | refine g_consG ?_ | refine g_nilG ?_ | refine g_ii ?_ | refine g_par ?_ | refine g_par3 ?_ | refine g_vv ?_ | refine g_vvv ?_ | refine g_reprB ?_ | refine g_lcL ?_ | refine g_lcR ?_
  | ((with_reducible refine g_mod ?_ ?_); (first | omega | decide))
  | ((with_reducible refine g_div ?_ ?_ ?_); (first | omega | decide); (first | assumption | decide))
  | ((with_reducible refine g_mulL ?_ ?_ ?_); (first | omega | decide); (first | omega | decide))
  | ((with_reducible refine g_mulR ?_ ?_ ?_); (first | omega | decide); (first | omega | decide))
  | ((with_reducible refine g_pow ?_ ?_ ?_ ?_); decide; decide; (first | omega | decide))
  | dsimp only)
local macro_rules | `(tactic| walk_at "mfs") => `(tactic| repeat walk_at "mf1s")
local macro_rules | `(tactic| walk_at "mf") => `(tactic| repeat walk_at "mf1")
local macro_rules | `(tactic| walk_at "ed") => `(tactic| repeat (first
  | with_reducible first
    | exact eds_nil | apply eds_cons | exact ed_int | exact ed_bl | exact ed_non | apply ed_neg
  | ((with_reducible apply ed_str); decide)
  | ((with_reducible apply ed_var); (exact rfl); (first | assumption | exact Dq.int _))
  | ((with_reducible apply ed_dict0); assumption)
  | ((with_reducible apply ed_dict2); assumption)
  | ((with_reducible apply ed_tup); assumption)
  | ((with_reducible apply ed_lst); assumption)
  | (with_reducible apply ed_pow)
  | (with_reducible apply ed_mul)
  | assumption
  | (exact Dq.int _)
  | (exact ⟨by decide, by decide, by decide⟩)
  | (show List.length _ ≤ 1000; simp only [List.length_cons, List.length_nil]; decide)))
theorem ok__law_product (c : Cn) (T : Tx c) : Cl c 3 "_law_product" s__law_product ["one", "other"] (sp_lprod c.K) := by
  obtain ⟨P, w, K, mg, base⟩ := c
  have C__law_plus := ok__law_plus _ T
  have C__law_times := ok__law_times _ T
  have C__law_trimmed := ok__law_trimmed _ T
  refine De.cl (N := ["one", "other", "found", "at", "mine", "spot", "its"]) T.d__law_product sc__law_product (fun vs H Q E h => ?_) (fun f0 cdv A outer s H vs Q E hA hr h => ?_)
  · obtain ⟨a, b, xs, ys, f, gg, A1, B1, C1, rfl, _⟩ := h; rfl
  · have S := sc__law_product
    obtain ⟨a, b, xs, ys, f, gg, A1, B1, C1, rfl, ha, hb, tf, tg, bf, bg, hC, hA1, hB1, hABC, lx, ly, k⟩ := h
    refine ⟨_, (pss_cons (ps_set (i := 2) S.nd rfl (by first | exact .inl rfl | exact .inr rfl) (pe_op op_mulU (pe_lst (pa_cons (pe_tup (pa_cons pe_int (pa_cons pe_int pa_nil))) pa_nil)) (pe_callB (call_max2R rfl) (by rfl) T.n_max (show bootBuiltins "max" = some (.builtin "max") by decide +kernel) (pa_cons pe_int (pa_cons (pe_op op_sub (pe_op op_addU (pe_callB call_lenU (by rfl) T.n_len PySem.boot_len (pa_cons (pv 0) pa_nil)) (pe_callB call_lenU (by rfl) T.n_len PySem.boot_len (pa_cons (pv 1) pa_nil))) pe_int) pa_nil)))))
      (pss_cons (ps_for PassesOwn.never rfl (pi_or (pi_enum (by rfl) T.n_enumerate (pa_cons (pv 0) pa_nil)) (pi_enumT (by rfl) T.n_enumerate (pa_cons (pv 0) pa_nil))) (pg_tup rfl (pgs_cons (pg_name (i := 3) S.nd rfl (by first | exact .inl rfl | exact .inr rfl)) (pgs_cons (pg_name (i := 4) S.nd rfl (by first | exact .inl rfl | exact .inr rfl)) pgs_nil))) (pss_one (ps_for PassesOwn.never rfl (pi_or (pi_enum (by rfl) T.n_enumerate (pa_cons (pv 1) pa_nil)) (pi_enumT (by rfl) T.n_enumerate (pa_cons (pv 1) pa_nil))) (pg_tup rfl (pgs_cons (pg_name (i := 5) S.nd rfl (by first | exact .inl rfl | exact .inr rfl)) (pgs_cons (pg_name (i := 6) S.nd rfl (by first | exact .inl rfl | exact .inr rfl)) pgs_nil))) (pss_one (ps_asg (pe_f C__law_plus hA hr (by decide) pl__law_plus (by rfl) (pa_cons (pe_ix ix_seq (pv 2) (pe_op op_addU (pv 3) (pv 5)) (fun _ _ => rfl)) (pa_cons (pe_f C__law_times hA hr (by decide) pl__law_times (by rfl) (pa_cons (pv 4) (pa_cons (pv 6) pa_nil))) pa_nil))) (pg_sub (pv 2) (pe_op op_addU (pv 3) (pv 5)) set_list))))))
      (pss_one (ps_ret (pe_f C__law_trimmed hA hr (by decide) pl__law_trimmed (by rfl) (pa_cons (pv 2) pa_nil)))))), ?_⟩
    have lf := tf.len
    have lg := tg.len
    walk_at "mf"
    refine g_newT (by show 2 ≤ sizeLine; decide) fun p0 H0 n0 s0 e0 => ?_
    walk_at "mf"
    refine g_newL (by show 1 ≤ sizeLine; decide) fun p1 H1 n1 s1 e1 => ?_
    walk_at "mf"
    refine g_len ((ha.go (Same.x (q := a + 1) s0) (Nat.ne_of_lt (Nat.lt_succ_self a))).go (Same.x (q := a + 1) s1) (Nat.ne_of_lt (Nat.lt_succ_self a))) ?_
    walk_at "mf"
    refine g_len ((hb.go (Same.x (q := b + 1) s0) (Nat.ne_of_lt (Nat.lt_succ_self b))).go (Same.x (q := b + 1) s1) (Nat.ne_of_lt (Nat.lt_succ_self b))) ?_
    walk_at "mf"
    refine g_max2 ?_
    walk_at "mf"
    obtain ⟨L, hL, eL⟩ : ∃ L : Nat, (if (xs.length : Int) + (ys.length : Int) - 1 > 0 then (xs.length : Int) + (ys.length : Int) - 1 else 0) = (L : Int) ∧ L = f.length + gg.length - 1 := by
      refine ⟨f.length + gg.length - 1, ?_, rfl⟩
      split <;> omega
    rw [hL]
    refine g_rep e1 (by omega) (by omega) (by show 1 * _ ≤ sizeLine; rw [Int.toNat_natCast]; exact Nat.le_of_lt (small1000 (by omega))) fun D HD nD sD eD => ?_
    have eD : HD D = some (.lst (List.replicate L (.ref p0))) := by
      rw [eD, Int.toNat_natCast]
      congr 2
      clear eD hL eL
      induction L with
      | zero => rfl
      | succ L ih => rw [List.replicate_succ, List.flatten_cons, ih, List.replicate_succ] <;> rfl
    have sHD : Same H HD := (s0.trans s1).trans sD
    have nD0 : H D = none := s0.free (s1.free nD)
    have tD : TL HD (List.replicate L (.ref p0)) (List.replicate L 0) := TL.rep (r := 0) (sD _ _ (s1 _ _ e0)) L
    have cz : ∀ n, co (List.replicate L 0) n = 0 := fun n => by
      by_cases z : n < L
      · rw [co_get (by rw [List.length_replicate]; exact z), List.getElem_replicate]
      · exact co_ge (by rw [List.length_replicate]; omega)
    clear e1 n1 s1 n0 s0 e0 sD nD hL
    walk_at "mf"
    refine g_forE (H0 := H) rfl ha (fun n σ' H' => Same H H' ∧ ∃ o3 o4 o5 o6 vs fl, σ' = [some (.ref a), some (.ref b), some (.ref D), o3, o4, o5, o6] ∧ H' D = some (.lst vs) ∧ TL H' vs fl ∧ fl.length = L ∧ ∀ j, co fl j = cs (co f) (co gg) n j)
      ⟨sHD, none, none, none, none, _, _, rfl, eD, tD, List.length_replicate .., cz⟩ (fun n σ' H' h => h.1) (fun n x σ' H' T0 hx h nT => ?_) (fun σ' H' h => ?_)
    · obtain ⟨sH, o3, o4, o5, o6, vs, fl, rfl, ev, tv, lv, cv⟩ := h
      obtain ⟨am, rfl, em, _⟩ := (tf.go (Same.kt sH)).get hx
      have hn : n < f.length := by have := (List.getElem?_eq_some_iff.mp hx).1; omega
      have sT : Same H' (upd H' T0 (.tup [.int (n : Nat), .ref am])) := same_new nT
      generalize upd H' T0 (.tup [.int (n : Nat), .ref am]) = Hs at *
      have em := sT _ _ em
      walk_at "mf"
      refine g_forE (H0 := H) rfl hb (fun m σ' H' => Same H H' ∧ ∃ o5 o6 vs fl, σ' = [some (.ref a), some (.ref b), some (.ref D), some (.int (n : Nat)), some (.ref am), o5, o6] ∧ H' D = some (.lst vs) ∧ TL H' vs fl ∧ fl.length = L ∧ H' am = some (.tup (rv (co f n))) ∧
          ∀ j, co fl j = cs (co f) (co gg) n j + (if n ≤ j ∧ j < n + m then co f n * co gg (j - n) else 0))
        ⟨sH.trans sT, o5, o6, vs, fl, rfl, sT _ _ ev, tv.go (Same.kt sT), lv, em, fun j => by rw [cv j, if_neg (by omega), Rat.add_zero]⟩ (fun n σ' H' h => h.1) (fun m y σ' H2 T1 hy h nT1 => ?_) (fun σ' H2 h => ?_)
      · obtain ⟨s2, o5, o6, vs, fl, rfl, ev, tv, lv, em, cv⟩ := h
        obtain ⟨ai, rfl, ei, _⟩ := (tg.go (Same.kt s2)).get hy
        have hm : m < gg.length := by have := (List.getElem?_eq_some_iff.mp hy).1; omega
        have sT1 : Same H2 (upd H2 T1 (.tup [.int (m : Nat), .ref ai])) := same_new nT1
        generalize upd H2 T1 (.tup [.int (m : Nat), .ref ai]) = Ht at *
        have s3 := s2.trans sT1
        have ev := sT1 _ _ ev
        have tv := tv.go (Same.kt sT1)
        have em := sT1 _ _ em
        have ei := sT1 _ _ ei
        have hnm : n + m < fl.length := by omega
        have c0 : co fl (n + m) = cs (co f) (co gg) n (n + m) := by rw [cv, if_neg (by omega), Rat.add_zero]
        obtain ⟨pf, hpf, ef⟩ := tv.at hnm
        have hlv : n + m < vs.length := (List.getElem?_eq_some_iff.mp hpf).1
        walk_at "mf"
        refine g_ix (.inl (seqU ev)) (at_of (j := n + m) (by omega) hpf) ?_
        walk_at "mf"
        refine ⟨am, ai, co f n, co gg m, A1, B1, rfl, em, ei, bf.co hA1 n, bg.co hB1 m, by omega, fun p1 Ha sa na ea => ?_⟩
        walk_at "mf"
        refine ⟨pf, p1, co fl (n + m), _, C1, A1 + B1, rfl, sa _ _ ef, ea, by rw [c0]; exact hC _ _, (bf.co hA1 n).mul (bg.co hB1 m), by omega, fun p2 Hb sb nb eb => ?_⟩
        walk_at "mf"
        have evb := sb _ _ (sa _ _ ev)
        have kt := upd_kt (o := .lst (vs.set (n + m) (.ref p2))) evb
        refine g_setL evb (j := n + m) ?_ ?_
        · unfold ixN
          rw [if_pos (by omega), if_pos (by omega)]
          congr 1
        walk_at "mf"
        refine ⟨fun c o e => ?_, _, _, _, fl.set (n + m) (co fl (n + m) + co f n * co gg m), rfl, upd_same, (((tv.go (Same.kt sa)).go (Same.kt sb)).go kt).set (kt _ _ eb) _, by rw [List.length_set]; exact lv, kt _ _ (sb _ _ (sa _ _ em)), fun j => ?_⟩
        · rw [upd_ne (ne_of_none e nD0)]
          exact sb _ _ (sa _ _ (s3 _ _ e))
        · rw [co_set hnm]
          by_cases z : j = n + m
          · subst z
            rw [if_pos rfl, c0, if_pos (by omega), show n + m - n = m by omega]
          · rw [if_neg z, cv]
            by_cases z2 : n ≤ j ∧ j < n + m
            · rw [if_pos z2, if_pos (by omega)]
            · rw [if_neg z2, if_neg (by omega)]
      · obtain ⟨s2, o5, o6, vs, fl, rfl, ev, tv, lv, em, cv⟩ := h
        walk_at "mf"
        refine ⟨s2, _, _, o5, o6, vs, fl, rfl, ev, tv, lv, fun j => ?_⟩
        rw [cv, cs_succ]
        by_cases z : n ≤ j
        · rw [if_pos z]
          by_cases z2 : j < n + ys.length
          · rw [if_pos ⟨z, z2⟩]
          · rw [if_neg (by omega), co_ge (l := gg) (by omega), Rat.mul_zero]
        · rw [if_neg z, if_neg (by omega)]
    · obtain ⟨sH, o3, o4, o5, o6, vs, fl, rfl, ev, tv, lv, cv⟩ := h
      walk_at "mf"
      refine ⟨D, vs, fl, rfl, seqU ev, tv, by rw [tv.len]; omega, fun p H3 ws s3 n3 e3 t3 => ?_⟩
      have ee : trimR fl = trimR (conv f gg) := trim_eq fun j => by rw [cv, co_conv, lf, cs_co]
      rw [ee] at t3
      exact k p H3 ws (sH.trans s3) (sH.free n3) e3 t3
theorem ok__law_sum (c : Cn) (T : Tx c) : Cl c 3 "_law_sum" s__law_sum ["one", "other"] (sp_lsum c.K) := by
  obtain ⟨P, w, K, mg, base⟩ := c
  have C__law_plus := ok__law_plus _ T
  have C__law_trimmed := ok__law_trimmed _ T
  refine De.cl (N := ["one", "other", "found", "at", "its"]) T.d__law_sum sc__law_sum (fun vs H Q E h => ?_) (fun f0 cdv A outer s H vs Q E hA hr h => ?_)
  · obtain ⟨a, b, xs, ys, f, gg, A1, B1, rfl, _⟩ := h; rfl
  · have S := sc__law_sum
    obtain ⟨a, b, xs, ys, f, gg, A1, B1, rfl, ha, hb, tf, tg, bf, bg, hA1, hB1, hAB, lx, ly, k⟩ := h
    refine ⟨_, (pss_cons (ps_set (i := 2) S.nd rfl (by first | exact .inl rfl | exact .inr rfl) (pe_op op_addU (pe_callTy call_lstOf (by rfl) T.n_list PyProof.Rows.boot_list (pa_cons (pv 0) pa_nil)) (pe_op op_mulU (pe_lst (pa_cons (pe_tup (pa_cons pe_int (pa_cons pe_int pa_nil))) pa_nil)) (pe_callB (call_max2R rfl) (by rfl) T.n_max (show bootBuiltins "max" = some (.builtin "max") by decide +kernel) (pa_cons pe_int (pa_cons (pe_op op_sub (pe_callB call_lenU (by rfl) T.n_len PySem.boot_len (pa_cons (pv 1) pa_nil)) (pe_callB call_lenU (by rfl) T.n_len PySem.boot_len (pa_cons (pv 0) pa_nil))) pa_nil))))))
      (pss_cons (ps_for PassesOwn.never rfl (pi_or (pi_enum (by rfl) T.n_enumerate (pa_cons (pv 1) pa_nil)) (pi_enumT (by rfl) T.n_enumerate (pa_cons (pv 1) pa_nil))) (pg_tup rfl (pgs_cons (pg_name (i := 3) S.nd rfl (by first | exact .inl rfl | exact .inr rfl)) (pgs_cons (pg_name (i := 4) S.nd rfl (by first | exact .inl rfl | exact .inr rfl)) pgs_nil))) (pss_one (ps_asg (pe_f C__law_plus hA hr (by decide) pl__law_plus (by rfl) (pa_cons (pe_ix ix_seq (pv 2) (pv 3) (fun _ _ => rfl)) (pa_cons (pv 4) pa_nil))) (pg_sub (pv 2) (pv 3) set_list))))
      (pss_one (ps_ret (pe_f C__law_trimmed hA hr (by decide) pl__law_trimmed (by rfl) (pa_cons (pv 2) pa_nil)))))), ?_⟩
    have lf := tf.len
    have lg := tg.len
    have gA : ∀ {H1 H2 : Hp}, Same H1 H2 → Sq K H1 a xs → Sq K H2 a xs := fun s h => h.go (Same.x (q := a + 1) s) (Nat.ne_of_lt (Nat.lt_succ_self a))
    have gB : ∀ {H1 H2 : Hp}, Same H1 H2 → Sq K H1 b ys → Sq K H2 b ys := fun s h => h.go (Same.x (q := b + 1) s) (Nat.ne_of_lt (Nat.lt_succ_self b))
    walk_at "mf"
    refine g_lstOf ha fun pl Hl nl sl el => ?_
    walk_at "mf"
    refine g_newT (by show 2 ≤ sizeLine; decide) fun p0 H0 n0 s0 e0 => ?_
    walk_at "mf"
    refine g_newL (by show 1 ≤ sizeLine; decide) fun p1 H1 n1 s1 e1 => ?_
    walk_at "mf"
    refine g_len (gB s1 (gB s0 (gB sl hb))) ?_
    walk_at "mf"
    refine g_len (gA s1 (gA s0 (gA sl ha))) ?_
    walk_at "mf"
    refine g_max2 ?_
    walk_at "mf"
    obtain ⟨L, hL, eL⟩ : ∃ L : Nat, (if (ys.length : Int) - (xs.length : Int) > 0 then (ys.length : Int) - (xs.length : Int) else 0) = (L : Int) ∧ f.length + L = max f.length gg.length := by
      refine ⟨max f.length gg.length - f.length, ?_, by omega⟩
      split <;> omega
    rw [hL]
    refine g_rep e1 (by omega) (by omega) (by show 1 * _ ≤ sizeLine; rw [Int.toNat_natCast]; exact Nat.le_of_lt (small1000 (by omega))) fun D HD nD sD eD => ?_
    have eD : HD D = some (.lst (List.replicate L (.ref p0))) := by
      rw [eD, Int.toNat_natCast]
      congr 2
      clear eD hL eL
      induction L with
      | zero => rfl
      | succ L ih => rw [List.replicate_succ, List.flatten_cons, ih, List.replicate_succ] <;> rfl
    have tD : TL HD (List.replicate L (.ref p0)) (List.replicate L 0) := TL.rep (r := 0) (sD _ _ (s1 _ _ e0)) L
    have cz : ∀ n, co (List.replicate L 0) n = 0 := fun n => by
      by_cases z : n < L
      · rw [co_get (by rw [List.length_replicate]; exact z), List.getElem_replicate]
      · exact co_ge (by rw [List.length_replicate]; omega)
    have elD := sD _ _ (s1 _ _ (s0 _ _ el))
    have sHD : Same H HD := ((sl.trans s0).trans s1).trans sD
    clear e1 n1 s1 n0 s0 e0 sD nD hL el nl sl
    walk_at "mf"
    refine g_cat elD eD (by rw [List.length_replicate]; exact Nat.le_of_lt (small1000 (by omega))) fun F HF nF sF eF => ?_
    have tF := (tf.go (Same.kt (sHD.trans sF))).app (tD.go (Same.kt sF))
    have sHF := sHD.trans sF
    have nF0 : H F = none := sHD.free nF
    clear tD eD elD
    walk_at "mf"
    refine g_forE (H0 := H) rfl hb (fun m σ' H' => Same H H' ∧ ∃ o3 o4 vs fl, σ' = [some (.ref a), some (.ref b), some (.ref F), o3, o4] ∧ H' F = some (.lst vs) ∧ TL H' vs fl ∧ fl.length = max f.length gg.length ∧ ∀ j, co fl j = co f j + (if j < m then co gg j else 0))
      ⟨sHF, none, none, _, _, rfl, eF, tF, by rw [List.length_append, List.length_replicate, eL], fun j => ?_⟩ (fun n σ' H' h => h.1) (fun m x σ' H' T0 hx h nT => ?_) (fun σ' H' h => ?_)
    · rw [if_neg (Nat.not_lt_zero _), Rat.add_zero, co_append]
      by_cases z : j < f.length
      · rw [if_pos z]
      · rw [if_neg z, cz, co_ge (by omega)]
    · obtain ⟨s2, o3, o4, vs, fl, rfl, ev, tv, lv, cv⟩ := h
      obtain ⟨ai, rfl, ei, _⟩ := (tg.go (Same.kt s2)).get hx
      have hm : m < gg.length := by have := (List.getElem?_eq_some_iff.mp hx).1; omega
      have sT : Same H' (upd H' T0 (.tup [.int (m : Nat), .ref ai])) := same_new nT
      generalize upd H' T0 (.tup [.int (m : Nat), .ref ai]) = Hs at *
      have s3 := s2.trans sT
      have ev := sT _ _ ev
      have tv := tv.go (Same.kt sT)
      have ei := sT _ _ ei
      have hml : m < fl.length := by omega
      have c0 : co fl m = co f m := by rw [cv, if_neg (Nat.lt_irrefl _), Rat.add_zero]
      obtain ⟨pf, hpf, ef⟩ := tv.at hml
      have hlv : m < vs.length := (List.getElem?_eq_some_iff.mp hpf).1
      walk_at "mf"
      refine g_ix (.inl (seqU ev)) (at_of (j := m) (by omega) hpf) ?_
      walk_at "mf"
      refine ⟨pf, ai, co fl m, co gg m, A1, B1, rfl, ef, ei, by rw [c0]; exact bf.co hA1 m, bg.co hB1 m, by omega, fun p2 Hb sb nb eb => ?_⟩
      walk_at "mf"
      have evb := sb _ _ ev
      have kt := upd_kt (o := .lst (vs.set m (.ref p2))) evb
      refine g_setL evb (j := m) ?_ ?_
      · unfold ixN
        rw [if_pos (by omega), if_pos (by omega)]
        congr 1
      walk_at "mf"
      refine ⟨fun c o e => ?_, _, _, _, fl.set m (co fl m + co gg m), rfl, upd_same, ((tv.go (Same.kt sb)).go kt).set (kt _ _ eb) _, by rw [List.length_set]; exact lv, fun j => ?_⟩
      · rw [upd_ne (ne_of_none e nF0)]
        exact sb _ _ (s3 _ _ e)
      · rw [co_set hml]
        by_cases z : j = m
        · subst z
          rw [if_pos rfl, c0, if_pos (by omega)]
        · rw [if_neg z, cv]
          by_cases z2 : j < m
          · rw [if_pos z2, if_pos (by omega)]
          · rw [if_neg z2, if_neg (by omega)]
    · obtain ⟨sH, o3, o4, vs, fl, rfl, ev, tv, lv, cv⟩ := h
      walk_at "mf"
      refine ⟨F, vs, fl, rfl, seqU ev, tv, by rw [tv.len]; omega, fun p H3 ws s3 n3 e3 t3 => ?_⟩
      have ee : trimR fl = trimR (padd f gg) := trim_eq fun j => by
        rw [cv, co_padd]
        by_cases z : j < ys.length
        · rw [if_pos z]
        · rw [if_neg z, co_ge (l := gg) (by omega)]
      rw [ee] at t3
      exact k p H3 ws (sH.trans s3) (sH.free n3) e3 t3
end Mf
namespace Mf
open PySem PySem.Spec PyProof.Rows L2
local macro_rules | `(tactic| walk_at "mf1") => `(tactic| first
  | ((with_reducible apply g_var); exact rfl)
  | with_reducible first
    | refine g_c ?_ | refine g_op ?_ | refine g_un ?_ | refine g_cb ?_ | refine g_cl ?_ | refine g_clk ?_ | refine g_nil ?_ | refine g_cons ?_
    | refine g_tB ?_ | refine g_test ?_ | refine g_bl ?_ | refine g_and ?_ | refine g_or ?_ | refine g_not ?_ | refine g_andV ?_ | refine g_orV ?_ | refine g_notV ?_
    | refine g_if ?_ | refine g_ifS ?_ | refine g_seq ?_ | refine g_next ?_ | refine g_ret ?_ | refine g_drop ?_ | refine g_asg ?_ | refine g_name ?_ | refine g_sub ?_
    | refine g_int ?_ | refine g_intB ?_ | refine g_abs ?_ | refine g_I0 ?_ | refine g_addI ?_ | refine g_U ?_ | refine g_isNn ?_ | refine g_isNi ?_ | refine g_notN ?_ | refine g_notT1 ?_ | refine g_notT2 ?_ | refine g_notT3 ?_ | refine g_notT4 ?_ | refine g_notTb ?_ | refine g_notTi ?_ | refine g_eqI ?_ | refine g_neI ?_ | refine g_neSs ?_ | refine g_neS ?_ | refine g_eqS ?_
    | refine g_iteT ?_ | refine g_iteF ?_ | refine g_iteNT ?_ | refine g_iteNF ?_ | refine g_lst ?_ | refine g_tup ?_ | refine g_seqP ?_ | refine g_sl ?_ | refine g_noPart ?_ | refine g_part ?_ | refine g_yes ?_ | refine g_thenT ?_ | refine g_consG ?_ | refine g_nilG ?_ | refine g_ii ?_ | refine g_par ?_ | refine g_par3 ?_ | refine g_vv ?_ | refine g_vvv ?_ | refine g_reprB ?_ | refine g_lcL ?_ | refine g_lcR ?_
  | ((with_reducible refine g_mod ?_ ?_); (first | omega | decide))
  | ((with_reducible refine g_div ?_ ?_ ?_); (first | omega | decide); (first | assumption | decide))
  | ((with_reducible refine g_mulL ?_ ?_ ?_); (first | omega | decide); (first | omega | decide))
  | ((with_reducible refine g_mulR ?_ ?_ ?_); (first | omega | decide); (first | omega | decide))
  | ((with_reducible refine g_pow ?_ ?_ ?_ ?_); decide; decide; (first | omega | decide))
  | dsimp only)
local macro_rules | `(tactic| walk_at "mf1s") => `(tactic| first
  | ((with_reducible apply g_var); exact rfl)
  | with_reducible first
    | refine g_c ?_ | refine g_op ?_ | refine g_un ?_ | refine g_cb ?_ | refine g_cl ?_ | refine g_clk ?_ | refine g_nil ?_ | refine g_cons ?_
    | refine g_tB ?_ | refine g_test ?_ | refine g_bl ?_ | refine g_and ?_ | refine g_or ?_ | refine g_not ?_ | refine g_andV ?_ | refine g_orV ?_ | refine g_notV ?_
    | refine g_if ?_ | refine g_ifS ?_ | refine g_next ?_ | refine g_ret ?_ | refine g_drop ?_ | refine g_asg ?_ | refine g_name ?_ | refine g_sub ?_
    | refine g_int ?_ | refine g_intB ?_ | refine g_abs ?_ | refine g_I0 ?_ | refine g_addI ?_ | refine g_U ?_ | refine g_isNn ?_ | refine g_isNi ?_ | refine g_notN ?_ | refine g_notT1 ?_ | refine g_notT2 ?_ | refine g_notT3 ?_ | refine g_notT4 ?_ | refine g_notTb ?_ | refine g_notTi ?_ | refine g_eqI ?_ | refine g_neI ?_ | refine g_neSs ?_ | refine g_neS ?_ | refine g_eqS ?_
    | refine g_iteT ?_ | refine g_iteF ?_ | refine g_iteNT ?_ | refine g_iteNF ?_ | refine g_lst ?_ | refine g_tup ?_ | refine g_seqP ?_ | refine g_sl ?_ | refine g_noPart ?_ | refine g_part ?_ | refine g_yes ?_ | refine g_thenT ?_ | refine g_consG ?_ | refine g_nilG ?_ | refine g_ii ?_ | refine g_par ?_ | refine g_par3 ?_ | refine g_vv ?_ | refine g_vvv ?_ | refine g_reprB ?_ | refine g_lcL ?_ | refine g_lcR ?_
  | ((with_reducible refine g_mod ?_ ?_); (first | omega | decide))
  | ((with_reducible refine g_div ?_ ?_ ?_); (first | omega | decide); (first | assumption | decide))
  | ((with_reducible refine g_mulL ?_ ?_ ?_); (first | omega | decide); (first | omega | decide))
  | ((with_reducible refine g_mulR ?_ ?_ ?_); (first | omega | decide); (first | omega | decide))
  | ((with_reducible refine g_pow ?_ ?_ ?_ ?_); decide; decide; (first | omega | decide))
  | dsimp only)
local macro_rules | `(tactic| walk_at "mfs") => `(tactic| repeat walk_at "mf1s")
local macro_rules | `(tactic| walk_at "mf") => `(tactic| repeat walk_at "mf1")
local macro_rules | `(tactic| walk_at "ed") => `(tactic| repeat (first
  | with_reducible first
    | exact eds_nil | apply eds_cons | exact ed_int | exact ed_bl | exact ed_non | apply ed_neg
  | ((with_reducible apply ed_str); decide)
  | ((with_reducible apply ed_var); (exact rfl); (first | assumption | exact Dq.int _))
  | ((with_reducible apply ed_dict0); assumption)
  | ((with_reducible apply ed_dict2); assumption)
  | ((with_reducible apply ed_tup); assumption)
  | ((with_reducible apply ed_lst); assumption)
  | (with_reducible apply ed_pow)
  | (with_reducible apply ed_mul)
  | assumption
  | (exact Dq.int _)
  | (exact ⟨by decide, by decide, by decide⟩)
  | (show List.length _ ≤ 1000; simp only [List.length_cons, List.length_nil]; decide)))
theorem ok__law_row (c : Cn) (T : Tx c) : Cl c 4 "_law_row" s__law_row ["abbot", "most"] (sp_row c.K) := by
  obtain ⟨P, w, K, mg, base⟩ := c
  have C__law_bead := ok__law_bead _ T
  have C__law_fraction := ok__law_fraction _ T
  refine De.cl (N := ["abbot", "most", "at"]) T.d__law_row sc__law_row (fun vs H Q E h => ?_) (fun f0 cdv A outer s H vs Q E hA hr h => ?_)
  · obtain ⟨q, t, m, rfl, _⟩ := h; rfl
  · have S := sc__law_row
    obtain ⟨q, t, m, rfl, hq, ht, m0, m1, k⟩ := h
    refine ⟨_, (pss_one (ps_ret (pe_lc (own := [("at", 2)]) (g := gName 2) (tt := tYes) rfl S.nd (pi_range1 rfl T.n_range (pa_cons (pe_f C__law_bead hA hr (by decide) pl__law_bead (by rfl) (pa_cons (pv 0) (pa_cons (pe_op op_addU (pv 1) pe_int) pa_nil))) pa_nil)) (blkOk_by (N := ["abbot", "most", "at"]) (sc := defScope s__law_row) (by decide +kernel)) (fun _ _ _ _ _ => pg_name (i := 2) S.nd rfl (Or.inl rfl)) (fun _ _ _ _ _ => pts_nil) (fun _ _ _ _ _ => (pe_f C__law_fraction hA hr (by decide) pl__law_fraction (by rfl) (pa_cons (pv 0) pa_nil)))))), ?_⟩
    walk_at "mf"
    refine ⟨q, t, _, rfl, hq, by omega, by omega, Bt.log (n := 20) (by show (m + 1).natAbs < 2 ^ 20; omega) (by decide), fun t1 H1 i sx1 hq1 l1 u1 i0 i1 => ?_⟩
    walk_at "mf"
    refine ⟨_, rfl, by omega, by omega, ?_⟩
    have nH : ∀ {D}, H1 D = none → H D = none := fun {D} hD => by
      cases z : H D with
      | none => rfl
      | some o => exact absurd (show H D ≠ none by rw [z]; exact Option.some_ne_none _) (fresh_x sx1 hq1.at hD)
    refine lcgo_range (n := i.toNat) (fun D j H' => ∃ t' vs rs, Qy K q t' H' ∧ t1 ≤ t' ∧ t' ≤ t1 + 5 * (j : Int) ∧ Qn q D H' ∧ SameX q H H' ∧ H' D = some (.lst vs) ∧ vs.length = j ∧ TL H' vs rs ∧ RbL 12 rs) (fun z => rfl)
      (fun D hD => ⟨t1, [], [], hq1.upd (Qn.new hq1 hD) (hq1.ne hD), by omega, by omega, Qn.upd hq1 (Qn.new hq1 hD) (hq1.ne hD), sx1.trans (Same.x (same_new hD)), upd_same, rfl, .nil, fun r hr => absurd hr List.not_mem_nil⟩) (fun D j H' hD hj h => ?_) (fun D H' hD h => ?_)
    · obtain ⟨t', vs, rs, hq', lt', ut', hn', sx', eD, lv, tl, br⟩ := h
      have nD : D ≠ q := hq1.ne hD
      walk_at "mf"
      refine ⟨q, t', rfl, hq', by omega, fun t6 H6 p r sx6 hq6 l6 u6 np ep bp => ?_⟩
      have hn6 := hn'.go hq' sx6
      have eD6 := sx6 _ _ nD eD
      have kt := upd_kt (o := .lst (vs ++ [.ref p])) eD6
      refine ⟨vs, eD6, small1000 (by omega), t6, vs ++ [.ref p], rs ++ [r], hq6.upd hn6 nD, by omega, by omega, Qn.upd hq6 hn6 nD, ?_, upd_same, by rw [List.length_append, lv]; rfl, ((tl.go (sx6.kt hq')).go kt).snoc (kt _ _ ep), ?_⟩
      · refine ⟨fun b o nb e => ?_, fun c w z e => ?_⟩
        · rw [upd_ne (ne_of_none e (nH hD))]
          exact (sx'.trans sx6).kept b o nb e
        · obtain ⟨w', z', e'⟩ := (sx'.trans sx6).cell c w z e
          exact ⟨w', z', by rw [upd_ne nD.symm]; exact e'⟩
      · intro x hx
        rcases List.mem_append.mp hx with hx | hx
        · exact br x hx
        · rw [List.mem_singleton.mp hx]
          exact bp
    · obtain ⟨t6, vs, rs, hq, l6, u6, hn6, sx6, eD, lv, tl, br⟩ := h
      exact k t6 H' D vs rs sx6 hq (by omega) (by omega) (nH hD) hn6 eD tl br (by rw [← tl.len, lv]; omega)
end Mf
namespace Mf
open PySem PySem.Spec PyProof.Rows L2
local macro_rules | `(tactic| walk_at "mf1") => `(tactic| first
  | ((with_reducible apply g_var); exact rfl)
  | with_reducible first
    | refine g_c ?_ | refine g_op ?_ | refine g_un ?_ | refine g_cb ?_ | refine g_cl ?_ | refine g_clk ?_ | refine g_nil ?_ | refine g_cons ?_
    | refine g_tB ?_ | refine g_test ?_ | refine g_bl ?_ | refine g_and ?_ | refine g_or ?_ | refine g_not ?_ | refine g_andV ?_ | refine g_orV ?_ | refine g_notV ?_
    | refine g_if ?_ | refine g_ifS ?_ | refine g_seq ?_ | refine g_next ?_ | refine g_ret ?_ | refine g_drop ?_ | refine g_asg ?_ | refine g_name ?_ | refine g_sub ?_
    | refine g_int ?_ | refine g_intB ?_ | refine g_abs ?_ | refine g_I0 ?_ | refine g_addI ?_ | refine g_U ?_ | refine g_isNn ?_ | refine g_isNi ?_ | refine g_notN ?_ | refine g_notT1 ?_ | refine g_notT2 ?_ | refine g_notT3 ?_ | refine g_notT4 ?_ | refine g_notTb ?_ | refine g_notTi ?_ | refine g_eqI ?_ | refine g_neI ?_ | refine g_neSs ?_ | refine g_neS ?_ | refine g_eqS ?_
    | refine g_iteT ?_ | refine g_iteF ?_ | refine g_iteNT ?_ | refine g_iteNF ?_ | refine g_lst ?_ | refine g_tup ?_ | refine g_seqP ?_ | refine g_sl ?_ | refine g_noPart ?_ | refine g_part ?_ | refine g_yes ?_ | refine g_thenT ?_ | refine g_consG ?_ | refine g_nilG ?_ | refine g_ii ?_ | refine g_par ?_ | refine g_par3 ?_ | refine g_vv ?_ | refine g_vvv ?_ | refine g_reprB ?_ | refine g_lcL ?_ | refine g_lcR ?_
  | ((with_reducible refine g_mod ?_ ?_); (first | omega | decide))
  | ((with_reducible refine g_div ?_ ?_ ?_); (first | omega | decide); (first | assumption | decide))
  | ((with_reducible refine g_mulL ?_ ?_ ?_); (first | omega | decide); (first | omega | decide))
  | ((with_reducible refine g_mulR ?_ ?_ ?_); (first | omega | decide); (first | omega | decide))
  | ((with_reducible refine g_pow ?_ ?_ ?_ ?_); decide; decide; (first | omega | decide))
  | dsimp only)
local macro_rules | `(tactic| walk_at "mf1s") => `(tactic| first
  | ((with_reducible apply g_var); exact rfl)
  | with_reducible first
    | refine g_c ?_ | refine g_op ?_ | refine g_un ?_ | refine g_cb ?_ | refine g_cl ?_ | refine g_clk ?_ | refine g_nil ?_ | refine g_cons ?_
    | refine g_tB ?_ | refine g_test ?_ | refine g_bl ?_ | refine g_and ?_ | refine g_or ?_ | refine g_not ?_ | refine g_andV ?_ | refine g_orV ?_ | refine g_notV ?_
    | refine g_if ?_ | refine g_ifS ?_ | refine g_next ?_ | refine g_ret ?_ | refine g_drop ?_ | refine g_asg ?_ | refine g_name ?_ | refine g_sub ?_
    | refine g_int ?_ | refine g_intB ?_ | refine g_abs ?_ | refine g_I0 ?_ | refine g_addI ?_ | refine g_U ?_ | refine g_isNn ?_ | refine g_isNi ?_ | refine g_notN ?_ | refine g_notT1 ?_ | refine g_notT2 ?_ | refine g_notT3 ?_ | refine g_notT4 ?_ | refine g_notTb ?_ | refine g_notTi ?_ | refine g_eqI ?_ | refine g_neI ?_ | refine g_neSs ?_ | refine g_neS ?_ | refine g_eqS ?_
    | refine g_iteT ?_ | refine g_iteF ?_ | refine g_iteNT ?_ | refine g_iteNF ?_ | refine g_lst ?_ | refine g_tup ?_ | refine g_seqP ?_ | refine g_sl ?_ | refine g_noPart ?_ | refine g_part ?_ | refine g_yes ?_ | refine g_thenT ?_ | refine g_consG ?_ | refine g_nilG ?_ | refine g_ii ?_ | refine g_par ?_ | refine g_par3 ?_ | refine g_vv ?_ | refine g_vvv ?_ | refine g_reprB ?_ | refine g_lcL ?_ | refine g_lcR ?_
  | ((with_reducible refine g_mod ?_ ?_); (first | omega | decide))
  | ((with_reducible refine g_div ?_ ?_ ?_); (first | omega | decide); (first | assumption | decide))
  | ((with_reducible refine g_mulL ?_ ?_ ?_); (first | omega | decide); (first | omega | decide))
  | ((with_reducible refine g_mulR ?_ ?_ ?_); (first | omega | decide); (first | omega | decide))
  | ((with_reducible refine g_pow ?_ ?_ ?_ ?_); decide; decide; (first | omega | decide))
  | dsimp only)
local macro_rules | `(tactic| walk_at "mfs") => `(tactic| repeat walk_at "mf1s")
local macro_rules | `(tactic| walk_at "mf") => `(tactic| repeat walk_at "mf1")
local macro_rules | `(tactic| walk_at "ed") => `(tactic| repeat (first
  | with_reducible first
    | exact eds_nil | apply eds_cons | exact ed_int | exact ed_bl | exact ed_non | apply ed_neg
  | ((with_reducible apply ed_str); decide)
  | ((with_reducible apply ed_var); (exact rfl); (first | assumption | exact Dq.int _))
  | ((with_reducible apply ed_dict0); assumption)
  | ((with_reducible apply ed_dict2); assumption)
  | ((with_reducible apply ed_tup); assumption)
  | ((with_reducible apply ed_lst); assumption)
  | (with_reducible apply ed_pow)
  | (with_reducible apply ed_mul)
  | assumption
  | (exact Dq.int _)
  | (exact ⟨by decide, by decide, by decide⟩)
  | (show List.length _ ≤ 1000; simp only [List.length_cons, List.length_nil]; decide)))
theorem ok_slope_of (c : Cn) (T : Tx c) : Cl c 7 "slope_of" s_slope_of ["poly"] (sp_slope c.K) := by
  obtain ⟨P, w, K, mg, base⟩ := c
  have C_multiplied := ok_multiplied _ T
  have C_read_poly := ok_read_poly _ T
  refine De.cl (N := ["poly", "numbers", "k", "number"]) T.d_slope_of sc_slope_of (fun vs H Q E h => ?_) (fun f0 cdv A outer s H vs Q E hA hr h => ?_)
  · obtain ⟨q, a, xs, ds, n, rfl, _⟩ := h; rfl
  · have S := sc_slope_of
    obtain ⟨q, a, xs, ds, n, rfl, na, ha, hd, ok, hn0, hn, ld, k⟩ := h
    refine ⟨_, (pss_cons (ps_set (i := 1) S.nd rfl (by first | exact .inl rfl | exact .inr rfl) (pe_f C_read_poly hA hr (by decide) pl_read_poly (by rfl) (pa_cons (pv 0) (pa_cons pe_str pa_nil))))
      (pss_one (ps_ret (pe_tupleOf (by rfl) T.n_tuple (pe_lc (own := [("k", 2), ("number", 3)]) (g := g2 K 2 3) rfl S.nd (pi_enumT (by rfl) T.n_enumerate (pa_cons (pv 1) pa_nil)) (blkOk_by (N := ["poly", "numbers", "k", "number"]) (sc := defScope s_slope_of) (by decide +kernel)) (fun _ _ _ _ _ => pg_tup rfl (pgs_cons (pg_name (i := 2) S.nd rfl (Or.inl rfl)) (pgs_cons (pg_name (i := 3) S.nd rfl (Or.inl rfl)) pgs_nil))) (fun _ _ _ _ _ => pts_one (pt_cmpR op_gt (pv 2) pe_int (nomark _))) (fun _ _ _ _ _ => (pe_f C_multiplied hA hr (by decide) pl_multiplied (by rfl) (pa_cons (pv 2) (pa_cons (pv 3) pa_nil))))))))), ?_⟩
    walk_at "mf"
    refine ⟨q, a, xs, ds, n, _, rfl, na, ha, hd, ok, by omega, ld, fun p1 H1 w1 s1 n1 e1 t1 => ?_⟩
    have bl : RbL n (trimR (ds.map valQ)) := RbL.trim fun r hr => by
      obtain ⟨d, hd, rfl⟩ := List.mem_map.mp hr
      obtain ⟨f1, f2, f3⟩ := ok d hd
      exact Rb.of (fr_dn f1) f2 f3
    have ll : (trimR (ds.map valQ)).length ≤ 80 := by
      have := len_trim_le (ds.map valQ)
      rw [List.length_map] at this
      omega
    generalize trimR (ds.map valQ) = rs at *
    have l1 := t1.len
    walk_at "mf"
    refine g_lcE ?_
    walk_at "mf"
    refine ⟨p1, w1, rfl, tupU e1, ?_⟩
    refine lcgo_enumT (xs := w1) (fun D m H' => Same H1 H' ∧ ∃ vs, H' D = some (.lst vs) ∧ vs.length = m - 1 ∧ TL H' vs ((slope rs).take (m - 1))) (fun x y => rfl)
      (fun D hD => ⟨same_new hD, [], upd_same, rfl, .nil⟩) (fun D m H' _ h => tupU (h.1 _ _ e1)) (fun D m x T0 H' hD hx h nT => ?_) (fun D H' hD h => ?_)
    · obtain ⟨h1, vs, h2, h3, h4⟩ := h
      obtain ⟨pn, rfl, en, _⟩ := (t1.go (Same.kt h1)).get hx
      have hm : m < rs.length := by have := (List.getElem?_eq_some_iff.mp hx).1; omega
      have sT : Same H' (upd H' T0 (.tup [.int (m : Nat), .ref pn])) := same_new nT
      generalize upd H' T0 (.tup [.int (m : Nat), .ref pn]) = Ha at *
      have h1 := h1.trans sT
      have h2 := sT _ _ h2
      have h4 := h4.go (Same.kt sT)
      have en := sT _ _ en
      walk_at "mf"
      refine g_ite (fun hc => ?_) (fun hc => ?_)
      · have hc := of_decide_eq_true hc
        obtain ⟨j, rfl⟩ : ∃ j, m = j + 1 := ⟨m - 1, by omega⟩
        walk_at "mf"
        have Fk : Fr D K Ha (.int ((j + 1 : Nat) : Int)) (((j + 1 : Nat)) : Rat) 10 := by
          have z := Fr.int (q := D) (K := K) (H := Ha) (i := ((j + 1 : Nat) : Int)) (n := 10) (by show ((j + 1 : Nat) : Int).natAbs < 2 ^ 10; rw [Int.natAbs_natCast]; omega) (by decide)
          rw [div_nat] at z
          exact z
        refine ⟨D, _, _, _, _, 10, n, rfl, Fk, fr_at h2 en (bl.co hn0 _), by omega, fun p2 Hc sc nc ec => ?_⟩
        have eD := sc _ _ h2
        have kt := upd_kt (o := .lst (vs ++ [.ref p2])) eD
        refine ⟨vs, eD, small1000 (by omega), ?_, vs ++ [.ref p2], upd_same, by rw [List.length_append, h3]; rfl, ?_⟩
        · intro c o e
          rw [upd_ne (ne_of_none e hD)]
          exact sc _ _ (h1 _ _ e)
        · show TL _ _ ((slope rs).take (j + 1))
          rw [take_snoc (get_slope hm)]
          exact ((h4.go (Same.kt sc)).go kt).snoc (kt _ _ ec)
      · have hc := of_decide_eq_false hc
        obtain rfl : m = 0 := by omega
        exact ⟨h1, vs, h2, h3, h4⟩
    · obtain ⟨h1, vs, h2, h3, h4⟩ := h
      rw [l1, ← len_slope, List.take_length] at h4
      walk_at "mf"
      refine g_tupOf (seqU h2) fun p3 H3 n3 s3 e3 => ?_
      exact k p3 H3 vs ((s1.trans h1).trans s3) ((s1.trans h1).free n3) e3 (h4.go (Same.kt s3))
end Mf
namespace Mf
open PySem PySem.Spec PyProof.Rows L2
local macro_rules | `(tactic| walk_at "mf1") => `(tactic| first
  | ((with_reducible apply g_var); exact rfl)
  | with_reducible first
    | refine g_c ?_ | refine g_op ?_ | refine g_un ?_ | refine g_cb ?_ | refine g_cl ?_ | refine g_clk ?_ | refine g_nil ?_ | refine g_cons ?_
    | refine g_tB ?_ | refine g_test ?_ | refine g_bl ?_ | refine g_and ?_ | refine g_or ?_ | refine g_not ?_ | refine g_andV ?_ | refine g_orV ?_ | refine g_notV ?_
    | refine g_if ?_ | refine g_ifS ?_ | refine g_seq ?_ | refine g_next ?_ | refine g_ret ?_ | refine g_drop ?_ | refine g_asg ?_ | refine g_name ?_ | refine g_sub ?_
    | refine g_int ?_ | refine g_intB ?_ | refine g_abs ?_ | refine g_I0 ?_ | refine g_addI ?_ | refine g_U ?_ | refine g_isNn ?_ | refine g_isNi ?_ | refine g_notN ?_ | refine g_notT1 ?_ | refine g_notT2 ?_ | refine g_notT3 ?_ | refine g_notT4 ?_ | refine g_notTb ?_ | refine g_notTi ?_ | refine g_eqI ?_ | refine g_neI ?_ | refine g_neSs ?_ | refine g_neS ?_ | refine g_eqS ?_
    | refine g_iteT ?_ | refine g_iteF ?_ | refine g_iteNT ?_ | refine g_iteNF ?_ | refine g_lst ?_ | refine g_tup ?_ | refine g_seqP ?_ | refine g_sl ?_ | refine g_noPart ?_ | refine g_part ?_ | refine g_yes ?_ | refine g_thenT ?_ | refine g_consG ?_ | refine g_nilG ?_ | refine g_ii ?_ | refine g_par ?_ | refine g_par3 ?_ | refine g_vv ?_ | refine g_vvv ?_ | refine g_reprB ?_ | refine g_lcL ?_ | refine g_lcR ?_
  | ((with_reducible refine g_mod ?_ ?_); (first | omega | decide))
  | ((with_reducible refine g_div ?_ ?_ ?_); (first | omega | decide); (first | assumption | decide))
  | ((with_reducible refine g_mulL ?_ ?_ ?_); (first | omega | decide); (first | omega | decide))
  | ((with_reducible refine g_mulR ?_ ?_ ?_); (first | omega | decide); (first | omega | decide))
  | ((with_reducible refine g_pow ?_ ?_ ?_ ?_); decide; decide; (first | omega | decide))
  | dsimp only)
local macro_rules | `(tactic| walk_at "mf1s") => `(tactic| first
  | ((with_reducible apply g_var); exact rfl)
  | with_reducible first
    | refine g_c ?_ | refine g_op ?_ | refine g_un ?_ | refine g_cb ?_ | refine g_cl ?_ | refine g_clk ?_ | refine g_nil ?_ | refine g_cons ?_
    | refine g_tB ?_ | refine g_test ?_ | refine g_bl ?_ | refine g_and ?_ | refine g_or ?_ | refine g_not ?_ | refine g_andV ?_ | refine g_orV ?_ | refine g_notV ?_
    | refine g_if ?_ | refine g_ifS ?_ | refine g_next ?_ | refine g_ret ?_ | refine g_drop ?_ | refine g_asg ?_ | refine g_name ?_ | refine g_sub ?_
    | refine g_int ?_ | refine g_intB ?_ | refine g_abs ?_ | refine g_I0 ?_ | refine g_addI ?_ | refine g_U ?_ | refine g_isNn ?_ | refine g_isNi ?_ | refine g_notN ?_ | refine g_notT1 ?_ | refine g_notT2 ?_ | refine g_notT3 ?_ | refine g_notT4 ?_ | refine g_notTb ?_ | refine g_notTi ?_ | refine g_eqI ?_ | refine g_neI ?_ | refine g_neSs ?_ | refine g_neS ?_ | refine g_eqS ?_
    | refine g_iteT ?_ | refine g_iteF ?_ | refine g_iteNT ?_ | refine g_iteNF ?_ | refine g_lst ?_ | refine g_tup ?_ | refine g_seqP ?_ | refine g_sl ?_ | refine g_noPart ?_ | refine g_part ?_ | refine g_yes ?_ | refine g_thenT ?_ | refine g_consG ?_ | refine g_nilG ?_ | refine g_ii ?_ | refine g_par ?_ | refine g_par3 ?_ | refine g_vv ?_ | refine g_vvv ?_ | refine g_reprB ?_ | refine g_lcL ?_ | refine g_lcR ?_
  | ((with_reducible refine g_mod ?_ ?_); (first | omega | decide))
  | ((with_reducible refine g_div ?_ ?_ ?_); (first | omega | decide); (first | assumption | decide))
  | ((with_reducible refine g_mulL ?_ ?_ ?_); (first | omega | decide); (first | omega | decide))
  | ((with_reducible refine g_mulR ?_ ?_ ?_); (first | omega | decide); (first | omega | decide))
  | ((with_reducible refine g_pow ?_ ?_ ?_ ?_); decide; decide; (first | omega | decide))
  | dsimp only)
local macro_rules | `(tactic| walk_at "mfs") => `(tactic| repeat walk_at "mf1s")
local macro_rules | `(tactic| walk_at "mf") => `(tactic| repeat walk_at "mf1")
local macro_rules | `(tactic| walk_at "ed") => `(tactic| repeat (first
  | with_reducible first
    | exact eds_nil | apply eds_cons | exact ed_int | exact ed_bl | exact ed_non | apply ed_neg
  | ((with_reducible apply ed_str); decide)
  | ((with_reducible apply ed_var); (exact rfl); (first | assumption | exact Dq.int _))
  | ((with_reducible apply ed_dict0); assumption)
  | ((with_reducible apply ed_dict2); assumption)
  | ((with_reducible apply ed_tup); assumption)
  | ((with_reducible apply ed_lst); assumption)
  | (with_reducible apply ed_pow)
  | (with_reducible apply ed_mul)
  | assumption
  | (exact Dq.int _)
  | (exact ⟨by decide, by decide, by decide⟩)
  | (show List.length _ ≤ 1000; simp only [List.length_cons, List.length_nil]; decide)))
theorem ok_over_one_down (c : Cn) (T : Tx c) : Cl c 1 "over_one_down" s_over_one_down ["some"] (sp_oood c.K) := by
  obtain ⟨P, w, K, mg, base⟩ := c
  refine De.cl (N := ["some", "down", "_", "below", "up"]) T.d_over_one_down sc_over_one_down (fun vs H Q E h => ?_) (fun f0 cdv A outer s H vs Q E hA hr h => ?_)
  · obtain ⟨a, xs, rs, n, rfl, _⟩ := h; rfl
  · have S := sc_over_one_down
    obtain ⟨a, xs, rs, n, rfl, ea, tl, bl, hl, hn, hs, k⟩ := h
    refine ⟨_, (pss_cons (ps_set (i := 1) S.nd rfl (by first | exact .inl rfl | exact .inr rfl) pe_int)
      (pss_cons (ps_for PassesOwn.never rfl (pi_tup (pv 0)) (pg_tup rfl (pgs_cons (pg_name (i := 2) S.nd rfl (by first | exact .inl rfl | exact .inr rfl)) (pgs_cons (pg_name (i := 3) S.nd rfl (by first | exact .inl rfl | exact .inr rfl)) pgs_nil))) (pss_one (ps_set (i := 1) S.nd rfl (by first | exact .inl rfl | exact .inr rfl) (pe_callBfun cr_lcm (by rfl) T.m_lcm (pa_cons (pv 1) (pa_cons (pv 3) pa_nil))))))
      (pss_one (ps_ret (pe_tup (pa_cons (pe_lc (own := [("up", 4), ("below", 3)]) (g := g2 K 4 3) (tt := tYes) rfl S.nd (pi_tup (pv 0)) (blkOk_by (N := ["some", "down", "_", "below", "up"]) (sc := defScope s_over_one_down) (by decide +kernel)) (fun _ _ _ _ _ => pg_tup rfl (pgs_cons (pg_name (i := 4) S.nd rfl (Or.inl rfl)) (pgs_cons (pg_name (i := 3) S.nd rfl (Or.inl rfl)) pgs_nil))) (fun _ _ _ _ _ => pts_nil) (fun _ _ _ _ _ => (pe_op op_mulU (pv 4) (pe_op op_fdivW (pv 1) (pv 3))))) (pa_cons (pv 1) pa_nil))))))), ?_⟩
    have hlen := tl.len
    have bt : ∀ i, Bt 5000 (lcmL (rs.take i) : Int) := fun i => by
      refine (lcmL_bt (n := n) (bl.take (k := i))).mono ?_
      have : (rs.take i).length * n ≤ rs.length * n := Nat.mul_le_mul_right _ (by rw [List.length_take]; omega)
      omega
    walk_at "mf"
    refine g_forTP (H0 := H) rfl ea tl (fun i σ' H' => H' = H ∧ ∃ s2 s3, σ' = [some (.ref a), some (.int (lcmL (rs.take i) : Int)), s2, s3, none]) ⟨rfl, _, _, rfl⟩ (fun i σ' H' h => by rw [h.1]; exact Same.refl H) (fun i σ' H' hi gi h => ?_) (fun σ' H' h => ?_)
    · obtain ⟨rfl, s2, s3, rfl⟩ := h
      walk_at "mf"
      refine g_lcm (bt i) ((bl.co hn i).2.mono (by omega)) ?_
      walk_at "mf"
      refine ⟨rfl, some (.int (co rs i).num), some (.int ((co rs i).den : Int)), ?_⟩
      rw [take_snoc gi, lcmL_snoc, Int.natAbs_natCast, Int.natAbs_natCast]
      rfl
    · obtain ⟨rfl, s2, s3, rfl⟩ := h
      rw [List.take_length]
      have hpos := lcmL_pos rs
      have hbt := lcmL_bt bl
      have h9 : rs.length * n + 1 ≤ 8999 := by omega
      have dv := (dvd_fold rs 1).2
      generalize hD : lcmL rs = D at *
      have dv : ∀ r ∈ rs, r.den ∣ D := by rw [← hD]; exact dv
      walk_at "mf"
      refine g_lcTu ?_
      walk_at "mf"
      refine ⟨a, rfl, ⟨_, tupU ea⟩, ?_⟩
      refine lcgo_tupP ea tl (fun L i H2 => Same H' H2 ∧ ∃ us : List Int, H2 L = some (.lst (us.map V.int)) ∧ us.length = i ∧ ∀ j, j < i → ∃ u, us[j]? = some u ∧ Rat.divInt u (D : Int) = co rs j ∧ Bt (n + (rs.length * n + 1)) u) (fun x y => rfl)
        (fun L hL => ⟨same_new hL, [], upd_same, rfl, fun j hj => absurd hj (Nat.not_lt_zero _)⟩) (fun L i H2 h => h.1) (fun L i H2 hL hi gi h => ?_) (fun L H2 hL h => ?_)
      · obtain ⟨h1, us, h2, h3, h4⟩ := h
        have br := bl.co hn i
        have hdv : (co rs i).den ∣ D := dv _ (List.mem_of_getElem? gi)
        have bq : Bt (rs.length * n + 1) ((D : Int) / ((co rs i).den : Int)) := by
          refine Nat.lt_of_le_of_lt (Int.natAbs_ediv_le_natAbs _ _) hbt
        walk_at "mf"
        refine g_div (by have := den1 (co rs i); omega) (br.2.log (by omega)) ?_
        walk_at "mf"
        refine g_mulU (br.1.cm bq (by omega)) ?_
        walk_at "mf"
        refine ⟨_, h2, small1000 (by rw [List.length_map]; omega), ?_, us ++ [(co rs i).num * ((D : Int) / ((co rs i).den : Int))], ?_, by rw [List.length_append, h3]; rfl, fun j hj => ?_⟩
        · intro c o e
          rw [upd_ne (ne_of_none e hL)]
          exact h1 _ _ e
        · rw [upd_same, List.map_append]
          rfl
        · by_cases z : j < i
          · obtain ⟨u, e1, e2⟩ := h4 j z
            exact ⟨u, by rw [List.getElem?_append_left (by omega)]; exact e1, e2⟩
          · have e : j = i := by omega
            subst e
            refine ⟨_, ?_, one_down hpos hdv, br.1.mul bq⟩
            rw [List.getElem?_append_right (by omega), h3, Nat.sub_self]
            rfl
      · obtain ⟨h1, us, h2, h3, h4⟩ := h
        walk_at "mf"
        refine g_newT (by show 2 ≤ sizeLine; decide) fun p H3 np s3 e3 => ?_
        rw [← hD] at e3 h4
        exact k p H3 L us (h1.trans s3) (h1.free np) e3 (s3 _ _ h2) h3 h4
end Mf
namespace Mf
open PySem PySem.Spec PyProof.Rows L2
local macro_rules | `(tactic| walk_at "mf1") => `(tactic| first
  | ((with_reducible apply g_var); exact rfl)
  | with_reducible first
    | refine g_c ?_ | refine g_op ?_ | refine g_un ?_ | refine g_cb ?_ | refine g_cl ?_ | refine g_clk ?_ | refine g_nil ?_ | refine g_cons ?_
    | refine g_tB ?_ | refine g_test ?_ | refine g_bl ?_ | refine g_and ?_ | refine g_or ?_ | refine g_not ?_ | refine g_andV ?_ | refine g_orV ?_ | refine g_notV ?_
    | refine g_if ?_ | refine g_ifS ?_ | refine g_seq ?_ | refine g_next ?_ | refine g_ret ?_ | refine g_drop ?_ | refine g_asg ?_ | refine g_name ?_ | refine g_sub ?_
    | refine g_int ?_ | refine g_intB ?_ | refine g_abs ?_ | refine g_I0 ?_ | refine g_addI ?_ | refine g_U ?_ | refine g_isNn ?_ | refine g_isNi ?_ | refine g_notN ?_ | refine g_notT1 ?_ | refine g_notT2 ?_ | refine g_notT3 ?_ | refine g_notT4 ?_ | refine g_notTb ?_ | refine g_notTi ?_ | refine g_eqI ?_ | refine g_neI ?_ | refine g_neSs ?_ | refine g_neS ?_ | refine g_eqS ?_
    | refine g_iteT ?_ | refine g_iteF ?_ | refine g_iteNT ?_ | refine g_iteNF ?_ | refine g_lst ?_ | refine g_tup ?_ | refine g_seqP ?_ | refine g_sl ?_ | refine g_noPart ?_ | refine g_part ?_ | refine g_yes ?_ | refine g_thenT ?_ | refine g_consG ?_ | refine g_nilG ?_ | refine g_ii ?_ | refine g_par ?_ | refine g_par3 ?_ | refine g_vv ?_ | refine g_vvv ?_ | refine g_reprB ?_ | refine g_lcL ?_ | refine g_lcR ?_
  | ((with_reducible refine g_mod ?_ ?_); (first | omega | decide))
  | ((with_reducible refine g_div ?_ ?_ ?_); (first | omega | decide); (first | assumption | decide))
  | ((with_reducible refine g_mulL ?_ ?_ ?_); (first | omega | decide); (first | omega | decide))
  | ((with_reducible refine g_mulR ?_ ?_ ?_); (first | omega | decide); (first | omega | decide))
  | ((with_reducible refine g_pow ?_ ?_ ?_ ?_); decide; decide; (first | omega | decide))
  | dsimp only)
local macro_rules | `(tactic| walk_at "mf1s") => `(tactic| first
  | ((with_reducible apply g_var); exact rfl)
  | with_reducible first
    | refine g_c ?_ | refine g_op ?_ | refine g_un ?_ | refine g_cb ?_ | refine g_cl ?_ | refine g_clk ?_ | refine g_nil ?_ | refine g_cons ?_
    | refine g_tB ?_ | refine g_test ?_ | refine g_bl ?_ | refine g_and ?_ | refine g_or ?_ | refine g_not ?_ | refine g_andV ?_ | refine g_orV ?_ | refine g_notV ?_
    | refine g_if ?_ | refine g_ifS ?_ | refine g_next ?_ | refine g_ret ?_ | refine g_drop ?_ | refine g_asg ?_ | refine g_name ?_ | refine g_sub ?_
    | refine g_int ?_ | refine g_intB ?_ | refine g_abs ?_ | refine g_I0 ?_ | refine g_addI ?_ | refine g_U ?_ | refine g_isNn ?_ | refine g_isNi ?_ | refine g_notN ?_ | refine g_notT1 ?_ | refine g_notT2 ?_ | refine g_notT3 ?_ | refine g_notT4 ?_ | refine g_notTb ?_ | refine g_notTi ?_ | refine g_eqI ?_ | refine g_neI ?_ | refine g_neSs ?_ | refine g_neS ?_ | refine g_eqS ?_
    | refine g_iteT ?_ | refine g_iteF ?_ | refine g_iteNT ?_ | refine g_iteNF ?_ | refine g_lst ?_ | refine g_tup ?_ | refine g_seqP ?_ | refine g_sl ?_ | refine g_noPart ?_ | refine g_part ?_ | refine g_yes ?_ | refine g_thenT ?_ | refine g_consG ?_ | refine g_nilG ?_ | refine g_ii ?_ | refine g_par ?_ | refine g_par3 ?_ | refine g_vv ?_ | refine g_vvv ?_ | refine g_reprB ?_ | refine g_lcL ?_ | refine g_lcR ?_
  | ((with_reducible refine g_mod ?_ ?_); (first | omega | decide))
  | ((with_reducible refine g_div ?_ ?_ ?_); (first | omega | decide); (first | assumption | decide))
  | ((with_reducible refine g_mulL ?_ ?_ ?_); (first | omega | decide); (first | omega | decide))
  | ((with_reducible refine g_mulR ?_ ?_ ?_); (first | omega | decide); (first | omega | decide))
  | ((with_reducible refine g_pow ?_ ?_ ?_ ?_); decide; decide; (first | omega | decide))
  | dsimp only)
local macro_rules | `(tactic| walk_at "mfs") => `(tactic| repeat walk_at "mf1s")
local macro_rules | `(tactic| walk_at "mf") => `(tactic| repeat walk_at "mf1")
local macro_rules | `(tactic| walk_at "ed") => `(tactic| repeat (first
  | with_reducible first
    | exact eds_nil | apply eds_cons | exact ed_int | exact ed_bl | exact ed_non | apply ed_neg
  | ((with_reducible apply ed_str); decide)
  | ((with_reducible apply ed_var); (exact rfl); (first | assumption | exact Dq.int _))
  | ((with_reducible apply ed_dict0); assumption)
  | ((with_reducible apply ed_dict2); assumption)
  | ((with_reducible apply ed_tup); assumption)
  | ((with_reducible apply ed_lst); assumption)
  | (with_reducible apply ed_pow)
  | (with_reducible apply ed_mul)
  | assumption
  | (exact Dq.int _)
  | (exact ⟨by decide, by decide, by decide⟩)
  | (show List.length _ ≤ 1000; simp only [List.length_cons, List.length_nil]; decide)))
theorem ok_times_whole (c : Cn) (T : Tx c) : Cl c 1 "times_whole" s_times_whole ["one", "other"] (sp_twhole c.K) := by
  obtain ⟨P, w, K, mg, base⟩ := c
  refine De.cl (N := ["one", "other", "product", "k", "number", "i", "more", "_"]) T.d_times_whole sc_times_whole (fun vs H Q E h => ?_) (fun f0 cdv A outer s H vs Q E hA hr h => ?_)
  · obtain ⟨a, b, us, vv, A1, B1, rfl, _⟩ := h; rfl
  · have S := sc_times_whole
    obtain ⟨a, b, us, vv, A1, B1, rfl, ea, eb, bu, bv, hAB, lf9, lg9, k⟩ := h
    refine ⟨_, (pss_cons (ps_if (PW.pt (pw_or (pt_not (pt_truth (pv 0) (fun _ => rfl))) (pw_or1 (pt_not (pt_truth (pv 1) (fun _ => rfl)))))) (pss_one (ps_ret (pe_lst pa_nil))) pss_nil)
      (pss_cons (ps_setLc (i := 2) (own := [("_", 7)]) (g := gName 7) (tt := tYes) rfl S.nd rfl rfl (sw_true rfl rfl rfl (by decide +kernel)) (pi_range1 rfl T.n_range (pa_cons (pe_op op_sub (pe_op op_addU (pe_callB call_lenU (by rfl) T.n_len PySem.boot_len (pa_cons (pv 0) pa_nil)) (pe_callB call_lenU (by rfl) T.n_len PySem.boot_len (pa_cons (pv 1) pa_nil))) pe_int) pa_nil)) (blkOk_by (N := ["one", "other", "product", "k", "number", "i", "more", "_"]) (sc := defScope s_times_whole) (by decide +kernel)) (fun _ _ _ _ _ => pg_name (i := 7) S.nd rfl (Or.inl rfl)) (fun _ _ _ _ _ => pts_nil) (fun _ _ _ _ _ => pe_int))
      (pss_cons (ps_for PassesOwn.never rfl (pi_or (pi_enum (by rfl) T.n_enumerate (pa_cons (pv 0) pa_nil)) (pi_enumT (by rfl) T.n_enumerate (pa_cons (pv 0) pa_nil))) (pg_tup rfl (pgs_cons (pg_name (i := 3) S.nd rfl (by first | exact .inl rfl | exact .inr rfl)) (pgs_cons (pg_name (i := 4) S.nd rfl (by first | exact .inl rfl | exact .inr rfl)) pgs_nil))) (pss_one (ps_for PassesOwn.never rfl (pi_or (pi_enum (by rfl) T.n_enumerate (pa_cons (pv 1) pa_nil)) (pi_enumT (by rfl) T.n_enumerate (pa_cons (pv 1) pa_nil))) (pg_tup rfl (pgs_cons (pg_name (i := 5) S.nd rfl (by first | exact .inl rfl | exact .inr rfl)) (pgs_cons (pg_name (i := 6) S.nd rfl (by first | exact .inl rfl | exact .inr rfl)) pgs_nil))) (pss_one (ps_augS (pv 2) (pe_op op_addU (pv 3) (pv 5)) pget_list (pe_op op_mulU (pv 4) (pv 6)) ip_add set_list)))))
      (pss_one (ps_ret (pv 2)))))), ?_⟩
    walk_at "mf"
    by_cases nf : us = []
    · refine ⟨false, .inl ⟨_, ea, by rw [nf]; rfl⟩, ?_⟩
      walk_at "mf"
      refine g_newL (by show 0 ≤ sizeLine; decide) fun p H' n s e => ?_
      exact k p H' s n (by rw [e, iconv_no (.inl nf)]; rfl)
    refine ⟨true, .inl ⟨_, ea, by cases us with | nil => exact absurd rfl nf | cons _ _ => rfl⟩, ?_⟩
    walk_at "mf"
    by_cases ng : vv = []
    · refine ⟨false, .inl ⟨_, eb, by rw [ng]; rfl⟩, ?_⟩
      walk_at "mf"
      refine g_newL (by show 0 ≤ sizeLine; decide) fun p H' n s e => ?_
      exact k p H' s n (by rw [e, iconv_no (.inr ng)]; rfl)
    refine ⟨true, .inl ⟨_, eb, by cases vv with | nil => exact absurd rfl ng | cons _ _ => rfl⟩, ?_⟩
    have f0 : 0 < us.length := List.length_pos_iff.mpr nf
    have g0 : 0 < vv.length := List.length_pos_iff.mpr ng
    walk_at "mf"
    refine g_len (.inl ea) ?_
    walk_at "mf"
    refine g_len (.inl eb) ?_
    walk_at "mf"
    rw [List.length_map, List.length_map]
    refine ⟨_, rfl, by omega, by omega, ?_⟩
    obtain ⟨N, hN⟩ : ∃ N : Nat, N = us.length + vv.length - 1 := ⟨_, rfl⟩
    rw [show ((us.length : Int) + (vv.length : Int) - 1).toNat = N by omega]
    refine lcgo_range (n := N) (fun D j H' => Same H H' ∧ H' D = some (.lst ((List.replicate j (0 : Int)).map V.int))) (fun z => rfl) (fun D hD => ⟨same_new hD, upd_same⟩) (fun D j H' hD hj h => ?_) (fun D H4 hD h => ?_)
    · obtain ⟨h1, h2⟩ := h
      walk_at "mf"
      refine ⟨_, h2, small1000 (by rw [List.length_map, List.length_replicate]; omega), ?_, ?_⟩
      · intro c o e
        rw [upd_ne (ne_of_none e hD)]
        exact h1 _ _ e
      · rw [upd_same, List.replicate_succ', List.map_append]
        rfl
    obtain ⟨s4, eD⟩ := h
    walk_at "mf"
    refine g_forE (H0 := H) rfl (.inl ea) (fun n σ' H' => Same H H' ∧ ∃ o3 o4 o5 o6, ∃ ps : List Int, σ' = [some (.ref a), some (.ref b), some (.ref D), o3, o4, o5, o6, none] ∧ H' D = some (.lst (ps.map V.int)) ∧ ps.length = N ∧ ∀ j, j < N → ps[j]? = some (ics (ic us) (ic vv) n j))
      ⟨s4, none, none, none, none, _, rfl, eD, List.length_replicate .., fun j hj => by rw [List.getElem?_replicate, if_pos hj]; rfl⟩ (fun n σ' H' h => h.1) (fun n x σ' H' T0 hx h nT => ?_) (fun σ' H' h => ?_)
    · obtain ⟨sH, o3, o4, o5, o6, ps, rfl, ev, lps, cv⟩ := h
      rw [List.getElem?_map] at hx
      obtain ⟨u, hu1, rfl⟩ := Option.map_eq_some_iff.mp hx
      have hn : n < us.length := (List.getElem?_eq_some_iff.mp hu1).1
      have eu : ic us n = u := ic_some hu1
      have bu' := bu u (List.mem_of_getElem? hu1)
      have sT : Same H' (upd H' T0 (.tup [.int (n : Nat), .int u])) := same_new nT
      generalize upd H' T0 (.tup [.int (n : Nat), .int u]) = Hs at *
      walk_at "mf"
      refine g_forE (H0 := H) rfl (.inl eb) (fun m σ' H' => Same H H' ∧ ∃ o5 o6, ∃ ps : List Int, σ' = [some (.ref a), some (.ref b), some (.ref D), some (.int (n : Nat)), some (.int u), o5, o6, none] ∧ H' D = some (.lst (ps.map V.int)) ∧ ps.length = N ∧
          ∀ j, j < N → ps[j]? = some (ics (ic us) (ic vv) n j + (if n ≤ j ∧ j < n + m then ic us n * ic vv (j - n) else 0)))
        ⟨sH.trans sT, o5, o6, ps, rfl, sT _ _ ev, lps, fun j hj => by rw [cv j hj, if_neg (by omega), Int.add_zero]⟩ (fun n σ' H' h => h.1) (fun m y σ' H2 T1 hy h nT1 => ?_) (fun σ' H2 h => ?_)
      · obtain ⟨s2, o5, o6, ps, rfl, ev, lv, cv⟩ := h
        rw [List.getElem?_map] at hy
        obtain ⟨v, hv1, rfl⟩ := Option.map_eq_some_iff.mp hy
        have hm : m < vv.length := (List.getElem?_eq_some_iff.mp hv1).1
        have ev' : ic vv m = v := ic_some hv1
        have bv' := bv v (List.mem_of_getElem? hv1)
        have sT1 : Same H2 (upd H2 T1 (.tup [.int (m : Nat), .int v])) := same_new nT1
        generalize upd H2 T1 (.tup [.int (m : Nat), .int v]) = Ht at *
        have s3 := s2.trans sT1
        have ev := sT1 _ _ ev
        have hnm : n + m < N := by omega
        have hw1 := cv (n + m) hnm
        rw [if_neg (by omega), Int.add_zero] at hw1
        refine g_augS ?_
        walk_at "mf"
        rw [show ((n : Nat) : Int) + ((m : Nat) : Int) = ((n + m : Nat) : Int) by omega]
        refine g_getL (seqU ev) (v := .int (ics (ic us) (ic vv) n (n + m))) (by rw [List.getElem?_map, hw1]; rfl) ?_
        walk_at "mf"
        refine g_mulU (bu'.cm bv' (by omega)) ?_
        refine g_ipI ?_
        refine g_setL ev (j := n + m) ?_ ?_
        · unfold ixN
          rw [if_pos (by omega), if_pos (by rw [List.length_map]; omega)]
          congr 1
        refine ⟨fun c o e => ?_, _, _, ps.set (n + m) (ics (ic us) (ic vv) n (n + m) + u * v), rfl, ?_, by rw [List.length_set]; exact lv, fun j hj => ?_⟩
        · rw [upd_ne (ne_of_none e hD)]
          exact s3 _ _ e
        · rw [upd_same, List.map_set]
        · by_cases z : j = n + m
          · subst z
            rw [List.getElem?_set_self (by omega), if_pos (by omega), show n + m - n = m by omega, eu, ev']
          · rw [List.getElem?_set_ne (by omega), cv j hj]
            by_cases z2 : n ≤ j ∧ j < n + m
            · rw [if_pos z2, if_pos (by omega)]
            · rw [if_neg z2, if_neg (by omega)]
      · obtain ⟨s2, o5, o6, ps, rfl, ev, lvp, cv⟩ := h
        walk_at "mf"
        refine ⟨s2, _, _, o5, o6, ps, rfl, ev, lvp, fun j hj => ?_⟩
        rw [cv j hj, ics_succ, List.length_map]
        by_cases z : n ≤ j
        · rw [if_pos z]
          by_cases z2 : j < n + vv.length
          · rw [if_pos ⟨z, z2⟩]
          · rw [if_neg (by omega), ic_ge (P := vv) (by omega), Int.mul_zero]
        · rw [if_neg z, if_neg (by omega)]
    · obtain ⟨sH, o3, o4, o5, o6, ps, rfl, ev, lv, cv⟩ := h
      rw [List.length_map] at cv
      walk_at "mf"
      have e : ps = iconv us vv := List.ext_getElem? fun j => by
        by_cases z : j < N
        · rw [cv j z, get_iconv nf ng (by omega)]
        · rw [List.getElem?_eq_none (by omega), List.getElem?_eq_none (by rw [len_iconv nf ng]; omega)]
      rw [e] at ev
      exact k D H' sH hD ev
end Mf
namespace Mf
open PySem PySem.Spec PyProof.Rows L2
local macro_rules | `(tactic| walk_at "mf1") => `(tactic| first
  | ((with_reducible apply g_var); exact rfl)
  | with_reducible first
    | refine g_c ?_ | refine g_op ?_ | refine g_un ?_ | refine g_cb ?_ | refine g_cl ?_ | refine g_clk ?_ | refine g_nil ?_ | refine g_cons ?_
    | refine g_tB ?_ | refine g_test ?_ | refine g_bl ?_ | refine g_and ?_ | refine g_or ?_ | refine g_not ?_ | refine g_andV ?_ | refine g_orV ?_ | refine g_notV ?_
    | refine g_if ?_ | refine g_ifS ?_ | refine g_seq ?_ | refine g_next ?_ | refine g_ret ?_ | refine g_drop ?_ | refine g_asg ?_ | refine g_name ?_ | refine g_sub ?_
    | refine g_int ?_ | refine g_intB ?_ | refine g_abs ?_ | refine g_I0 ?_ | refine g_addI ?_ | refine g_U ?_ | refine g_isNn ?_ | refine g_isNi ?_ | refine g_notN ?_ | refine g_notT1 ?_ | refine g_notT2 ?_ | refine g_notT3 ?_ | refine g_notT4 ?_ | refine g_notTb ?_ | refine g_notTi ?_ | refine g_eqI ?_ | refine g_neI ?_ | refine g_neSs ?_ | refine g_neS ?_ | refine g_eqS ?_
    | refine g_iteT ?_ | refine g_iteF ?_ | refine g_iteNT ?_ | refine g_iteNF ?_ | refine g_lst ?_ | refine g_tup ?_ | refine g_seqP ?_ | refine g_sl ?_ | refine g_noPart ?_ | refine g_part ?_ | refine g_yes ?_ | refine g_thenT ?_ | refine g_consG ?_ | refine g_nilG ?_ | refine g_ii ?_ | refine g_par ?_ | refine g_par3 ?_ | refine g_vv ?_ | refine g_vvv ?_ | refine g_reprB ?_ | refine g_lcL ?_ | refine g_lcR ?_
  | ((with_reducible refine g_mod ?_ ?_); (first | omega | decide))
  | ((with_reducible refine g_div ?_ ?_ ?_); (first | omega | decide); (first | assumption | decide))
  | ((with_reducible refine g_mulL ?_ ?_ ?_); (first | omega | decide); (first | omega | decide))
  | ((with_reducible refine g_mulR ?_ ?_ ?_); (first | omega | decide); (first | omega | decide))
  | ((with_reducible refine g_pow ?_ ?_ ?_ ?_); decide; decide; (first | omega | decide))
  | dsimp only)
local macro_rules | `(tactic| walk_at "mf1s") => `(tactic| first
  | ((with_reducible apply g_var); exact rfl)
  | with_reducible first
    | refine g_c ?_ | refine g_op ?_ | refine g_un ?_ | refine g_cb ?_ | refine g_cl ?_ | refine g_clk ?_ | refine g_nil ?_ | refine g_cons ?_
    | refine g_tB ?_ | refine g_test ?_ | refine g_bl ?_ | refine g_and ?_ | refine g_or ?_ | refine g_not ?_ | refine g_andV ?_ | refine g_orV ?_ | refine g_notV ?_
    | refine g_if ?_ | refine g_ifS ?_ | refine g_next ?_ | refine g_ret ?_ | refine g_drop ?_ | refine g_asg ?_ | refine g_name ?_ | refine g_sub ?_
    | refine g_int ?_ | refine g_intB ?_ | refine g_abs ?_ | refine g_I0 ?_ | refine g_addI ?_ | refine g_U ?_ | refine g_isNn ?_ | refine g_isNi ?_ | refine g_notN ?_ | refine g_notT1 ?_ | refine g_notT2 ?_ | refine g_notT3 ?_ | refine g_notT4 ?_ | refine g_notTb ?_ | refine g_notTi ?_ | refine g_eqI ?_ | refine g_neI ?_ | refine g_neSs ?_ | refine g_neS ?_ | refine g_eqS ?_
    | refine g_iteT ?_ | refine g_iteF ?_ | refine g_iteNT ?_ | refine g_iteNF ?_ | refine g_lst ?_ | refine g_tup ?_ | refine g_seqP ?_ | refine g_sl ?_ | refine g_noPart ?_ | refine g_part ?_ | refine g_yes ?_ | refine g_thenT ?_ | refine g_consG ?_ | refine g_nilG ?_ | refine g_ii ?_ | refine g_par ?_ | refine g_par3 ?_ | refine g_vv ?_ | refine g_vvv ?_ | refine g_reprB ?_ | refine g_lcL ?_ | refine g_lcR ?_
  | ((with_reducible refine g_mod ?_ ?_); (first | omega | decide))
  | ((with_reducible refine g_div ?_ ?_ ?_); (first | omega | decide); (first | assumption | decide))
  | ((with_reducible refine g_mulL ?_ ?_ ?_); (first | omega | decide); (first | omega | decide))
  | ((with_reducible refine g_mulR ?_ ?_ ?_); (first | omega | decide); (first | omega | decide))
  | ((with_reducible refine g_pow ?_ ?_ ?_ ?_); decide; decide; (first | omega | decide))
  | dsimp only)
local macro_rules | `(tactic| walk_at "mfs") => `(tactic| repeat walk_at "mf1s")
local macro_rules | `(tactic| walk_at "mf") => `(tactic| repeat walk_at "mf1")
local macro_rules | `(tactic| walk_at "ed") => `(tactic| repeat (first
  | with_reducible first
    | exact eds_nil | apply eds_cons | exact ed_int | exact ed_bl | exact ed_non | apply ed_neg
  | ((with_reducible apply ed_str); decide)
  | ((with_reducible apply ed_var); (exact rfl); (first | assumption | exact Dq.int _))
  | ((with_reducible apply ed_dict0); assumption)
  | ((with_reducible apply ed_dict2); assumption)
  | ((with_reducible apply ed_tup); assumption)
  | ((with_reducible apply ed_lst); assumption)
  | (with_reducible apply ed_pow)
  | (with_reducible apply ed_mul)
  | assumption
  | (exact Dq.int _)
  | (exact ⟨by decide, by decide, by decide⟩)
  | (show List.length _ ≤ 1000; simp only [List.length_cons, List.length_nil]; decide)))
theorem ok_poly_of (c : Cn) (T : Tx c) : Cl c 7 "poly_of" s_poly_of ["value"] (sp_polyof c.K) := by
  obtain ⟨P, w, K, mg, base⟩ := c
  have C_read_poly := ok_read_poly _ T
  refine De.cl (N := ["value"]) T.d_poly_of sc_poly_of (fun vs H Q E h => ?_) (fun f0 cdv A outer s H vs Q E hA hr h => ?_)
  · obtain ⟨q, a, xs, ds, n, rfl, _⟩ := h; rfl
  · have S := sc_poly_of
    obtain ⟨q, a, xs, ds, n, rfl, na, ha, hd, ok, hn, ld, k⟩ := h
    refine ⟨_, (pss_one (ps_ret (pe_f C_read_poly hA hr (by decide) pl_read_poly (by rfl) (pa_cons (pv 0) (pa_cons pe_str pa_nil))))), ?_⟩
    walk_at "mf"
    exact ⟨q, a, xs, ds, n, _, rfl, na, ha, hd, ok, hn, ld, k⟩
theorem ok_poly_times (c : Cn) (T : Tx c) : Cl c 7 "poly_times" s_poly_times ["one", "other"] (sp_ptimes c.K) := by
  obtain ⟨P, w, K, mg, base⟩ := c
  have C_over_one_down := ok_over_one_down _ T
  have C_read_poly := ok_read_poly _ T
  have C_reduced := ok_reduced _ T
  have C_times_whole := ok_times_whole _ T
  refine De.cl (N := ["one", "other", "first", "down", "second", "below", "product", "up"]) T.d_poly_times sc_poly_times (fun vs H Q E h => ?_) (fun f0 cdv A outer s H vs Q E hA hr h => ?_)
  · obtain ⟨q, a, b, xs, ys, ds, es, n, A1, B1, rfl, _⟩ := h; rfl
  · have S := sc_poly_times
    obtain ⟨q, a, b, xs, ys, ds, es, n, A1, B1, rfl, na, nb, ha, hb, hd, he, okd, oke, hn, ld, le, bA, bB, hA1, hB1, sA, sB, small, k⟩ := h
    refine ⟨_, (pss_cons (ps_asg (pe_tup (pa_cons (pe_f C_over_one_down hA hr (by decide) pl_over_one_down (by rfl) (pa_cons (pe_f C_read_poly hA hr (by decide) pl_read_poly (by rfl) (pa_cons (pv 0) (pa_cons pe_str pa_nil))) pa_nil)) (pa_cons (pe_f C_over_one_down hA hr (by decide) pl_over_one_down (by rfl) (pa_cons (pe_f C_read_poly hA hr (by decide) pl_read_poly (by rfl) (pa_cons (pv 1) (pa_cons pe_str pa_nil))) pa_nil)) pa_nil))) (pg_tup rfl (pgs_cons (pg_tup rfl (pgs_cons (pg_name (i := 2) S.nd rfl (by first | exact .inl rfl | exact .inr rfl)) (pgs_cons (pg_name (i := 3) S.nd rfl (by first | exact .inl rfl | exact .inr rfl)) pgs_nil))) (pgs_cons (pg_tup rfl (pgs_cons (pg_name (i := 4) S.nd rfl (by first | exact .inl rfl | exact .inr rfl)) (pgs_cons (pg_name (i := 5) S.nd rfl (by first | exact .inl rfl | exact .inr rfl)) pgs_nil))) pgs_nil))))
      (pss_cons (ps_set (i := 6) S.nd rfl (by first | exact .inl rfl | exact .inr rfl) (pe_f C_times_whole hA hr (by decide) pl_times_whole (by rfl) (pa_cons (pv 2) (pa_cons (pv 4) pa_nil))))
      (pss_cons (ps_if (pt_cmpR op_gt (pe_callB call_lenU (by rfl) T.n_len PySem.boot_len (pa_cons (pv 6) pa_nil)) (pe_globI (i := 80) (by rfl) T.c_MOST_NUMBERS) (nomark _)) (pss_one ps_never) pss_nil)
      (pss_one (ps_ret (pe_tupleOf (by rfl) T.n_tuple (pe_lc (own := [("up", 7)]) (g := gName 7) (tt := tYes) rfl S.nd (pi_list (pv 6)) (blkOk_by (N := ["one", "other", "first", "down", "second", "below", "product", "up"]) (sc := defScope s_poly_times) (by decide +kernel)) (fun _ _ _ _ _ => pg_name (i := 7) S.nd rfl (Or.inl rfl)) (fun _ _ _ _ _ => pts_nil) (fun _ _ _ _ _ => (pe_f C_reduced hA hr (by decide) pl_reduced (by rfl) (pa_cons (pv 7) (pa_cons (pe_op op_mulU (pv 3) (pv 5)) pa_nil))))))))))), ?_⟩
    have l1 := len_trim_le (ds.map valQ)
    rw [List.length_map] at l1
    have l2 := len_trim_le (es.map valQ)
    rw [List.length_map] at l2
    have trf := tr_trim (ds.map valQ)
    have trg := tr_trim (es.map valQ)
    walk_at "mf"
    refine ⟨q, a, xs, ds, n, _, rfl, na, ha, hd, okd, hn, ld, fun p1 H1 w1 s1 n1 e1 t1 => ?_⟩
    generalize trimR (ds.map valQ) = f at *
    walk_at "mf"
    refine ⟨p1, w1, f, A1, rfl, e1, t1, bA, by omega, hA1, by omega, fun p2 H2 L1 us s2 n2 e2 eL1 lu hu => ?_⟩
    have s12 := s1.trans s2
    walk_at "mf"
    refine ⟨q, b, ys, es, n, _, rfl, nb, hb.go (Same.x s12) nb, he.go (Same.x s12), oke, hn, le, fun p3 H3 w3 s3 n3 e3 t3 => ?_⟩
    generalize trimR (es.map valQ) = gg at *
    walk_at "mf"
    refine ⟨p3, w3, gg, B1, rfl, e3, t3, bB, by omega, hB1, by omega, fun p4 H4 L2 vv s4 n4 e4 eL2 lv hv => ?_⟩
    have s34 := s3.trans s4
    have s14 := s12.trans s34
    have e2 := s34 _ _ e2
    have eL1 := s34 _ _ eL1
    have hD1 := lcmL_pos f
    have hD2 := lcmL_pos gg
    have bD1 := lcmL_bt bA
    have bD2 := lcmL_bt bB
    generalize lcmL f = D1 at *
    generalize lcmL gg = D2 at *
    walk_at "mf"
    refine g_newT (by show 2 ≤ sizeLine; decide) fun p5 H5 n5 s5 e5 => ?_
    refine g_tupG (tupU e5) rfl ?_
    walk_at "mf"
    refine g_tupG (tupU (s5 _ _ e2)) rfl ?_
    walk_at "mf"
    refine g_tupG (tupU (s5 _ _ e4)) rfl ?_
    have eL1 := s5 _ _ eL1
    have eL2 := s5 _ _ eL2
    have s15 := s14.trans s5
    have qu := divs_co lu hu
    have qv := divs_co lv hv
    walk_at "mf"
    refine ⟨L1, L2, us, vv, _, _, rfl, seqU eL1, seqU eL2, divs_bt lu hu, divs_bt lv hv, by omega, by omega, by omega, fun p6 H6 s6 n6 e6 => ?_⟩
    have s16 := s15.trans s6
    clear e1 e2 e3 e4 e5 n1 n2 n3 n4 n5 s2 s3 s4 s5 s12 s34 s14 t1 t3
    walk_at "mf"
    refine g_len (.inl (seqU e6)) ?_
    walk_at "mf"
    rw [List.length_map]
    have lz : (iconv us vv).length ≤ 80 := by
      by_cases z1 : us = []
      · rw [iconv_no (.inl z1)]; exact Nat.zero_le _
      · by_cases z2 : vv = []
        · rw [iconv_no (.inr z2)]; exact Nat.zero_le _
        · rw [len_iconv z1 z2, lu, lv]
          rcases small with z | z
          · exact absurd (List.length_eq_zero_iff.mp (by rw [lv, z]; rfl)) z2
          · omega
    rw [decide_eq_false (show ¬ (80 : Int) < ((iconv us vv).length : Int) by omega)]
    walk_at "mf"
    have eC := iconv_conv (D := (D1 : Int)) (E := (D2 : Int)) (by omega) (by omega) lu lv qu qv trf trg
    have d11 : 1 ≤ (D1 : Int) * (D2 : Int) := mul_ge1 (by omega) (by omega)
    rw [← eC] at k
    generalize iconv us vv = ps at *
    refine ⟨p6, rfl, ⟨_, seqU e6⟩, ?_⟩
    refine lcgo_listF (xs := ps.map V.int) (fun L i H2 => Same H6 H2 ∧ ∃ vs, H2 L = some (.lst vs) ∧ vs.length = i ∧ TL H2 vs ((ps.map fun z => Rat.divInt z ((D1 : Int) * D2)).take i)) (fun z => rfl) (fun L hL => ⟨same_new hL, [], upd_same, rfl, .nil⟩) (fun L i H2 _ h => h.1.seq (seqU e6)) (fun L i x H2 hL hx h => ?_) (fun L H2 hL h => ?_)
    · obtain ⟨h1, vs, h2, h3, h4⟩ := h
      rw [List.getElem?_map] at hx
      obtain ⟨w, hw1, rfl⟩ := Option.map_eq_some_iff.mp hx
      have hi := (List.getElem?_eq_some_iff.mp hw1).1
      walk_at "mf"
      refine g_mulU (bD1.cm bD2 (by omega)) ?_
      walk_at "mf"
      refine ⟨w, _, rfl, d11, (bD1.mul bD2).mono (by omega), fun p7 H7 s7 n7 e7 => ?_⟩
      have eL := s7 _ _ h2
      have kt := upd_kt (o := .lst (vs ++ [.ref p7])) eL
      refine ⟨vs, eL, small1000 (by omega), ?_, vs ++ [.ref p7], upd_same, by rw [List.length_append, h3]; rfl, ?_⟩
      · intro c o e
        rw [upd_ne (ne_of_none e hL)]
        exact s7 _ _ (h1 _ _ e)
      · have gc : (ps.map fun z => Rat.divInt z ((D1 : Int) * D2))[i]? = some (Rat.divInt w ((D1 : Int) * D2)) := by rw [List.getElem?_map, hw1]; rfl
        rw [take_snoc gc]
        exact ((h4.go (Same.kt s7)).go kt).snoc (kt _ _ e7)
    · obtain ⟨h1, vs, h2, h3, h4⟩ := h
      rw [List.length_map, show ps.length = (ps.map fun z => Rat.divInt z ((D1 : Int) * D2)).length by rw [List.length_map], List.take_length] at h4
      walk_at "mf"
      refine g_tupOf (seqU h2) fun p7 H7 n7 s7 e7 => ?_
      exact k p7 H7 vs ((s16.trans h1).trans s7) ((s16.trans h1).free n7) e7 (h4.go (Same.kt s7))
end Mf
namespace Mf
open PySem PySem.Spec PyProof.Rows L2
local macro_rules | `(tactic| walk_at "mf1") => `(tactic| first
  | ((with_reducible apply g_var); exact rfl)
  | with_reducible first
    | refine g_c ?_ | refine g_op ?_ | refine g_un ?_ | refine g_cb ?_ | refine g_cl ?_ | refine g_clk ?_ | refine g_nil ?_ | refine g_cons ?_
    | refine g_tB ?_ | refine g_test ?_ | refine g_bl ?_ | refine g_and ?_ | refine g_or ?_ | refine g_not ?_ | refine g_andV ?_ | refine g_orV ?_ | refine g_notV ?_
    | refine g_if ?_ | refine g_ifS ?_ | refine g_seq ?_ | refine g_next ?_ | refine g_ret ?_ | refine g_drop ?_ | refine g_asg ?_ | refine g_name ?_ | refine g_sub ?_
    | refine g_int ?_ | refine g_intB ?_ | refine g_abs ?_ | refine g_I0 ?_ | refine g_addI ?_ | refine g_U ?_ | refine g_isNn ?_ | refine g_isNi ?_ | refine g_notN ?_ | refine g_notT1 ?_ | refine g_notT2 ?_ | refine g_notT3 ?_ | refine g_notT4 ?_ | refine g_notTb ?_ | refine g_notTi ?_ | refine g_eqI ?_ | refine g_neI ?_ | refine g_neSs ?_ | refine g_neS ?_ | refine g_eqS ?_
    | refine g_iteT ?_ | refine g_iteF ?_ | refine g_iteNT ?_ | refine g_iteNF ?_ | refine g_lst ?_ | refine g_tup ?_ | refine g_seqP ?_ | refine g_sl ?_ | refine g_noPart ?_ | refine g_part ?_ | refine g_yes ?_ | refine g_thenT ?_ | refine g_consG ?_ | refine g_nilG ?_ | refine g_ii ?_ | refine g_par ?_ | refine g_par3 ?_ | refine g_vv ?_ | refine g_vvv ?_ | refine g_reprB ?_ | refine g_lcL ?_ | refine g_lcR ?_
  | ((with_reducible refine g_mod ?_ ?_); (first | omega | decide))
  | ((with_reducible refine g_div ?_ ?_ ?_); (first | omega | decide); (first | assumption | decide))
  | ((with_reducible refine g_mulL ?_ ?_ ?_); (first | omega | decide); (first | omega | decide))
  | ((with_reducible refine g_mulR ?_ ?_ ?_); (first | omega | decide); (first | omega | decide))
  | ((with_reducible refine g_pow ?_ ?_ ?_ ?_); decide; decide; (first | omega | decide))
  | dsimp only)
local macro_rules | `(tactic| walk_at "mf1s") => `(tactic| first
  | ((with_reducible apply g_var); exact rfl)
  | with_reducible first
    | refine g_c ?_ | refine g_op ?_ | refine g_un ?_ | refine g_cb ?_ | refine g_cl ?_ | refine g_clk ?_ | refine g_nil ?_ | refine g_cons ?_
    | refine g_tB ?_ | refine g_test ?_ | refine g_bl ?_ | refine g_and ?_ | refine g_or ?_ | refine g_not ?_ | refine g_andV ?_ | refine g_orV ?_ | refine g_notV ?_
    | refine g_if ?_ | refine g_ifS ?_ | refine g_next ?_ | refine g_ret ?_ | refine g_drop ?_ | refine g_asg ?_ | refine g_name ?_ | refine g_sub ?_
    | refine g_int ?_ | refine g_intB ?_ | refine g_abs ?_ | refine g_I0 ?_ | refine g_addI ?_ | refine g_U ?_ | refine g_isNn ?_ | refine g_isNi ?_ | refine g_notN ?_ | refine g_notT1 ?_ | refine g_notT2 ?_ | refine g_notT3 ?_ | refine g_notT4 ?_ | refine g_notTb ?_ | refine g_notTi ?_ | refine g_eqI ?_ | refine g_neI ?_ | refine g_neSs ?_ | refine g_neS ?_ | refine g_eqS ?_
    | refine g_iteT ?_ | refine g_iteF ?_ | refine g_iteNT ?_ | refine g_iteNF ?_ | refine g_lst ?_ | refine g_tup ?_ | refine g_seqP ?_ | refine g_sl ?_ | refine g_noPart ?_ | refine g_part ?_ | refine g_yes ?_ | refine g_thenT ?_ | refine g_consG ?_ | refine g_nilG ?_ | refine g_ii ?_ | refine g_par ?_ | refine g_par3 ?_ | refine g_vv ?_ | refine g_vvv ?_ | refine g_reprB ?_ | refine g_lcL ?_ | refine g_lcR ?_
  | ((with_reducible refine g_mod ?_ ?_); (first | omega | decide))
  | ((with_reducible refine g_div ?_ ?_ ?_); (first | omega | decide); (first | assumption | decide))
  | ((with_reducible refine g_mulL ?_ ?_ ?_); (first | omega | decide); (first | omega | decide))
  | ((with_reducible refine g_mulR ?_ ?_ ?_); (first | omega | decide); (first | omega | decide))
  | ((with_reducible refine g_pow ?_ ?_ ?_ ?_); decide; decide; (first | omega | decide))
  | dsimp only)
local macro_rules | `(tactic| walk_at "mfs") => `(tactic| repeat walk_at "mf1s")
local macro_rules | `(tactic| walk_at "mf") => `(tactic| repeat walk_at "mf1")
local macro_rules | `(tactic| walk_at "ed") => `(tactic| repeat (first
  | with_reducible first
    | exact eds_nil | apply eds_cons | exact ed_int | exact ed_bl | exact ed_non | apply ed_neg
  | ((with_reducible apply ed_str); decide)
  | ((with_reducible apply ed_var); (exact rfl); (first | assumption | exact Dq.int _))
  | ((with_reducible apply ed_dict0); assumption)
  | ((with_reducible apply ed_dict2); assumption)
  | ((with_reducible apply ed_tup); assumption)
  | ((with_reducible apply ed_lst); assumption)
  | (with_reducible apply ed_pow)
  | (with_reducible apply ed_mul)
  | assumption
  | (exact Dq.int _)
  | (exact ⟨by decide, by decide, by decide⟩)
  | (show List.length _ ≤ 1000; simp only [List.length_cons, List.length_nil]; decide)))
theorem ok_value_at (c : Cn) (T : Tx c) : Cl c 7 "value_at" s_value_at ["poly", "at"] (sp_pval c.K) := by
  obtain ⟨P, w, K, mg, base⟩ := c
  have C_added := ok_added _ T
  have C_is_fraction := ok_is_fraction _ T
  have C_multiplied := ok_multiplied _ T
  have C_read_poly := ok_read_poly _ T
  refine De.cl (N := ["poly", "at", "numbers", "total", "number"]) T.d_value_at sc_value_at (fun vs H Q E h => ?_) (fun f0 cdv A outer s H vs Q E hA hr h => ?_)
  · obtain ⟨q, a, v, xs, ds, x, n, A1, B1, rfl, _⟩ := h; rfl
  · have S := sc_value_at
    obtain ⟨q, a, v, xs, ds, x, n, A1, B1, rfl, na, ha, hd, ok, hn, ld, hv, bB, hB1, hs, hqt, k⟩ := h
    refine ⟨_, (pss_cons (ps_set (i := 2) S.nd rfl (by first | exact .inl rfl | exact .inr rfl) (pe_f C_read_poly hA hr (by decide) pl_read_poly (by rfl) (pa_cons (pv 0) (pa_cons pe_str pa_nil))))
      (pss_cons (ps_if (pt_not (pt_val (pe_f C_is_fraction hA hr (by decide) pl_is_fraction (by rfl) (pa_cons (pv 1) pa_nil)))) (pss_one ps_never) pss_nil)
      (pss_cons (ps_set (i := 3) S.nd rfl (by first | exact .inl rfl | exact .inr rfl) (pe_tup (pa_cons pe_int (pa_cons pe_int pa_nil))))
      (pss_cons (ps_for PassesOwn.never rfl (RT.pi_revA (by rfl) T.n_reversed (pv 2)) (pg_name (i := 4) S.nd rfl (by first | exact .inl rfl | exact .inr rfl)) (pss_one (ps_set (i := 3) S.nd rfl (by first | exact .inl rfl | exact .inr rfl) (pe_f C_added hA hr (by decide) pl_added (by rfl) (pa_cons (pe_f C_multiplied hA hr (by decide) pl_multiplied (by rfl) (pa_cons (pv 3) (pa_cons (pv 1) pa_nil))) (pa_cons (pv 4) pa_nil))))))
      (pss_one (ps_ret (pv 3))))))), ?_⟩
    have l1 := len_trim_le (ds.map valQ)
    rw [List.length_map] at l1
    walk_at "mf"
    refine ⟨q, a, xs, ds, n, _, rfl, na, ha, hd, ok, hn, ld, fun p1 H1 w1 s1 n1 e1 t1 => ?_⟩
    have vt := val_trim (ds.map valQ) x
    generalize trimR (ds.map valQ) = f at *
    have lw := t1.len
    have hv := hv.go (Same.x s1)
    obtain ⟨d, hdv, hfv, _⟩ := id hv
    walk_at "mf"
    refine ⟨q, v, d, rfl, hdv, ?_⟩
    rw [hfv]
    walk_at "mf"
    refine g_newT (by show 2 ≤ sizeLine; decide) fun p2 H2 n2 s2 e2 => ?_
    walk_at "mf"
    obtain ⟨acc, hqt⟩ := hqt
    have npq : ∀ {p : Addr} {Hz : Hp} {zs : List V}, Same H Hz → Hz p = some (.tup zs) → p ≠ q := fun s e => ne_tl (s _ _ hqt) e
    refine g_forRT (H0 := H1) rfl e1 (fun i σ' H' => Same H1 H' ∧ ∃ pt s4, σ' = [some (.ref a), some v, some (.ref p1), some (.ref pt), s4] ∧ H pt = none ∧ H' pt = some (.tup (rv (hor (co f) x (f.length - i) i)))) ⟨s2, p2, none, rfl, s1.free n2, e2⟩ (fun i σ' H' h => h.1) (fun i y σ' H' hi hy h => ?_) (fun σ' H' h => ?_)
    · obtain ⟨sH, pt, s4, rfl, npt, et⟩ := h
      obtain ⟨b, rfl, eb, gb⟩ := (t1.go (Same.kt sH)).get hy
      have bt : Rb (1 + i * (A1 + B1 + 1)) (hor (co f) x (f.length - i) i) := Rb.hor (fun j => bB.co hB1 j) hv.rb i _
      have si : i * (A1 + B1 + 1) + (A1 + B1 + 1) ≤ f.length * (A1 + B1 + 1) := by
        rw [← Nat.succ_mul]
        exact Nat.mul_le_mul_right _ (by omega)
      have hv' := hv.go (Same.x sH)
      walk_at "mf"
      refine ⟨q, _, _, _, _, _, A1, rfl, .tup (tupU et) (npq (s1.trans sH) et) bt, hv', by omega, fun p3 H3 s3 n3 e3 => ?_⟩
      have np3 : p3 ≠ q := npq ((s1.trans sH).trans s3) e3
      have nb : b ≠ q := npq (s1.trans sH) eb
      walk_at "mf"
      refine ⟨q, _, _, _, _, _, B1, rfl, .tup (tupU e3) np3 (bt.mul hv.rb), .tup (tupU (s3 _ _ eb)) nb (bB.co hB1 _), by omega, fun p4 H4 s4' n4 e4 => ?_⟩
      walk_at "mf"
      refine ⟨(sH.trans s3).trans s4', p4, _, rfl, ((s1.trans sH).trans s3).free n4, ?_⟩
      rw [lw] at e4
      rw [show f.length - i = f.length - (i + 1) + 1 by omega, show f.length - 1 - i = f.length - (i + 1) by omega] at e4
      exact e4
    · obtain ⟨sH, pt, s4, rfl, npt, et⟩ := h
      walk_at "mf"
      rw [lw, Nat.sub_self, hor_snoc] at et
      have ee : evs (fun i => co f (0 + i)) x f.length = val (ds.map valQ) x := by
        rw [← vt]
        exact evs_congr (fun i => by rw [Nat.zero_add]) x _
      rw [ee] at et
      exact k pt H' (s1.trans sH) npt et
theorem ok__law_value (c : Cn) (T : Tx c) : Cl c 3 "_law_value" s__law_value ["row", "at"] (sp_lval c.K) := by
  obtain ⟨P, w, K, mg, base⟩ := c
  have C__law_plus := ok__law_plus _ T
  have C__law_times := ok__law_times _ T
  refine De.cl (N := ["row", "at", "found", "power", "number"]) T.d__law_value sc__law_value (fun vs H Q E h => ?_) (fun f0 cdv A outer s H vs Q E hA hr h => ?_)
  · obtain ⟨a, b, xs, rs, x, A1, B1, C1, rfl, _⟩ := h; rfl
  · have S := sc__law_value
    obtain ⟨a, b, xs, rs, x, A1, B1, C1, rfl, ha, tl, eb, bx, bl, hB1, hC, hs, lx, k⟩ := h
    refine ⟨_, (pss_cons (ps_asg (pe_tup (pa_cons (pe_tup (pa_cons pe_int (pa_cons pe_int pa_nil))) (pa_cons (pe_tup (pa_cons pe_int (pa_cons pe_int pa_nil))) pa_nil))) (pg_tup rfl (pgs_cons (pg_name (i := 2) S.nd rfl (by first | exact .inl rfl | exact .inr rfl)) (pgs_cons (pg_name (i := 3) S.nd rfl (by first | exact .inl rfl | exact .inr rfl)) pgs_nil))))
      (pss_cons (ps_for PassesOwn.never rfl (pi_or (pi_list (pv 0)) (pi_tup (pv 0))) (pg_name (i := 4) S.nd rfl (by first | exact .inl rfl | exact .inr rfl)) (pss_one (ps_par (i := 2) (j := 3) (by rfl) S.nd rfl rfl (by decide) rfl rfl (pa_cons (pe_f C__law_plus hA hr (by decide) pl__law_plus (by rfl) (pa_cons (pv 2) (pa_cons (pe_f C__law_times hA hr (by decide) pl__law_times (by rfl) (pa_cons (pv 4) (pa_cons (pv 3) pa_nil))) pa_nil))) (pa_cons (pe_f C__law_times hA hr (by decide) pl__law_times (by rfl) (pa_cons (pv 3) (pa_cons (pv 1) pa_nil))) pa_nil)) (by rfl))))
      (pss_one (ps_ret (pv 2))))), ?_⟩
    have lw := tl.len
    walk_at "mf"
    refine g_newT (by show 2 ≤ sizeLine; decide) fun p1 H1 n1 s1 e1 => ?_
    walk_at "mf"
    refine g_newT (by show 2 ≤ sizeLine; decide) fun p2 H2 n2 s2 e2 => ?_
    walk_at "mf"
    refine g_newT (by show 2 ≤ sizeLine; decide) fun p3 H3 n3 s3 e3 => ?_
    refine g_tupG (tupU e3) rfl ?_
    walk_at "mf"
    have s0 := (s1.trans s2).trans s3
    refine g_forS rfl (ha.go (Same.x (q := a + 1) s0) (Nat.ne_of_lt (Nat.lt_succ_self a))) (fun i σ' H' => Same H3 H' ∧ ∃ pf pp s4, σ' = [some (.ref a), some (.ref b), some (.ref pf), some (.ref pp), s4] ∧ H pf = none ∧ H' pf = some (.tup (rv (evs (co rs) x i))) ∧ H' pp = some (.tup (rv (x ^ i)))) ⟨Same.refl _, p1, p2, none, rfl, n1, s3 _ _ (s2 _ _ e1), by rw [Rat.pow_zero]; exact s3 _ _ e2⟩ (fun i σ' H' h => h.1) (fun i y σ' H' hy h => ?_) (fun σ' H' h => ?_)
    · obtain ⟨sH, pf, pp, s4, rfl, npf, ef, ep⟩ := h
      obtain ⟨c, rfl, ec, gc⟩ := (tl.go (Same.kt (s0.trans sH))).get hy
      have hi : i < rs.length := (List.getElem?_eq_some_iff.mp gc).1
      have iA : i * A1 + A1 ≤ rs.length * A1 := by
        rw [← Nat.succ_mul]
        exact Nat.mul_le_mul_right _ (by omega)
      rw [Nat.succ_mul] at hs
      have eb' := sH _ _ (s0 _ _ eb)
      walk_at "mf"
      refine ⟨c, pp, co rs i, x ^ i, B1, 1 + i * A1, rfl, ec, ep, bl.co hB1 i, bx.pow i, by omega, fun p4 H4 s4' n4 e4 => ?_⟩
      walk_at "mf"
      refine ⟨pf, p4, _, _, C1, B1 + (1 + i * A1), rfl, s4' _ _ ef, e4, hC i (by omega), (bl.co hB1 i).mul (bx.pow i), by omega, fun p5 H5 s5 n5 e5 => ?_⟩
      walk_at "mf"
      refine ⟨pp, b, x ^ i, x, 1 + i * A1, A1, rfl, s5 _ _ (s4' _ _ ep), s5 _ _ (s4' _ _ eb'), bx.pow i, bx, by omega, fun p6 H6 s6 n6 e6 => ?_⟩
      walk_at "mf"
      refine ⟨((sH.trans s4').trans s5).trans s6, p5, p6, _, rfl, (((s0.trans sH).trans s4').free n5), s6 _ _ e5, ?_⟩
      rw [Rat.pow_succ]
      exact e6
    · obtain ⟨sH, pf, pp, s4, rfl, npf, ef, ep⟩ := h
      walk_at "mf"
      rw [lw] at ef
      exact k pf H' (s0.trans sH) npf ef
end Mf
namespace Mf
open PySem PySem.Spec PyProof.Rows L2
local macro_rules | `(tactic| walk_at "mf1") => `(tactic| first
  | ((with_reducible apply g_var); exact rfl)
  | with_reducible first
    | refine g_c ?_ | refine g_op ?_ | refine g_un ?_ | refine g_cb ?_ | refine g_cl ?_ | refine g_clk ?_ | refine g_nil ?_ | refine g_cons ?_
    | refine g_tB ?_ | refine g_test ?_ | refine g_bl ?_ | refine g_and ?_ | refine g_or ?_ | refine g_not ?_ | refine g_andV ?_ | refine g_orV ?_ | refine g_notV ?_
    | refine g_if ?_ | refine g_ifS ?_ | refine g_seq ?_ | refine g_next ?_ | refine g_ret ?_ | refine g_drop ?_ | refine g_asg ?_ | refine g_name ?_ | refine g_sub ?_
    | refine g_int ?_ | refine g_intB ?_ | refine g_abs ?_ | refine g_I0 ?_ | refine g_addI ?_ | refine g_U ?_ | refine g_isNn ?_ | refine g_isNi ?_ | refine g_notN ?_ | refine g_notT1 ?_ | refine g_notT2 ?_ | refine g_notT3 ?_ | refine g_notT4 ?_ | refine g_notTb ?_ | refine g_notTi ?_ | refine g_eqI ?_ | refine g_neI ?_ | refine g_neSs ?_ | refine g_neS ?_ | refine g_eqS ?_
    | refine g_iteT ?_ | refine g_iteF ?_ | refine g_iteNT ?_ | refine g_iteNF ?_ | refine g_lst ?_ | refine g_tup ?_ | refine g_seqP ?_ | refine g_sl ?_ | refine g_noPart ?_ | refine g_part ?_ | refine g_yes ?_ | refine g_thenT ?_ | refine g_consG ?_ | refine g_nilG ?_ | refine g_ii ?_ | refine g_par ?_ | refine g_par3 ?_ | refine g_vv ?_ | refine g_vvv ?_ | refine g_reprB ?_ | refine g_lcL ?_ | refine g_lcR ?_
  | ((with_reducible refine g_mod ?_ ?_); (first | omega | decide))
  | ((with_reducible refine g_div ?_ ?_ ?_); (first | omega | decide); (first | assumption | decide))
  | ((with_reducible refine g_mulL ?_ ?_ ?_); (first | omega | decide); (first | omega | decide))
  | ((with_reducible refine g_mulR ?_ ?_ ?_); (first | omega | decide); (first | omega | decide))
  | ((with_reducible refine g_pow ?_ ?_ ?_ ?_); decide; decide; (first | omega | decide))
  | dsimp only)
local macro_rules | `(tactic| walk_at "mf1s") => `(tactic| first
  | ((with_reducible apply g_var); exact rfl)
  | with_reducible first
    | refine g_c ?_ | refine g_op ?_ | refine g_un ?_ | refine g_cb ?_ | refine g_cl ?_ | refine g_clk ?_ | refine g_nil ?_ | refine g_cons ?_
    | refine g_tB ?_ | refine g_test ?_ | refine g_bl ?_ | refine g_and ?_ | refine g_or ?_ | refine g_not ?_ | refine g_andV ?_ | refine g_orV ?_ | refine g_notV ?_
    | refine g_if ?_ | refine g_ifS ?_ | refine g_next ?_ | refine g_ret ?_ | refine g_drop ?_ | refine g_asg ?_ | refine g_name ?_ | refine g_sub ?_
    | refine g_int ?_ | refine g_intB ?_ | refine g_abs ?_ | refine g_I0 ?_ | refine g_addI ?_ | refine g_U ?_ | refine g_isNn ?_ | refine g_isNi ?_ | refine g_notN ?_ | refine g_notT1 ?_ | refine g_notT2 ?_ | refine g_notT3 ?_ | refine g_notT4 ?_ | refine g_notTb ?_ | refine g_notTi ?_ | refine g_eqI ?_ | refine g_neI ?_ | refine g_neSs ?_ | refine g_neS ?_ | refine g_eqS ?_
    | refine g_iteT ?_ | refine g_iteF ?_ | refine g_iteNT ?_ | refine g_iteNF ?_ | refine g_lst ?_ | refine g_tup ?_ | refine g_seqP ?_ | refine g_sl ?_ | refine g_noPart ?_ | refine g_part ?_ | refine g_yes ?_ | refine g_thenT ?_ | refine g_consG ?_ | refine g_nilG ?_ | refine g_ii ?_ | refine g_par ?_ | refine g_par3 ?_ | refine g_vv ?_ | refine g_vvv ?_ | refine g_reprB ?_ | refine g_lcL ?_ | refine g_lcR ?_
  | ((with_reducible refine g_mod ?_ ?_); (first | omega | decide))
  | ((with_reducible refine g_div ?_ ?_ ?_); (first | omega | decide); (first | assumption | decide))
  | ((with_reducible refine g_mulL ?_ ?_ ?_); (first | omega | decide); (first | omega | decide))
  | ((with_reducible refine g_mulR ?_ ?_ ?_); (first | omega | decide); (first | omega | decide))
  | ((with_reducible refine g_pow ?_ ?_ ?_ ?_); decide; decide; (first | omega | decide))
  | dsimp only)
local macro_rules | `(tactic| walk_at "mfs") => `(tactic| repeat walk_at "mf1s")
local macro_rules | `(tactic| walk_at "mf") => `(tactic| repeat walk_at "mf1")
local macro_rules | `(tactic| walk_at "ed") => `(tactic| repeat (first
  | with_reducible first
    | exact eds_nil | apply eds_cons | exact ed_int | exact ed_bl | exact ed_non | apply ed_neg
  | ((with_reducible apply ed_str); decide)
  | ((with_reducible apply ed_var); (exact rfl); (first | assumption | exact Dq.int _))
  | ((with_reducible apply ed_dict0); assumption)
  | ((with_reducible apply ed_dict2); assumption)
  | ((with_reducible apply ed_tup); assumption)
  | ((with_reducible apply ed_lst); assumption)
  | (with_reducible apply ed_pow)
  | (with_reducible apply ed_mul)
  | assumption
  | (exact Dq.int _)
  | (exact ⟨by decide, by decide, by decide⟩)
  | (show List.length _ ≤ 1000; simp only [List.length_cons, List.length_nil]; decide)))
theorem g_bm {K : PySem.W.Frag} {T : String} {r : V → List V → Hp → VK → Prop} {to : TE} {t : TA} {σ : L2.St} {H : Hp} {Q : VK} (q : to σ H fun x H1 => tyV K T x H1 ∧ t σ H1 fun xs H2 => r x xs H2 Q) : tBM K T r to t σ H Q := q
theorem g_forR {ta : TA} {g : TG} {tb : TS} {D : Ends} {σ : L2.St} {H : Hp} (q : ta σ H fun vs H1 => ∃ j : Int, vs = [.int j] ∧ -(2 ^ 62) ≤ j ∧ j < 2 ^ 62 ∧ ForGo (Itr 0 j.toNat) g tb D σ H1) : tFor (iRng1 ta) g tb D σ H := q
theorem ok_poly_sum (c : Cn) (T : Tx c) : Cl c 7 "poly_sum" s_poly_sum ["one", "other"] (sp_psum c.K) := by
  obtain ⟨P, w, K, mg, base⟩ := c
  have C_added := ok_added _ T
  have C_read_poly := ok_read_poly _ T
  have C_trimmed := ok_trimmed _ T
  refine De.cl (N := ["one", "other", "first", "second", "total", "k", "number"]) T.d_poly_sum sc_poly_sum (fun vs H Q E h => ?_) (fun f0 cdv A outer s H vs Q E hA hr h => ?_)
  · obtain ⟨q, a, b, xs, ys, ds, es, n, rfl, _⟩ := h; rfl
  · have S := sc_poly_sum
    obtain ⟨q, a, b, xs, ys, ds, es, n, rfl, na, nb, ha, hb, hd, he, okd, oke, hn0, hn, ld, le, k⟩ := h
    refine ⟨_, (pss_cons (ps_par (i := 2) (j := 3) (by rfl) S.nd rfl rfl (by decide) rfl rfl (pa_cons (pe_f C_read_poly hA hr (by decide) pl_read_poly (by rfl) (pa_cons (pv 0) (pa_cons pe_str pa_nil))) (pa_cons (pe_f C_read_poly hA hr (by decide) pl_read_poly (by rfl) (pa_cons (pv 1) (pa_cons pe_str pa_nil))) pa_nil)) (by rfl))
      (pss_cons (ps_set (i := 4) S.nd rfl (by first | exact .inl rfl | exact .inr rfl) (pe_lst pa_nil))
      (pss_cons (ps_for PassesOwn.never rfl (pi_range1 rfl T.n_range (pa_cons (pe_callB (call_max2R rfl) (by rfl) T.n_max (show bootBuiltins "max" = some (.builtin "max") by decide +kernel) (pa_cons (pe_callB call_lenU (by rfl) T.n_len PySem.boot_len (pa_cons (pv 2) pa_nil)) (pa_cons (pe_callB call_lenU (by rfl) T.n_len PySem.boot_len (pa_cons (pv 3) pa_nil)) pa_nil))) pa_nil)) (pg_name (i := 5) S.nd rfl (by first | exact .inl rfl | exact .inr rfl)) (pss_cons (ps_set (i := 6) S.nd rfl (by first | exact .inl rfl | exact .inr rfl) (pe_ifExp (pt_cmpR op_lt (pv 5) (pe_callB call_lenU (by rfl) T.n_len PySem.boot_len (pa_cons (pv 2) pa_nil)) (nomark _)) (pe_ix ix_seq (pv 2) (pv 5) (fun _ _ => rfl)) pe_int))
      (pss_one (ps_expr (pe_bm PySem.F.plainAttrs_list PySem.F.slot_list_append PySem.F.type_list_append mt_append (pv 4) (pa_cons (pe_f C_added hA hr (by decide) pl_added (by rfl) (pa_cons (pv 6) (pa_cons (pe_ifExp (pt_cmpR op_lt (pv 5) (pe_callB call_lenU (by rfl) T.n_len PySem.boot_len (pa_cons (pv 3) pa_nil)) (nomark _)) (pe_ix ix_seq (pv 3) (pv 5) (fun _ _ => rfl)) pe_int) pa_nil))) pa_nil))))))
      (pss_one (ps_ret (pe_f C_trimmed hA hr (by decide) pl_trimmed (by rfl) (pa_cons (pv 4) pa_nil))))))), ?_⟩
    have l1 := len_trim_le (ds.map valQ)
    rw [List.length_map] at l1
    have l2 := len_trim_le (es.map valQ)
    rw [List.length_map] at l2
    have bf : RbL n (trimR (ds.map valQ)) := (RbL.of_val okd rfl).trim
    have bg : RbL n (trimR (es.map valQ)) := (RbL.of_val oke rfl).trim
    walk_at "mf"
    refine ⟨q, a, xs, ds, n, _, rfl, na, ha, hd, okd, by omega, ld, fun p1 H1 w1 s1 n1 e1 t1 => ?_⟩
    walk_at "mf"
    refine ⟨q, b, ys, es, n, _, rfl, nb, hb.go (Same.x s1) nb, he.go (Same.x s1), oke, by omega, le, fun p2 H2 w2 s2 n2 e2 t2 => ?_⟩
    have ee : trimR (padd (trimR (ds.map valQ)) (trimR (es.map valQ))) = trimR (padd (ds.map valQ) (es.map valQ)) := trim_eq fun j => by rw [co_padd, co_padd, co_trim, co_trim]
    rw [← ee] at k
    generalize trimR (ds.map valQ) = f at *
    generalize trimR (es.map valQ) = gg at *
    have lw1 := t1.len
    have lw2 := t2.len
    have e1 := s2 _ _ e1
    have t1 := t1.go (Same.kt s2)
    walk_at "mf"
    refine g_newL (by show 0 ≤ sizeLine; decide) fun pT H3 nT s3 eT => ?_
    walk_at "mf"
    refine g_forR ?_
    walk_at "mf"
    refine g_len (.inr (tupU (s3 _ _ e1))) ?_
    walk_at "mf"
    refine g_len (.inr (tupU (s3 _ _ e2))) ?_
    walk_at "mf"
    refine g_max2 ?_
    walk_at "mf"
    obtain ⟨M, hM⟩ : ∃ M, M = max f.length gg.length := ⟨_, rfl⟩
    have hM2 : M ≤ 80 := by omega
    have hMi : (if (w2.length : Int) > (w1.length : Int) then (w2.length : Int) else (w1.length : Int)) = (M : Int) := by
      split <;> omega
    refine ⟨(M : Int), by rw [hMi], by omega, by omega, ?_⟩
    rw [Int.toNat_natCast]
    refine for_range (lo := 0) (n := M) (fun i σ' H' => Same H2 H' ∧ ∃ s5 s6 vs, σ' = [some (.ref a), some (.ref b), some (.ref p1), some (.ref p2), some (.ref pT), s5, s6] ∧ H' pT = some (.lst vs) ∧ vs.length = i ∧ TL H' vs ((padd f gg).take i)) ⟨s3, none, none, [], rfl, eT, rfl, .nil⟩ (fun i σ' H' hi h => ?_) (fun σ' H' h => ?_)
    · obtain ⟨sH, s5, s6, vs, rfl, eT, lv, tv⟩ := h
      walk_at "mfs"
      refine g_seq (g_asg ?_)
      refine cut_P (fun v Hc => Hc = H' ∧ Fr pT K H' v (co f i) n) (fun Q' k' => ?_) (fun v Hc hv => ?_)
      · walk_at "mfs"
        refine g_len (.inr (tupU (sH _ _ e1))) ?_
        walk_at "mfs"
        refine g_ite (fun hc => ?_) (fun hc => ?_)
        · have hc := of_decide_eq_true hc
          obtain ⟨pa, hpa, epa⟩ := (t1.go (Same.kt sH)).at (i := i) (by omega)
          walk_at "mfs"
          refine g_ix (.inr (tupU (sH _ _ e1))) (at_of (j := i) (by omega) hpa) ?_
          exact k' _ _ ⟨rfl, fr_at eT epa (bf.co hn0 i)⟩
        · have hc := of_decide_eq_false hc
          walk_at "mfs"
          refine k' _ _ ⟨rfl, ?_⟩
          rw [co_ge (l := f) (by omega)]
          exact fr0.mono hn0
      obtain ⟨rfl, hv⟩ := hv
      walk_at "mf"
      refine g_bm ?_
      walk_at "mf"
      refine ⟨.inl ⟨rfl, _, seqU eT⟩, ?_⟩
      walk_at "mf"
      refine g_len (.inr (tupU (sH _ _ e2))) ?_
      walk_at "mf"
      refine g_ite (fun hc => ?_) (fun hc => ?_)
      · have hc := of_decide_eq_true hc
        obtain ⟨pb, hpb, epb⟩ := (t2.go (Same.kt sH)).at (i := i) (by omega)
        walk_at "mf"
        refine g_ix (.inr (tupU (sH _ _ e2))) (at_of (j := i) (by omega) hpb) ?_
        walk_at "mf"
        refine ⟨pT, _, _, co f i, co gg i, n, n, rfl, hv, fr_at eT epb (bg.co hn0 i), by omega, fun p5 H5 s5 n5 e5 => ?_⟩
        walk_at "mf"
        have eT5 := s5 _ _ eT
        have kt := upd_kt (o := .lst (vs ++ [.ref p5])) eT5
        refine ⟨pT, vs, .ref p5, rfl, rfl, eT5, small1000 (by omega), ?_⟩
        walk_at "mf"
        refine ⟨fun c o e => ?_, _, _, _, rfl, upd_same, by rw [List.length_append, lv]; rfl, ?_⟩
        · rw [upd_ne (ne_of_none e nT)]
          exact s5 _ _ (sH _ _ e)
        · have gp : (padd f gg)[i]? = some (co f i + co gg i) := by
            unfold padd
            rw [List.getElem?_map, List.getElem?_range (by omega)]
            rfl
          rw [take_snoc gp]
          exact ((tv.go (Same.kt s5)).go kt).snoc (kt _ _ e5)
      · have hc := of_decide_eq_false hc
        walk_at "mf"
        refine ⟨pT, _, _, co f i, co gg i, n, n, rfl, hv, (by rw [co_ge (l := gg) (by omega)]; exact fr0.mono hn0), by omega, fun p5 H5 s5 n5 e5 => ?_⟩
        walk_at "mf"
        have eT5 := s5 _ _ eT
        have kt := upd_kt (o := .lst (vs ++ [.ref p5])) eT5
        refine ⟨pT, vs, .ref p5, rfl, rfl, eT5, small1000 (by omega), ?_⟩
        walk_at "mf"
        refine ⟨fun c o e => ?_, _, _, _, rfl, upd_same, by rw [List.length_append, lv]; rfl, ?_⟩
        · rw [upd_ne (ne_of_none e nT)]
          exact s5 _ _ (sH _ _ e)
        · have gp : (padd f gg)[i]? = some (co f i + co gg i) := by
            unfold padd
            rw [List.getElem?_map, List.getElem?_range (by omega)]
            rfl
          rw [take_snoc gp]
          exact ((tv.go (Same.kt s5)).go kt).snoc (kt _ _ e5)
    · obtain ⟨sH, s5, s6, vs, rfl, eT, lv, tv⟩ := h
      rw [hM, ← len_padd, List.take_length] at tv
      walk_at "mf"
      refine ⟨pT, vs, _, rfl, seqU eT, tv, by omega, fun p H5 ws s5' n5 e5 t5 => ?_⟩
      exact k p H5 ws (((s1.trans s2).trans sH).trans s5') (((s1.trans s2).trans sH).free n5) e5 t5
end Mf
namespace Mf
open PySem PySem.Spec PyProof.Rows L2
local macro_rules | `(tactic| walk_at "mf1") => `(tactic| first
  | ((with_reducible apply g_var); exact rfl)
  | with_reducible first
    | refine g_c ?_ | refine g_op ?_ | refine g_un ?_ | refine g_cb ?_ | refine g_cl ?_ | refine g_clk ?_ | refine g_nil ?_ | refine g_cons ?_
    | refine g_tB ?_ | refine g_test ?_ | refine g_bl ?_ | refine g_and ?_ | refine g_or ?_ | refine g_not ?_ | refine g_andV ?_ | refine g_orV ?_ | refine g_notV ?_
    | refine g_if ?_ | refine g_ifS ?_ | refine g_seq ?_ | refine g_next ?_ | refine g_ret ?_ | refine g_drop ?_ | refine g_asg ?_ | refine g_name ?_ | refine g_sub ?_
    | refine g_int ?_ | refine g_intB ?_ | refine g_abs ?_ | refine g_I0 ?_ | refine g_addI ?_ | refine g_U ?_ | refine g_isNn ?_ | refine g_isNi ?_ | refine g_notN ?_ | refine g_notT1 ?_ | refine g_notT2 ?_ | refine g_notT3 ?_ | refine g_notT4 ?_ | refine g_notTb ?_ | refine g_notTi ?_ | refine g_eqI ?_ | refine g_neI ?_ | refine g_neSs ?_ | refine g_neS ?_ | refine g_eqS ?_
    | refine g_iteT ?_ | refine g_iteF ?_ | refine g_iteNT ?_ | refine g_iteNF ?_ | refine g_lst ?_ | refine g_tup ?_ | refine g_seqP ?_ | refine g_sl ?_ | refine g_noPart ?_ | refine g_part ?_ | refine g_yes ?_ | refine g_thenT ?_ | refine g_consG ?_ | refine g_nilG ?_ | refine g_ii ?_ | refine g_par ?_ | refine g_par3 ?_ | refine g_vv ?_ | refine g_vvv ?_ | refine g_reprB ?_ | refine g_lcL ?_ | refine g_lcR ?_
  | ((with_reducible refine g_mod ?_ ?_); (first | omega | decide))
  | ((with_reducible refine g_div ?_ ?_ ?_); (first | omega | decide); (first | assumption | decide))
  | ((with_reducible refine g_mulL ?_ ?_ ?_); (first | omega | decide); (first | omega | decide))
  | ((with_reducible refine g_mulR ?_ ?_ ?_); (first | omega | decide); (first | omega | decide))
  | ((with_reducible refine g_pow ?_ ?_ ?_ ?_); decide; decide; (first | omega | decide))
  | dsimp only)
local macro_rules | `(tactic| walk_at "mf1s") => `(tactic| first
  | ((with_reducible apply g_var); exact rfl)
  | with_reducible first
    | refine g_c ?_ | refine g_op ?_ | refine g_un ?_ | refine g_cb ?_ | refine g_cl ?_ | refine g_clk ?_ | refine g_nil ?_ | refine g_cons ?_
    | refine g_tB ?_ | refine g_test ?_ | refine g_bl ?_ | refine g_and ?_ | refine g_or ?_ | refine g_not ?_ | refine g_andV ?_ | refine g_orV ?_ | refine g_notV ?_
    | refine g_if ?_ | refine g_ifS ?_ | refine g_next ?_ | refine g_ret ?_ | refine g_drop ?_ | refine g_asg ?_ | refine g_name ?_ | refine g_sub ?_
    | refine g_int ?_ | refine g_intB ?_ | refine g_abs ?_ | refine g_I0 ?_ | refine g_addI ?_ | refine g_U ?_ | refine g_isNn ?_ | refine g_isNi ?_ | refine g_notN ?_ | refine g_notT1 ?_ | refine g_notT2 ?_ | refine g_notT3 ?_ | refine g_notT4 ?_ | refine g_notTb ?_ | refine g_notTi ?_ | refine g_eqI ?_ | refine g_neI ?_ | refine g_neSs ?_ | refine g_neS ?_ | refine g_eqS ?_
    | refine g_iteT ?_ | refine g_iteF ?_ | refine g_iteNT ?_ | refine g_iteNF ?_ | refine g_lst ?_ | refine g_tup ?_ | refine g_seqP ?_ | refine g_sl ?_ | refine g_noPart ?_ | refine g_part ?_ | refine g_yes ?_ | refine g_thenT ?_ | refine g_consG ?_ | refine g_nilG ?_ | refine g_ii ?_ | refine g_par ?_ | refine g_par3 ?_ | refine g_vv ?_ | refine g_vvv ?_ | refine g_reprB ?_ | refine g_lcL ?_ | refine g_lcR ?_
  | ((with_reducible refine g_mod ?_ ?_); (first | omega | decide))
  | ((with_reducible refine g_div ?_ ?_ ?_); (first | omega | decide); (first | assumption | decide))
  | ((with_reducible refine g_mulL ?_ ?_ ?_); (first | omega | decide); (first | omega | decide))
  | ((with_reducible refine g_mulR ?_ ?_ ?_); (first | omega | decide); (first | omega | decide))
  | ((with_reducible refine g_pow ?_ ?_ ?_ ?_); decide; decide; (first | omega | decide))
  | dsimp only)
local macro_rules | `(tactic| walk_at "mfs") => `(tactic| repeat walk_at "mf1s")
local macro_rules | `(tactic| walk_at "mf") => `(tactic| repeat walk_at "mf1")
local macro_rules | `(tactic| walk_at "ed") => `(tactic| repeat (first
  | with_reducible first
    | exact eds_nil | apply eds_cons | exact ed_int | exact ed_bl | exact ed_non | apply ed_neg
  | ((with_reducible apply ed_str); decide)
  | ((with_reducible apply ed_var); (exact rfl); (first | assumption | exact Dq.int _))
  | ((with_reducible apply ed_dict0); assumption)
  | ((with_reducible apply ed_dict2); assumption)
  | ((with_reducible apply ed_tup); assumption)
  | ((with_reducible apply ed_lst); assumption)
  | (with_reducible apply ed_pow)
  | (with_reducible apply ed_mul)
  | assumption
  | (exact Dq.int _)
  | (exact ⟨by decide, by decide, by decide⟩)
  | (show List.length _ ≤ 1000; simp only [List.length_cons, List.length_nil]; decide)))
theorem okX_poly_times (c : Cn) (T : Tx c) : ∃ C F, Ed c "TooMany" "TooMany.__init__" s_TooMany C (.ref F :: veT) ["what", "most"] ∧ c.mg "FlowError" = some (.ref F) ∧ ClsAt c.K F veT ∧ ClX c 7 "poly_times" s_poly_times ["one", "other"] (sp_ptimesX C c.K) := by
  obtain ⟨C, F, hE, hF, hG⟩ := T.x_err
  refine ⟨C, F, hE, hF, hG, ?_⟩
  have E_TooMany := ec_TooMany c hE
  obtain ⟨P, w, K, mg, base⟩ := c
  have C_over_one_down := ok_over_one_down _ T
  have C_read_poly := ok_read_poly _ T
  have C_reduced := ok_reduced _ T
  have C_times_whole := ok_times_whole _ T
  refine De.clX (N := ["one", "other", "first", "down", "second", "below", "product", "up"]) T.d_poly_times sc_poly_times (fun vs H Q E h => ?_) (fun f0 cdv A outer s H vs Q E hA hr h => ?_)
  · obtain ⟨q, a, b, xs, ys, ds, es, n, A1, B1, rfl, _⟩ := h; rfl
  · have S := sc_poly_times
    obtain ⟨q, a, b, xs, ys, ds, es, n, A1, B1, rfl, na, nb, ha, hb, hd, he, okd, oke, hn, ld, le, bA, bB, hA1, hB1, sA, sB, nf, ng, big, k⟩ := h
    refine ⟨_, (pss_cons (ps_asg (pe_tup (pa_cons (pe_f C_over_one_down hA hr (by decide) pl_over_one_down (by rfl) (pa_cons (pe_f C_read_poly hA hr (by decide) pl_read_poly (by rfl) (pa_cons (pv 0) (pa_cons pe_str pa_nil))) pa_nil)) (pa_cons (pe_f C_over_one_down hA hr (by decide) pl_over_one_down (by rfl) (pa_cons (pe_f C_read_poly hA hr (by decide) pl_read_poly (by rfl) (pa_cons (pv 1) (pa_cons pe_str pa_nil))) pa_nil)) pa_nil))) (pg_tup rfl (pgs_cons (pg_tup rfl (pgs_cons (pg_name (i := 2) S.nd rfl (by first | exact .inl rfl | exact .inr rfl)) (pgs_cons (pg_name (i := 3) S.nd rfl (by first | exact .inl rfl | exact .inr rfl)) pgs_nil))) (pgs_cons (pg_tup rfl (pgs_cons (pg_name (i := 4) S.nd rfl (by first | exact .inl rfl | exact .inr rfl)) (pgs_cons (pg_name (i := 5) S.nd rfl (by first | exact .inl rfl | exact .inr rfl)) pgs_nil))) pgs_nil))))
      (pss_cons (ps_set (i := 6) S.nd rfl (by first | exact .inl rfl | exact .inr rfl) (pe_f C_times_whole hA hr (by decide) pl_times_whole (by rfl) (pa_cons (pv 2) (pa_cons (pv 4) pa_nil))))
      (pss_cons (ps_if (pt_cmpR op_gt (pe_callB call_lenU (by rfl) T.n_len PySem.boot_len (pa_cons (pv 6) pa_nil)) (pe_globI (i := 80) (by rfl) T.c_MOST_NUMBERS) (nomark _)) (pss_one (ps_raise rfl (takes_of rfl rfl rfl rfl) (pmk_mkX E_TooMany hA hr (by decide) (by rfl) (pa_cons pe_str (pa_cons (pe_globI (i := 80) (by rfl) T.c_MOST_NUMBERS) pa_nil))))) pss_nil)
      (pss_one (ps_ret (pe_tupleOf (by rfl) T.n_tuple (pe_lc (own := [("up", 7)]) (g := gName 7) (tt := tYes) rfl S.nd (pi_list (pv 6)) (blkOk_by (N := ["one", "other", "first", "down", "second", "below", "product", "up"]) (sc := defScope s_poly_times) (by decide +kernel)) (fun _ _ _ _ _ => pg_name (i := 7) S.nd rfl (Or.inl rfl)) (fun _ _ _ _ _ => pts_nil) (fun _ _ _ _ _ => (pe_f C_reduced hA hr (by decide) pl_reduced (by rfl) (pa_cons (pv 7) (pa_cons (pe_op op_mulU (pv 3) (pv 5)) pa_nil))))))))))), ?_⟩
    have l1 := len_trim_le (ds.map valQ)
    rw [List.length_map] at l1
    have l2 := len_trim_le (es.map valQ)
    rw [List.length_map] at l2
    have trf := tr_trim (ds.map valQ)
    have trg := tr_trim (es.map valQ)
    walk_at "mf"
    refine ⟨q, a, xs, ds, n, _, rfl, na, ha, hd, okd, hn, ld, fun p1 H1 w1 s1 n1 e1 t1 => ?_⟩
    generalize trimR (ds.map valQ) = f at *
    walk_at "mf"
    refine ⟨p1, w1, f, A1, rfl, e1, t1, bA, by omega, hA1, by omega, fun p2 H2 L1 us s2 n2 e2 eL1 lu hu => ?_⟩
    have s12 := s1.trans s2
    walk_at "mf"
    refine ⟨q, b, ys, es, n, _, rfl, nb, hb.go (Same.x s12) nb, he.go (Same.x s12), oke, hn, le, fun p3 H3 w3 s3 n3 e3 t3 => ?_⟩
    generalize trimR (es.map valQ) = gg at *
    walk_at "mf"
    refine ⟨p3, w3, gg, B1, rfl, e3, t3, bB, by omega, hB1, by omega, fun p4 H4 L2 vv s4 n4 e4 eL2 lv hv => ?_⟩
    have s34 := s3.trans s4
    have s14 := s12.trans s34
    have e2 := s34 _ _ e2
    have eL1 := s34 _ _ eL1
    have hD1 := lcmL_pos f
    have hD2 := lcmL_pos gg
    have bD1 := lcmL_bt bA
    have bD2 := lcmL_bt bB
    generalize lcmL f = D1 at *
    generalize lcmL gg = D2 at *
    walk_at "mf"
    refine g_newT (by show 2 ≤ sizeLine; decide) fun p5 H5 n5 s5 e5 => ?_
    refine g_tupG (tupU e5) rfl ?_
    walk_at "mf"
    refine g_tupG (tupU (s5 _ _ e2)) rfl ?_
    walk_at "mf"
    refine g_tupG (tupU (s5 _ _ e4)) rfl ?_
    have eL1 := s5 _ _ eL1
    have eL2 := s5 _ _ eL2
    have s15 := s14.trans s5
    have qu := divs_co lu hu
    have qv := divs_co lv hv
    walk_at "mf"
    refine ⟨L1, L2, us, vv, _, _, rfl, seqU eL1, seqU eL2, divs_bt lu hu, divs_bt lv hv, by omega, by omega, by omega, fun p6 H6 s6 n6 e6 => ?_⟩
    have s16 := s15.trans s6
    clear e1 e2 e3 e4 e5 n1 n2 n3 n4 n5 s2 s3 s4 s5 s12 s34 s14 t1 t3
    walk_at "mf"
    refine g_len (.inl (seqU e6)) ?_
    walk_at "mf"
    rw [List.length_map]
    have nu : us ≠ [] := fun z => nf (List.length_eq_zero_iff.mp (by rw [← lu, z]; rfl))
    have nv : vv ≠ [] := fun z => ng (List.length_eq_zero_iff.mp (by rw [← lv, z]; rfl))
    rw [decide_eq_true (show (80 : Int) < ((iconv us vv).length : Int) by rw [len_iconv nu nv, lu, lv]; omega)]
    walk_at "mf"
    refine ⟨rfl, fun d H7 hd7 s7 e7 => ?_⟩
    exact k d H7 (s16.free hd7) (s16.trans s7) e7
end Mf
namespace Mf
open PySem PySem.Spec PyProof.Rows L2
local macro_rules | `(tactic| walk_at "mf1") => `(tactic| first
  | ((with_reducible apply g_var); exact rfl)
  | with_reducible first
    | refine g_c ?_ | refine g_op ?_ | refine g_un ?_ | refine g_cb ?_ | refine g_cl ?_ | refine g_clk ?_ | refine g_nil ?_ | refine g_cons ?_
    | refine g_tB ?_ | refine g_test ?_ | refine g_bl ?_ | refine g_and ?_ | refine g_or ?_ | refine g_not ?_ | refine g_andV ?_ | refine g_orV ?_ | refine g_notV ?_
    | refine g_if ?_ | refine g_ifS ?_ | refine g_seq ?_ | refine g_next ?_ | refine g_ret ?_ | refine g_drop ?_ | refine g_asg ?_ | refine g_name ?_ | refine g_sub ?_
    | refine g_int ?_ | refine g_intB ?_ | refine g_abs ?_ | refine g_I0 ?_ | refine g_addI ?_ | refine g_U ?_ | refine g_isNn ?_ | refine g_isNi ?_ | refine g_notN ?_ | refine g_notT1 ?_ | refine g_notT2 ?_ | refine g_notT3 ?_ | refine g_notT4 ?_ | refine g_notTb ?_ | refine g_notTi ?_ | refine g_eqI ?_ | refine g_neI ?_ | refine g_neSs ?_ | refine g_neS ?_ | refine g_eqS ?_
    | refine g_iteT ?_ | refine g_iteF ?_ | refine g_iteNT ?_ | refine g_iteNF ?_ | refine g_lst ?_ | refine g_tup ?_ | refine g_seqP ?_ | refine g_sl ?_ | refine g_noPart ?_ | refine g_part ?_ | refine g_yes ?_ | refine g_thenT ?_ | refine g_consG ?_ | refine g_nilG ?_ | refine g_ii ?_ | refine g_par ?_ | refine g_par3 ?_ | refine g_vv ?_ | refine g_vvv ?_ | refine g_reprB ?_ | refine g_lcL ?_ | refine g_lcR ?_
  | ((with_reducible refine g_mod ?_ ?_); (first | omega | decide))
  | ((with_reducible refine g_div ?_ ?_ ?_); (first | omega | decide); (first | assumption | decide))
  | ((with_reducible refine g_mulL ?_ ?_ ?_); (first | omega | decide); (first | omega | decide))
  | ((with_reducible refine g_mulR ?_ ?_ ?_); (first | omega | decide); (first | omega | decide))
  | ((with_reducible refine g_pow ?_ ?_ ?_ ?_); decide; decide; (first | omega | decide))
  | dsimp only)
local macro_rules | `(tactic| walk_at "mf1s") => `(tactic| first
  | ((with_reducible apply g_var); exact rfl)
  | with_reducible first
    | refine g_c ?_ | refine g_op ?_ | refine g_un ?_ | refine g_cb ?_ | refine g_cl ?_ | refine g_clk ?_ | refine g_nil ?_ | refine g_cons ?_
    | refine g_tB ?_ | refine g_test ?_ | refine g_bl ?_ | refine g_and ?_ | refine g_or ?_ | refine g_not ?_ | refine g_andV ?_ | refine g_orV ?_ | refine g_notV ?_
    | refine g_if ?_ | refine g_ifS ?_ | refine g_next ?_ | refine g_ret ?_ | refine g_drop ?_ | refine g_asg ?_ | refine g_name ?_ | refine g_sub ?_
    | refine g_int ?_ | refine g_intB ?_ | refine g_abs ?_ | refine g_I0 ?_ | refine g_addI ?_ | refine g_U ?_ | refine g_isNn ?_ | refine g_isNi ?_ | refine g_notN ?_ | refine g_notT1 ?_ | refine g_notT2 ?_ | refine g_notT3 ?_ | refine g_notT4 ?_ | refine g_notTb ?_ | refine g_notTi ?_ | refine g_eqI ?_ | refine g_neI ?_ | refine g_neSs ?_ | refine g_neS ?_ | refine g_eqS ?_
    | refine g_iteT ?_ | refine g_iteF ?_ | refine g_iteNT ?_ | refine g_iteNF ?_ | refine g_lst ?_ | refine g_tup ?_ | refine g_seqP ?_ | refine g_sl ?_ | refine g_noPart ?_ | refine g_part ?_ | refine g_yes ?_ | refine g_thenT ?_ | refine g_consG ?_ | refine g_nilG ?_ | refine g_ii ?_ | refine g_par ?_ | refine g_par3 ?_ | refine g_vv ?_ | refine g_vvv ?_ | refine g_reprB ?_ | refine g_lcL ?_ | refine g_lcR ?_
  | ((with_reducible refine g_mod ?_ ?_); (first | omega | decide))
  | ((with_reducible refine g_div ?_ ?_ ?_); (first | omega | decide); (first | assumption | decide))
  | ((with_reducible refine g_mulL ?_ ?_ ?_); (first | omega | decide); (first | omega | decide))
  | ((with_reducible refine g_mulR ?_ ?_ ?_); (first | omega | decide); (first | omega | decide))
  | ((with_reducible refine g_pow ?_ ?_ ?_ ?_); decide; decide; (first | omega | decide))
  | dsimp only)
local macro_rules | `(tactic| walk_at "mfs") => `(tactic| repeat walk_at "mf1s")
local macro_rules | `(tactic| walk_at "mf") => `(tactic| repeat walk_at "mf1")
local macro_rules | `(tactic| walk_at "ed") => `(tactic| repeat (first
  | with_reducible first
    | exact eds_nil | apply eds_cons | exact ed_int | exact ed_bl | exact ed_non | apply ed_neg
  | ((with_reducible apply ed_str); decide)
  | ((with_reducible apply ed_var); (exact rfl); (first | assumption | exact Dq.int _))
  | ((with_reducible apply ed_dict0); assumption)
  | ((with_reducible apply ed_dict2); assumption)
  | ((with_reducible apply ed_tup); assumption)
  | ((with_reducible apply ed_lst); assumption)
  | (with_reducible apply ed_pow)
  | (with_reducible apply ed_mul)
  | assumption
  | (exact Dq.int _)
  | (exact ⟨by decide, by decide, by decide⟩)
  | (show List.length _ ≤ 1000; simp only [List.length_cons, List.length_nil]; decide)))
theorem g_clX {sp : Sp} {E : L2.St → XK} {t : TA} {σ : L2.St} {H : Hp} {Q : VK} (q : t σ H fun vs H1 => sp vs H1 Q (E σ)) : tClX sp E t σ H Q := q
theorem g_kat {K : PySem.W.Frag} {f : Str} {te : TE} {σ : L2.St} {H : Hp} {Q : VK} (q : te σ H fun x H1 => ∃ (a C : Addr) (fs : List (Str × V)) (v : V), x = .ref a ∧ Erc K C ∧ PySem.W.findIn K (.ref C) f = some none ∧ Ek H1 a C fs ∧ fs.lookup f = some v ∧ Q v H1) : tKat K f te σ H Q := q
theorem ok__law_long_right (c : Cn) (T : Tx c) : Cl c 8 "_law_long_right" s__law_long_right ["abbot"] (sp_long c.K) := by
  obtain ⟨P, w, K, mg, base⟩ := c
  have C__law_bead := ok__law_bead _ T
  have C__law_low := ok__law_low _ T
  have C__law_product := ok__law_product _ T
  have C__law_sum := ok__law_sum _ T
  have C__law_value := ok__law_value _ T
  have C_poly_sum := ok_poly_sum _ T
  have C_poly_times := ok_poly_times _ T
  have C_slope_of := ok_slope_of _ T
  have C_value_at := ok_value_at _ T
  refine De.cl (N := ["abbot", "mine", "its", "long", "caught", "error", "at", "number"]) T.d__law_long_right sc__law_long_right (fun vs H Q E h => ?_) (fun f0 cdv A outer s H vs Q E hA hr h => ?_)
  · obtain ⟨q, t, rfl, _⟩ := h; rfl
  · have S := sc__law_long_right
    obtain ⟨q, t, rfl, hq, ht, k⟩ := h
    obtain ⟨C, F, hE, hF, hG, CX_poly_times⟩ := okX_poly_times _ T
    refine ⟨_, (pss_cons (ps_par (i := 1) (j := 2) (by rfl) S.nd rfl rfl (by decide) rfl rfl (pa_cons (pe_lc (own := [("at", 6)]) (g := gName 6) (tt := tYes) rfl S.nd (pi_range1 rfl T.n_range (pa_cons pe_int pa_nil)) (blkOk_by (N := ["abbot", "mine", "its", "long", "caught", "error", "at", "number"]) (sc := defScope s__law_long_right) (by decide +kernel)) (fun _ _ _ _ _ => pg_name (i := 6) S.nd rfl (Or.inl rfl)) (fun _ _ _ _ _ => pts_nil) (fun _ _ _ _ _ => (pe_f C__law_low hA hr (by decide) pl__law_low (by rfl) (pa_cons (pe_op op_addU pe_int (pe_f C__law_bead hA hr (by decide) pl__law_bead (by rfl) (pa_cons (pv 0) (pa_cons pe_int pa_nil)))) (pa_cons pe_int pa_nil))))) (pa_cons (pe_lc (own := [("at", 6)]) (g := gName 6) (tt := tYes) rfl S.nd (pi_range1 rfl T.n_range (pa_cons pe_int pa_nil)) (blkOk_by (N := ["abbot", "mine", "its", "long", "caught", "error", "at", "number"]) (sc := defScope s__law_long_right) (by decide +kernel)) (fun _ _ _ _ _ => pg_name (i := 6) S.nd rfl (Or.inl rfl)) (fun _ _ _ _ _ => pts_nil) (fun _ _ _ _ _ => (pe_f C__law_low hA hr (by decide) pl__law_low (by rfl) (pa_cons (pe_op op_addU pe_int (pe_f C__law_bead hA hr (by decide) pl__law_bead (by rfl) (pa_cons (pv 0) (pa_cons pe_int pa_nil)))) (pa_cons pe_int pa_nil))))) pa_nil)) (by rfl))
      (pss_cons (ps_if (PW.pt (pw_or (pt_cmpR (op_neU hr.units) (pe_callB (call_reprU hA hr.units) (by rfl) T.n_repr (show bootBuiltins "repr" = some (.builtin "repr") by decide +kernel) (pa_cons (pe_f C_poly_times hA hr (by decide) pl_poly_times (by rfl) (pa_cons (pv 1) (pa_cons (pe_slice sl_list (pv 2) po_none (po_some pe_int)) pa_nil))) pa_nil)) (pe_callB (call_reprU hA hr.units) (by rfl) T.n_repr (show bootBuiltins "repr" = some (.builtin "repr") by decide +kernel) (pa_cons (pe_f C__law_product hA hr (by decide) pl__law_product (by rfl) (pa_cons (pv 1) (pa_cons (pe_slice sl_list (pv 2) po_none (po_some pe_int)) pa_nil))) pa_nil)) (nomark _)) (pw_or1 (pt_cmpR (op_neU hr.units) (pe_f C_poly_times hA hr (by decide) pl_poly_times (by rfl) (pa_cons (pe_op op_addU (pv 1) (pe_slice sl_list (pv 2) po_none (po_some pe_int))) (pa_cons (pe_lst (pa_cons pe_int (pa_cons pe_int pa_nil))) pa_nil))) (pe_tup pa_nil) (nomark _))))) (pss_one (ps_ret pe_bl)) pss_nil)
      (pss_cons (ps_set (i := 3) S.nd rfl (by first | exact .inl rfl | exact .inr rfl) (pe_op op_addU (pv 1) (pe_slice sl_list (pv 2) po_none (po_some pe_int))))
      (pss_cons (ps_if (PW.pt (pw_or (pt_cmpR (op_neU hr.units) (pe_callB (call_reprU hA hr.units) (by rfl) T.n_repr (show bootBuiltins "repr" = some (.builtin "repr") by decide +kernel) (pa_cons (pe_f C_poly_sum hA hr (by decide) pl_poly_sum (by rfl) (pa_cons (pv 3) (pa_cons (pv 1) pa_nil))) pa_nil)) (pe_callB (call_reprU hA hr.units) (by rfl) T.n_repr (show bootBuiltins "repr" = some (.builtin "repr") by decide +kernel) (pa_cons (pe_f C__law_sum hA hr (by decide) pl__law_sum (by rfl) (pa_cons (pv 3) (pa_cons (pv 1) pa_nil))) pa_nil)) (nomark _)) (pw_or1 (pt_cmpR (op_neU hr.units) (pe_callB (call_reprU hA hr.units) (by rfl) T.n_repr (show bootBuiltins "repr" = some (.builtin "repr") by decide +kernel) (pa_cons (pe_f C_value_at hA hr (by decide) pl_value_at (by rfl) (pa_cons (pv 3) (pa_cons (pe_tup (pa_cons (pe_un un_neg pe_int) (pa_cons pe_int pa_nil))) pa_nil))) pa_nil)) (pe_callB (call_reprU hA hr.units) (by rfl) T.n_repr (show bootBuiltins "repr" = some (.builtin "repr") by decide +kernel) (pa_cons (pe_f C__law_value hA hr (by decide) pl__law_value (by rfl) (pa_cons (pv 3) (pa_cons (pe_tup (pa_cons (pe_un un_neg pe_int) (pa_cons pe_int pa_nil))) pa_nil))) pa_nil)) (nomark _))))) (pss_one (ps_ret pe_bl)) pss_nil)
      (pss_cons (ps_if (pt_cmpR (op_neU hr.units) (pe_callB (call_reprU hA hr.units) (by rfl) T.n_repr (show bootBuiltins "repr" = some (.builtin "repr") by decide +kernel) (pa_cons (pe_f C_slope_of hA hr (by decide) pl_slope_of (by rfl) (pa_cons (pv 3) pa_nil)) pa_nil)) (pe_callB (call_reprU hA hr.units) (by rfl) T.n_repr (show bootBuiltins "repr" = some (.builtin "repr") by decide +kernel) (pa_cons (pe_tupleOf (by rfl) T.n_tuple (pe_slice sl_list (pe_lc (own := [("at", 6), ("number", 7)]) (g := g2 K 6 7) (tt := tYes) rfl S.nd (pi_enum (by rfl) T.n_enumerate (pa_cons (pv 3) pa_nil)) (blkOk_by (N := ["abbot", "mine", "its", "long", "caught", "error", "at", "number"]) (sc := defScope s__law_long_right) (by decide +kernel)) (fun _ _ _ _ _ => pg_tup rfl (pgs_cons (pg_name (i := 6) S.nd rfl (Or.inl rfl)) (pgs_cons (pg_name (i := 7) S.nd rfl (Or.inl rfl)) pgs_nil))) (fun _ _ _ _ _ => pts_nil) (fun _ _ _ _ _ => (pe_tup (pa_cons (pe_op op_mulU (pv 6) (pe_ix (show IxR _ (rIx K) from ix_seq) (pv 7) pe_int (fun _ _ => rfl))) (pa_cons pe_int pa_nil))))) (po_some pe_int) po_none)) pa_nil)) (nomark _)) (pss_one (ps_ret pe_bl)) pss_nil)
      (pss_cons (ps_set (i := 4) S.nd rfl (by first | exact .inl rfl | exact .inr rfl) pe_non)
      (pss_cons (ps_try_keep (i := 5) (tb := fun W => tDrop (tClX (sp_ptimesX C K) (WE W) (tCons (tVar 1) (tCons (tVar 2) tNil)))) (ts := fun a cls d => tAsg (tVar 5) (gName 4)) (Wout := fun _ _ _ _ => False) rfl rfl S.nd rfl rfl ⟨rfl, by decide, Or.inl hF⟩ takes0
      (fun W pn xe tk _ => pss_one (ps_expr (pe_fX CX_poly_times hA hr (by decide) pl_poly_times (by rfl) (fun σ => passAt tk σ) (pa_cons (pv 1) (pa_cons (pv 2) pa_nil)))))
      (fun a oe cls d pn hz hf => pss_one (ps_set (i := 4) S.nd rfl (by first | exact .inl rfl | exact .inr rfl) (pv 5))))
      (pss_one (ps_ret (pe_and (pe_callB call_isK (by rfl) T.n_isinstance (show bootBuiltins "isinstance" = some (.builtin "isinstance") by decide +kernel) (pa_cons (pv 4) (pa_cons (pe_glob (v := .ref C) (by rfl) hE.mg rfl) pa_nil))) (pe_one (pe_cmpR (op_eqU hr.units) (pe_tup (pa_cons (show PE _ _ (tKat K _ _) from pe_kat (pv 4)) (pa_cons (show PE _ _ (tKat K _ _) from pe_kat (pv 4)) pa_nil))) (pe_tup (pa_cons pe_str (pa_cons pe_int pa_nil))) (nomark _))))))))))))), ?_⟩
    refine g_seq ?_
    walk_at "mfs"
    refine ⟨40, rfl, by decide, by decide, ?_⟩
    rw [show Int.toNat 40 = 40 from rfl]
    refine lcgo_range (n := 40) (fun D j H' => ∃ t' vs rs, Qy K q t' H' ∧ t' ≤ t + (j : Int) ∧ Qn q D H' ∧ SameX q H H' ∧ H' D = some (.lst vs) ∧ vs.length = j ∧ TL H' vs rs ∧ Nz rs) (fun z => rfl)
      (fun D hD => ⟨_, [], [], hq.upd (Qn.new hq hD) (hq.ne hD), by omega, Qn.upd hq (Qn.new hq hD) (hq.ne hD), Same.x (same_new hD), upd_same, rfl, .nil, fun r hr => absurd hr List.not_mem_nil⟩) (fun D j H' hD hj h => ?_) (fun D1 H1 hD1 h => ?_)
    · obtain ⟨t', vs, rs, hq', ut', hn', sx', eD, lv, tl, nz⟩ := h
      have nD : D ≠ q := hq.ne hD
      walk_at "mfs"
      refine ⟨q, t', 9, rfl, hq', by omega, by decide, by decide, fun t6 H6 i sx6 hq6 l6 u6 i0 i1 => ?_⟩
      walk_at "mfs"
      refine ⟨1 + i, 1, rfl, by decide, Bt.mono (m := 1) (by show (1 : Int).natAbs < 2 ^ 1; decide) (by decide), fun p H7 s7 n7 e7 => ?_⟩
      have hn6 := hn'.go hq' sx6
      have eD7 := s7 _ _ (sx6 _ _ nD eD)
      have kt := upd_kt (o := .lst (vs ++ [.ref p])) eD7
      have hq7 := hq6.same s7
      have hn7 := hn6.go hq6 (Same.x s7)
      refine ⟨vs, eD7, small1000 (by omega), t6, vs ++ [.ref p], rs ++ [Rat.divInt (1 + i) 1], hq7.upd hn7 nD, by omega, Qn.upd hq7 hn7 nD, ?_, upd_same, by rw [List.length_append, lv]; rfl, (((tl.go (sx6.kt hq')).go (Same.kt s7)).go kt).snoc (kt _ _ e7), nz.snoc (by omega) (by omega)⟩
      refine ⟨fun b o nb e => ?_, fun c w z e => ?_⟩
      · rw [upd_ne (ne_of_none e hD)]
        exact (sx'.trans (sx6.trans (Same.x s7))).kept b o nb e
      · obtain ⟨w', z', e'⟩ := (sx'.trans (sx6.trans (Same.x s7))).cell c w z e
        exact ⟨w', z', by rw [upd_ne nD.symm]; exact e'⟩
    obtain ⟨t1, v1, f1, hq1, ut1, hn1, sx1, eD1, lv1, tl1, nz1⟩ := h
    have np1 := hq.ne hD1
    have hq := hq1
    have eq1 := tl1.len
    walk_at "mfs"
    refine ⟨42, rfl, by decide, by decide, ?_⟩
    rw [show Int.toNat 42 = 42 from rfl]
    refine lcgo_range (n := 42) (fun D j H' => ∃ t' vs rs, Qy K q t' H' ∧ t' ≤ t1 + (j : Int) ∧ Qn q D H' ∧ SameX q H1 H' ∧ H' D = some (.lst vs) ∧ vs.length = j ∧ TL H' vs rs ∧ Nz rs) (fun z => rfl)
      (fun D hD => ⟨_, [], [], hq.upd (Qn.new hq hD) (hq.ne hD), by omega, Qn.upd hq (Qn.new hq hD) (hq.ne hD), Same.x (same_new hD), upd_same, rfl, .nil, fun r hr => absurd hr List.not_mem_nil⟩) (fun D j H' hD hj h => ?_) (fun D2 H2 hD2 h => ?_)
    · obtain ⟨t', vs, rs, hq', ut', hn', sx', eD, lv, tl, nz⟩ := h
      have nD : D ≠ q := hq.ne hD
      walk_at "mfs"
      refine ⟨q, t', 9, rfl, hq', by omega, by decide, by decide, fun t6 H6 i sx6 hq6 l6 u6 i0 i1 => ?_⟩
      walk_at "mfs"
      refine ⟨1 + i, 1, rfl, by decide, Bt.mono (m := 1) (by show (1 : Int).natAbs < 2 ^ 1; decide) (by decide), fun p H7 s7 n7 e7 => ?_⟩
      have hn6 := hn'.go hq' sx6
      have eD7 := s7 _ _ (sx6 _ _ nD eD)
      have kt := upd_kt (o := .lst (vs ++ [.ref p])) eD7
      have hq7 := hq6.same s7
      have hn7 := hn6.go hq6 (Same.x s7)
      refine ⟨vs, eD7, small1000 (by omega), t6, vs ++ [.ref p], rs ++ [Rat.divInt (1 + i) 1], hq7.upd hn7 nD, by omega, Qn.upd hq7 hn7 nD, ?_, upd_same, by rw [List.length_append, lv]; rfl, (((tl.go (sx6.kt hq')).go (Same.kt s7)).go kt).snoc (kt _ _ e7), nz.snoc (by omega) (by omega)⟩
      refine ⟨fun b o nb e => ?_, fun c w z e => ?_⟩
      · rw [upd_ne (ne_of_none e hD)]
        exact (sx'.trans (sx6.trans (Same.x s7))).kept b o nb e
      · obtain ⟨w', z', e'⟩ := (sx'.trans (sx6.trans (Same.x s7))).cell c w z e
        exact ⟨w', z', by rw [upd_ne nD.symm]; exact e'⟩
    obtain ⟨t2, v2, f2, hq2, ut2, hn2, sx2, eD2, lv2, tl2, nz2⟩ := h
    have np2 := hq.ne hD2
    have hq := hq2
    have eD1 := sx2 _ _ np1 eD1
    have tl1 := tl1.go (sx2.kt hq1)
    have eq2 := tl2.len
    clear hn1 hn2 sx1 sx2 hD1 hD2 hq1 hq2
    obtain ⟨_, _, _, eqq, _⟩ := id hq
    clear hq
    generalize f1 = f at *
    generalize f2 = g at *
    have lf : f.length = 40 := by omega
    have lg : g.length = 42 := by omega
    have trf := nz1.tr.trim
    have ng41 := nz2.take 41
    have trg := ng41.tr.trim
    have lg41 : (g.take 41).length = 41 := by rw [List.length_take]; omega
    walk_at "mfs"
    -- 40 and 41 numbers
    refine g_seq ?_
    walk_at "mfs"
    refine g_slL (seqU eD2) fun p3 H3 n3 s3 e3 => ?_
    have np3 := ne_new eqq n3
    rw [show cutV v2 none (some 41) = v2.take 41 from cut_hi (k := 41) (by omega)] at e3
    have eD1 := s3 _ _ eD1
    have tl1 := tl1.go (Same.kt s3)
    have eD2 := s3 _ _ eD2
    have tl2 := tl2.go (Same.kt s3)
    have eqq := s3 _ _ eqq
    walk_at "mfs"
    refine ⟨q, D1, p3, v1, _, f.map rd, (g.take 41).map rd, 4, 4, 4, rfl, np1, np3, .inl (seqU eD1), .inl (seqU e3), TL.data eqq tl1, TL.data eqq (tl2.take 41), rds_ok nz1.rb, rds_ok ng41.rb, by decide, by rw [List.length_map]; omega, by rw [List.length_map]; omega, by rw [rds_val, trf]; exact nz1.rb, by rw [rds_val, trg]; exact ng41.rb, by decide, by decide, by rw [rds_val, trf]; omega, by rw [rds_val, trg]; omega, .inr (by rw [rds_val, rds_val, trf, trg]; omega), fun p4 H4 w4 s4 n4 e4 t4 => ?_⟩
    rw [rds_val, rds_val, trf, trg] at t4
    have eD1 := s4 _ _ eD1
    have tl1 := tl1.go (Same.kt s4)
    have eD2 := s4 _ _ eD2
    have tl2 := tl2.go (Same.kt s4)
    have eqq := s4 _ _ eqq
    walk_at "mfs"
    have lC := len_conv f (g.take 41)
    have ltC := len_trim_le (conv f (g.take 41))
    have shA := shn_poly (n := 50) (L := 80) (by decide) (by decide) (nz1.conv ng41 (by omega)).trim (by omega)
    refine g_reprS (.tup (tupU e4) t4.dp) shA (by decide) (by decide) (by decide) ?_
    walk_at "mfs"
    refine g_slL (seqU eD2) fun p5 H5 n5 s5 e5 => ?_
    rw [show cutV v2 none (some 41) = v2.take 41 from cut_hi (k := 41) (by omega)] at e5
    have eD1 := s5 _ _ eD1
    have tl1 := tl1.go (Same.kt s5)
    have eD2 := s5 _ _ eD2
    have tl2 := tl2.go (Same.kt s5)
    have eqq := s5 _ _ eqq
    walk_at "mfs"
    refine ⟨D1, p5, v1, _, f, g.take 41, 4, 4, 370, rfl, .inl (seqU eD1), .inl (seqU e5), tl1, tl2.take 41, nz1.rb, ng41.rb, fun i n => (cs_rb nz1.rb ng41.rb (by decide) (by decide) i n).mono (by omega), by decide, by decide, by decide, by omega, by rw [List.length_take]; omega, fun p6 H6 w6 s6 n6 e6 t6 => ?_⟩
    have eD1 := s6 _ _ eD1
    have tl1 := tl1.go (Same.kt s6)
    have eD2 := s6 _ _ eD2
    have tl2 := tl2.go (Same.kt s6)
    have eqq := s6 _ _ eqq
    walk_at "mfs"
    refine g_reprS (.tup (tupU e6) t6.dp) shA (by decide) (by decide) (by decide) ?_
    walk_at "mfs"
    -- times [0, 0]
    have nL := nz1.app (nz2.take 40)
    have lL : (f ++ g.take 40).length = 80 := by rw [List.length_append, List.length_take]; omega
    have lvL : (v1 ++ v2.take 40).length = 80 := by rw [List.length_append, List.length_take]; omega
    have trL := nL.tr.trim
    clear e3 e4 t4 e5 e6 t6 shA s3 s4 s5 s6 n3 n4 n5 n6 np3
    refine g_slL (seqU eD2) fun p3 H3 n3 s3 e3 => ?_
    rw [show cutV v2 none (some 40) = v2.take 40 from cut_hi (k := 40) (by omega)] at e3
    have eD1 := s3 _ _ eD1
    have tl1 := tl1.go (Same.kt s3)
    have eD2 := s3 _ _ eD2
    have tl2 := tl2.go (Same.kt s3)
    have eqq := s3 _ _ eqq
    walk_at "mfs"
    refine g_cat eD1 e3 (Nat.le_of_lt (small1000 (by rw [List.length_take]; omega))) fun p4 H4 n4 s4 e4 => ?_
    have np4 := ne_new eqq n4
    have eD1 := s4 _ _ eD1
    have tl1 := tl1.go (Same.kt s4)
    have eD2 := s4 _ _ eD2
    have tl2 := tl2.go (Same.kt s4)
    have eqq := s4 _ _ eqq
    walk_at "mfs"
    refine g_newL (by show 2 ≤ sizeLine; decide) fun p5 H5 n5 s5 e5 => ?_
    have e4 := s5 _ _ e4
    have np5 := ne_new eqq n5
    have eD1 := s5 _ _ eD1
    have tl1 := tl1.go (Same.kt s5)
    have eD2 := s5 _ _ eD2
    have tl2 := tl2.go (Same.kt s5)
    have eqq := s5 _ _ eqq
    walk_at "mfs"
    have tL := tl1.app (tl2.take 40)
    refine ⟨q, p4, p5, _, _, (f ++ g.take 40).map rd, [.int 0, .int 0], 4, 4, 1, rfl, np4, np5, .inl (seqU e4), .inl (seqU e5), TL.data eqq tL, .cons (.int 0) (.cons (.int 0) .nil), rds_ok nL.rb, ?_, by decide, by rw [List.length_map]; omega, by decide, by rw [rds_val, trL]; exact nL.rb, by rw [zeros2]; exact fun r hr => absurd hr List.not_mem_nil, by decide, by decide, by rw [rds_val, trL]; omega, by rw [zeros2]; decide, .inl zeros2, fun p6 H6 w6 s6 n6 e6 t6 => ?_⟩
    · intro d hd
      have z4 : Bt 4 0 := bt4 (by decide) (by decide)
      have o4 : Bt 4 1 := bt4 (by decide) (by decide)
      simp only [List.mem_cons, List.not_mem_nil, or_false] at hd
      rcases hd with rfl | rfl <;> exact ⟨rfl, z4, o4⟩
    rw [zeros2, conv_nil] at t6
    have eD1 := s6 _ _ eD1
    have tl1 := tl1.go (Same.kt s6)
    have eD2 := s6 _ _ eD2
    have tl2 := tl2.go (Same.kt s6)
    have eqq := s6 _ _ eqq
    walk_at "mfs"
    refine g_newT (by show 0 ≤ sizeLine; decide) fun p7 H7 n7 s7 e7 => ?_
    have e6 := s7 _ _ e6
    have t6 := t6.go (Same.kt s7)
    have eD1 := s7 _ _ eD1
    have tl1 := tl1.go (Same.kt s7)
    have eD2 := s7 _ _ eD2
    have tl2 := tl2.go (Same.kt s7)
    have eqq := s7 _ _ eqq
    walk_at "mfs"
    refine g_neNilT (tupU e6) t6 (tupU e7) ?_
    rw [show (!([] : List Rat).isEmpty) = false from rfl]
    walk_at "mfs"
    clear e3 e4 e5 e6 t6 e7 s3 s4 s5 s6 s7 n3 n4 n5 n6 n7 np4 np5 tL
    -- long
    refine g_seq ?_
    walk_at "mfs"
    refine g_slL (seqU eD2) fun p3 H3 n3 s3 e3 => ?_
    rw [show cutV v2 none (some 40) = v2.take 40 from cut_hi (k := 40) (by omega)] at e3
    have eD1 := s3 _ _ eD1
    have tl1 := tl1.go (Same.kt s3)
    have eD2 := s3 _ _ eD2
    have tl2 := tl2.go (Same.kt s3)
    have eqq := s3 _ _ eqq
    walk_at "mfs"
    refine g_cat eD1 e3 (Nat.le_of_lt (small1000 (by rw [List.length_take]; omega))) fun pL HL nLn s4 eL => ?_
    have npL := ne_new eqq nLn
    have eD1 := s4 _ _ eD1
    have tl1 := tl1.go (Same.kt s4)
    have eD2 := s4 _ _ eD2
    have tl2 := tl2.go (Same.kt s4)
    have eqq := s4 _ _ eqq
    have tL := tl1.app (tl2.take 40)
    generalize f ++ g.take 40 = fl at *
    generalize v1 ++ v2.take 40 = vl at *
    walk_at "mfs"
    -- sums
    refine g_seq ?_
    walk_at "mfs"
    have lp := len_padd fl f
    have ltp := len_trim_le (padd fl f)
    have shS := shn_poly (n := 9) (L := 80) (by decide) (by decide) (rbl_padd nL.rb nz1.rb (by decide) (by decide)).trim (by omega)
    refine ⟨q, pL, D1, _, _, fl.map rd, f.map rd, 4, rfl, npL, np1, .inl (seqU eL), .inl (seqU eD1), TL.data eqq tL, TL.data eqq tl1, rds_ok nL.rb, rds_ok nz1.rb, by decide, by decide, by rw [List.length_map]; omega, by rw [List.length_map]; omega, fun p5 H5 w5 s5 n5 e5 t5 => ?_⟩
    rw [rds_val, rds_val] at t5
    have eD1 := s5 _ _ eD1
    have tl1 := tl1.go (Same.kt s5)
    have eD2 := s5 _ _ eD2
    have tl2 := tl2.go (Same.kt s5)
    have eL := s5 _ _ eL
    have tL := tL.go (Same.kt s5)
    have eqq := s5 _ _ eqq
    walk_at "mfs"
    refine g_reprS (.tup (tupU e5) t5.dp) shS (by decide) (by decide) (by decide) ?_
    walk_at "mfs"
    refine ⟨pL, D1, vl, v1, fl, f, 4, 4, rfl, .inl (seqU eL), .inl (seqU eD1), tL, tl1, nL.rb, nz1.rb, by decide, by decide, by decide, by omega, by omega, fun p6 H6 w6 s6 n6 e6 t6 => ?_⟩
    have eD1 := s6 _ _ eD1
    have tl1 := tl1.go (Same.kt s6)
    have eD2 := s6 _ _ eD2
    have tl2 := tl2.go (Same.kt s6)
    have eL := s6 _ _ eL
    have tL := tL.go (Same.kt s6)
    have eqq := s6 _ _ eqq
    walk_at "mfs"
    refine g_reprS (.tup (tupU e6) t6.dp) shS (by decide) (by decide) (by decide) ?_
    walk_at "mfs"
    clear e5 t5 e6 t6 s5 s6 n5 n6 shS
    -- values
    refine g_newT (by show 2 ≤ sizeLine; decide) fun p7 H7 n7 s7 e7 => ?_
    have e7 : H7 p7 = some (.tup (rv (Rat.divInt (-1) 2))) := by rw [rv_half]; exact e7
    have np7 := ne_new eqq n7
    have eD1 := s7 _ _ eD1
    have tl1 := tl1.go (Same.kt s7)
    have eD2 := s7 _ _ eD2
    have tl2 := tl2.go (Same.kt s7)
    have eL := s7 _ _ eL
    have tL := tL.go (Same.kt s7)
    have eqq := s7 _ _ eqq
    walk_at "mfs"
    have bV : Rb 561 (val fl (Rat.divInt (-1) 2)) := nL.val (by omega) _ (Nat.le_refl _)
    refine ⟨q, pL, .ref p7, _, fl.map rd, Rat.divInt (-1) 2, 4, 2, 4, rfl, npL, .inl (seqU eL), TL.data eqq tL, rds_ok nL.rb, by decide, by rw [List.length_map]; omega, Fr.tup (tupU e7) np7 rb_half, by rw [rds_val, trL]; exact nL.rb, by decide, by rw [rds_val, trL]; omega, ⟨_, eqq⟩, fun p8 H8 s8 n8 e8 => ?_⟩
    rw [rds_val] at e8
    have eD1 := s8 _ _ eD1
    have tl1 := tl1.go (Same.kt s8)
    have eD2 := s8 _ _ eD2
    have tl2 := tl2.go (Same.kt s8)
    have eL := s8 _ _ eL
    have tL := tL.go (Same.kt s8)
    have eqq := s8 _ _ eqq
    walk_at "mfs"
    refine g_reprS (rv_dp e8) (shn_rd bV (by decide) (by decide)) (by decide) (by decide) (by decide) ?_
    walk_at "mfs"
    refine g_newT (by show 2 ≤ sizeLine; decide) fun p9 H9 n9 s9 e9 => ?_
    have e9 : H9 p9 = some (.tup (rv (Rat.divInt (-1) 2))) := by rw [rv_half]; exact e9
    have eD1 := s9 _ _ eD1
    have tl1 := tl1.go (Same.kt s9)
    have eD2 := s9 _ _ eD2
    have tl2 := tl2.go (Same.kt s9)
    have eL := s9 _ _ eL
    have tL := tL.go (Same.kt s9)
    have eqq := s9 _ _ eqq
    walk_at "mfs"
    refine ⟨pL, p9, vl, fl, Rat.divInt (-1) 2, 2, 4, 561, rfl, .inl (seqU eL), tL, e9, rb_half, nL.rb, by decide, fun i hi => nL.val (by omega) i hi, by omega, by omega, fun p10 H10 s10 n10 e10 => ?_⟩
    have eD1 := s10 _ _ eD1
    have tl1 := tl1.go (Same.kt s10)
    have eD2 := s10 _ _ eD2
    have tl2 := tl2.go (Same.kt s10)
    have eL := s10 _ _ eL
    have tL := tL.go (Same.kt s10)
    have eqq := s10 _ _ eqq
    walk_at "mfs"
    refine g_reprS (rv_dp e10) (shn_rd bV (by decide) (by decide)) (by decide) (by decide) (by decide) ?_
    walk_at "mfs"
    clear e7 e8 e9 e10 s7 s8 s9 s10 n7 n8 n9 n10 np7 bV
    -- slope
    refine g_seq ?_
    walk_at "mfs"
    have lS := len_slope fl
    have shD := shn_poly (n := 14) (L := 80) (by decide) (by decide) (rbl_full nL (by omega)) (by omega)
    refine ⟨q, pL, _, fl.map rd, 4, rfl, npL, .inl (seqU eL), TL.data eqq tL, rds_ok nL.rb, by decide, by decide, by rw [List.length_map]; omega, fun p11 H11 w11 s11 n11 e11 t11 => ?_⟩
    rw [rds_val, trL] at t11
    have eD1 := s11 _ _ eD1
    have tl1 := tl1.go (Same.kt s11)
    have eD2 := s11 _ _ eD2
    have tl2 := tl2.go (Same.kt s11)
    have eL := s11 _ _ eL
    have tL := tL.go (Same.kt s11)
    have eqq := s11 _ _ eqq
    walk_at "mfs"
    refine g_reprS (.tup (tupU e11) t11.dp) shD (by decide) (by decide) (by decide) ?_
    walk_at "mfs"
    refine g_lcEL ?_
    walk_at "mfs"
    refine ⟨pL, vl, rfl, seqU eL, ?_⟩
    refine lcgo_enumL (xs := vl) (fun D n H' => Same H11 H' ∧ ∃ vs, H' D = some (.lst vs) ∧ vs.length = n ∧ TL H' vs ((fullS fl).take n)) (fun x y => rfl) (fun D hD => ⟨same_new hD, [], upd_same, rfl, .nil⟩) (fun D n H' _ h => seqU (h.1 _ _ eL)) (fun D n x T H' hD hx h nT => ?_) (fun D H12 hD h => ?_)
    · obtain ⟨h1, vs, h2, h3, h4⟩ := h
      have sT : Same H' (upd H' T (.tup [.int (n : Nat), x])) := same_new nT
      generalize upd H' T (.tup [.int (n : Nat), x]) = Ht at *
      obtain ⟨b, rfl, eb, gb⟩ := (tL.go (Same.kt (h1.trans sT))).get hx
      have hn : n < fl.length := (List.getElem?_eq_some_iff.mp gb).1
      obtain ⟨z, z1, z2, ez⟩ := nL.at hn
      rw [ez, rv_int] at eb
      walk_at "mfs"
      refine g_ix (.inr (tupU eb)) (v := .int z) rfl ?_
      walk_at "mfs"
      refine g_newT (by show 2 ≤ sizeLine; decide) fun p3 H3 n3 s3 e3 => ?_
      have eD := s3 _ _ (sT _ _ h2)
      have kt := upd_kt (o := .lst (vs ++ [.ref p3])) eD
      have e3 : H3 p3 = some (.tup (rv ((n : Rat) * co fl n))) := by rw [ez, rv_mul]; exact e3
      refine ⟨vs, eD, small1000 (by omega), ?_, vs ++ [.ref p3], upd_same, by rw [List.length_append, h3]; rfl, ?_⟩
      · intro c o e
        rw [upd_ne (ne_of_none e hD)]
        exact s3 _ _ (sT _ _ (h1 _ _ e))
      · rw [take_snoc (get_full hn)]
        exact (((h4.go (Same.kt sT)).go (Same.kt s3)).go kt).snoc (kt _ _ e3)
    obtain ⟨s12, vs, h2, h3, h4⟩ := h
    have lvl := tL.len
    rw [lvl, ← len_full fl, List.take_length] at h4
    have eD1 := s12 _ _ eD1
    have tl1 := tl1.go (Same.kt s12)
    have eD2 := s12 _ _ eD2
    have tl2 := tl2.go (Same.kt s12)
    have eL := s12 _ _ eL
    have tL := tL.go (Same.kt s12)
    have eqq := s12 _ _ eqq
    walk_at "mfs"
    refine g_slL (seqU h2) fun p13 H13 n13 s13 e13 => ?_
    rw [cut_lo1] at e13
    have t13 := (h4.go (Same.kt s13)).drop 1
    rw [slope_full] at t13
    have eD1 := s13 _ _ eD1
    have tl1 := tl1.go (Same.kt s13)
    have eD2 := s13 _ _ eD2
    have tl2 := tl2.go (Same.kt s13)
    have eL := s13 _ _ eL
    have tL := tL.go (Same.kt s13)
    have eqq := s13 _ _ eqq
    walk_at "mfs"
    refine g_tupOf (seqU e13) fun p14 H14 n14 s14 e14 => ?_
    have t14 := t13.go (Same.kt s14)
    have eD1 := s14 _ _ eD1
    have tl1 := tl1.go (Same.kt s14)
    have eD2 := s14 _ _ eD2
    have tl2 := tl2.go (Same.kt s14)
    have eL := s14 _ _ eL
    have tL := tL.go (Same.kt s14)
    have eqq := s14 _ _ eqq
    walk_at "mfs"
    refine g_reprS (.tup (tupU e14) t14.dp) shD (by decide) (by decide) (by decide) ?_
    walk_at "mfs"
    clear e11 t11 h2 h4 e13 t13 e14 t14 s11 s12 s13 s14 n11 n13 n14 shD
    -- refused
    refine g_seq (g_asg ?_)
    walk_at "mfs"
    refine g_seq ?_
    walk_at "mfs"
    refine g_clX ?_
    walk_at "mfs"
    have trg42 := nz2.tr.trim
    refine ⟨q, D1, D2, v1, v2, f.map rd, g.map rd, 4, 4, 4, rfl, np1, np2, .inl (seqU eD1), .inl (seqU eD2), TL.data eqq tl1, TL.data eqq tl2, rds_ok nz1.rb, rds_ok nz2.rb, by decide, by rw [List.length_map]; omega, by rw [List.length_map]; omega, by rw [rds_val, trf]; exact nz1.rb, by rw [rds_val, trg42]; exact nz2.rb, by decide, by decide, by rw [rds_val, trf]; omega, by rw [rds_val, trg42]; omega, by rw [rds_val, trf]; exact fun z => by (rw [z] at lf; cases lf), by rw [rds_val, trg42]; exact fun z => by (rw [z] at lg; cases lg), by rw [rds_val, rds_val, trf, trg42]; omega, fun d Hd hd sd ed => ?_⟩
    refine ⟨true, exm_of hE.cl hG, fun _ a ha => ?_, fun z => nomatch z⟩
    have nda : d ≠ a := ne_of_none ed ha
    walk_at "mfs"
    have ek : Ek (upd Hd a (cxo a (.ref C) (some d))) a C [("most", .int 80), ("what", .str "numbers")] := ⟨d, upd_same, by rw [upd_ne nda]; exact ed⟩
    generalize upd Hd a (cxo a (.ref C) (some d)) = He at *
    refine ⟨a, C, _, .ref C, .ref C, true, rfl, .own _, hE.erc, ek, (kit_own hE.cl hE.cl).trans (by (rw [decide_eq_true rfl] <;> rfl)), ?_⟩
    walk_at "mfs"
    refine g_kat ?_
    walk_at "mfs"
    refine ⟨a, C, _, .str "numbers", rfl, hE.erc, hE.no _ (List.mem_cons_self ..), ek, by simp [List.lookup, show (Str.ofString "what" == Str.ofString "most") = false by decide +kernel], ?_⟩
    walk_at "mfs"
    refine g_kat ?_
    walk_at "mfs"
    refine ⟨a, C, _, .int 80, rfl, hE.erc, hE.no _ (List.mem_cons_of_mem _ (List.mem_cons_self ..)), ek, by simp [List.lookup], ?_⟩
    walk_at "mfs"
    refine g_newT (by show 2 ≤ sizeLine; decide) fun p1 Hp1 m1 sp1 ep1 => ?_
    walk_at "mfs"
    refine g_newT (by show 2 ≤ sizeLine; decide) fun p2 Hp2 m2 sp2 ep2 => ?_
    walk_at "mfs"
    refine g_eqNM (sp2 _ _ ep1) ep2 ?_
    walk_at "mfs"
    exact k _
end Mf
namespace Mf
open PySem PySem.Spec PyProof.Rows L2
local macro_rules | `(tactic| walk_at "mf1") => `(tactic| first
  | ((with_reducible apply g_var); exact rfl)
  | with_reducible first
    | refine g_c ?_ | refine g_op ?_ | refine g_un ?_ | refine g_cb ?_ | refine g_cl ?_ | refine g_clk ?_ | refine g_nil ?_ | refine g_cons ?_
    | refine g_tB ?_ | refine g_test ?_ | refine g_bl ?_ | refine g_and ?_ | refine g_or ?_ | refine g_not ?_ | refine g_andV ?_ | refine g_orV ?_ | refine g_notV ?_
    | refine g_if ?_ | refine g_ifS ?_ | refine g_seq ?_ | refine g_next ?_ | refine g_ret ?_ | refine g_drop ?_ | refine g_asg ?_ | refine g_name ?_ | refine g_sub ?_
    | refine g_int ?_ | refine g_intB ?_ | refine g_abs ?_ | refine g_I0 ?_ | refine g_addI ?_ | refine g_U ?_ | refine g_isNn ?_ | refine g_isNi ?_ | refine g_notN ?_ | refine g_notT1 ?_ | refine g_notT2 ?_ | refine g_notT3 ?_ | refine g_notT4 ?_ | refine g_notTb ?_ | refine g_notTi ?_ | refine g_eqI ?_ | refine g_neI ?_ | refine g_neSs ?_ | refine g_neS ?_ | refine g_eqS ?_
    | refine g_iteT ?_ | refine g_iteF ?_ | refine g_iteNT ?_ | refine g_iteNF ?_ | refine g_lst ?_ | refine g_tup ?_ | refine g_seqP ?_ | refine g_sl ?_ | refine g_noPart ?_ | refine g_part ?_ | refine g_yes ?_ | refine g_thenT ?_ | refine g_consG ?_ | refine g_nilG ?_ | refine g_ii ?_ | refine g_par ?_ | refine g_par3 ?_ | refine g_vv ?_ | refine g_vvv ?_ | refine g_reprB ?_ | refine g_lcL ?_ | refine g_lcR ?_
  | ((with_reducible refine g_mod ?_ ?_); (first | omega | decide))
  | ((with_reducible refine g_div ?_ ?_ ?_); (first | omega | decide); (first | assumption | decide))
  | ((with_reducible refine g_mulL ?_ ?_ ?_); (first | omega | decide); (first | omega | decide))
  | ((with_reducible refine g_mulR ?_ ?_ ?_); (first | omega | decide); (first | omega | decide))
  | ((with_reducible refine g_pow ?_ ?_ ?_ ?_); decide; decide; (first | omega | decide))
  | dsimp only)
local macro_rules | `(tactic| walk_at "mf1s") => `(tactic| first
  | ((with_reducible apply g_var); exact rfl)
  | with_reducible first
    | refine g_c ?_ | refine g_op ?_ | refine g_un ?_ | refine g_cb ?_ | refine g_cl ?_ | refine g_clk ?_ | refine g_nil ?_ | refine g_cons ?_
    | refine g_tB ?_ | refine g_test ?_ | refine g_bl ?_ | refine g_and ?_ | refine g_or ?_ | refine g_not ?_ | refine g_andV ?_ | refine g_orV ?_ | refine g_notV ?_
    | refine g_if ?_ | refine g_ifS ?_ | refine g_next ?_ | refine g_ret ?_ | refine g_drop ?_ | refine g_asg ?_ | refine g_name ?_ | refine g_sub ?_
    | refine g_int ?_ | refine g_intB ?_ | refine g_abs ?_ | refine g_I0 ?_ | refine g_addI ?_ | refine g_U ?_ | refine g_isNn ?_ | refine g_isNi ?_ | refine g_notN ?_ | refine g_notT1 ?_ | refine g_notT2 ?_ | refine g_notT3 ?_ | refine g_notT4 ?_ | refine g_notTb ?_ | refine g_notTi ?_ | refine g_eqI ?_ | refine g_neI ?_ | refine g_neSs ?_ | refine g_neS ?_ | refine g_eqS ?_
    | refine g_iteT ?_ | refine g_iteF ?_ | refine g_iteNT ?_ | refine g_iteNF ?_ | refine g_lst ?_ | refine g_tup ?_ | refine g_seqP ?_ | refine g_sl ?_ | refine g_noPart ?_ | refine g_part ?_ | refine g_yes ?_ | refine g_thenT ?_ | refine g_consG ?_ | refine g_nilG ?_ | refine g_ii ?_ | refine g_par ?_ | refine g_par3 ?_ | refine g_vv ?_ | refine g_vvv ?_ | refine g_reprB ?_ | refine g_lcL ?_ | refine g_lcR ?_
  | ((with_reducible refine g_mod ?_ ?_); (first | omega | decide))
  | ((with_reducible refine g_div ?_ ?_ ?_); (first | omega | decide); (first | assumption | decide))
  | ((with_reducible refine g_mulL ?_ ?_ ?_); (first | omega | decide); (first | omega | decide))
  | ((with_reducible refine g_mulR ?_ ?_ ?_); (first | omega | decide); (first | omega | decide))
  | ((with_reducible refine g_pow ?_ ?_ ?_ ?_); decide; decide; (first | omega | decide))
  | dsimp only)
local macro_rules | `(tactic| walk_at "mfs") => `(tactic| repeat walk_at "mf1s")
local macro_rules | `(tactic| walk_at "mf") => `(tactic| repeat walk_at "mf1")
local macro_rules | `(tactic| walk_at "ed") => `(tactic| repeat (first
  | with_reducible first
    | exact eds_nil | apply eds_cons | exact ed_int | exact ed_bl | exact ed_non | apply ed_neg
  | ((with_reducible apply ed_str); decide)
  | ((with_reducible apply ed_var); (exact rfl); (first | assumption | exact Dq.int _))
  | ((with_reducible apply ed_dict0); assumption)
  | ((with_reducible apply ed_dict2); assumption)
  | ((with_reducible apply ed_tup); assumption)
  | ((with_reducible apply ed_lst); assumption)
  | (with_reducible apply ed_pow)
  | (with_reducible apply ed_mul)
  | assumption
  | (exact Dq.int _)
  | (exact ⟨by decide, by decide, by decide⟩)
  | (show List.length _ ≤ 1000; simp only [List.length_cons, List.length_nil]; decide)))
def sp_law (K : PySem.W.Frag) : Sp := fun vs H Q _ => ∃ (a : Addr) (ns : List Int), vs = [.ref a] ∧ SqL K H a (ns.map V.int) ∧ ns.length ≤ 63 ∧ ∀ H', Q (.bl true) H'
theorem ok_law (c : Cn) (T : Tx c) : Cl c 9 "law" s_law ["script"] (sp_law c.K) := by
  obtain ⟨P, w, K, mg, base⟩ := c
  have C__law_abbot := ok__law_abbot _ T
  have C__law_as := ok__law_as _ T
  have C__law_bead := ok__law_bead _ T
  have C__law_fraction := ok__law_fraction _ T
  have C__law_long_right := ok__law_long_right _ T
  have C__law_product := ok__law_product _ T
  have C__law_row := ok__law_row _ T
  have C__law_sum := ok__law_sum _ T
  have C__law_times := ok__law_times _ T
  have C__law_trimmed := ok__law_trimmed _ T
  have C__law_value := ok__law_value _ T
  have C_poly_of := ok_poly_of _ T
  have C_poly_sum := ok_poly_sum _ T
  have C_poly_times := ok_poly_times _ T
  have C_value_at := ok_value_at _ T
  refine De.cl (N := ["script", "abbot", "turn", "one", "other", "some", "more", "kept", "at", "number"]) T.d_law sc_law (fun vs H Q E h => ?_) (fun f0 cdv A outer s H vs Q E hA hr h => ?_)
  · obtain ⟨a, ns, rfl, _⟩ := h; rfl
  · have S := sc_law
    obtain ⟨a, ns, rfl, hS, hlen, k⟩ := h
    refine ⟨_, (pss_cons (ps_set (i := 1) S.nd rfl (by first | exact .inl rfl | exact .inr rfl) (pe_f C__law_abbot hA hr (by decide) pl__law_abbot (by rfl) (pa_cons (pv 0) pa_nil)))
      (pss_cons (ps_for PassesOwn.never rfl (pi_range1 rfl T.n_range (pa_cons pe_int pa_nil)) (pg_name (i := 2) S.nd rfl (by first | exact .inl rfl | exact .inr rfl)) (pss_cons (ps_par (i := 3) (j := 4) (by rfl) S.nd rfl rfl (by decide) rfl rfl (pa_cons (pe_f C__law_row hA hr (by decide) pl__law_row (by rfl) (pa_cons (pv 1) (pa_cons pe_int pa_nil))) (pa_cons (pe_f C__law_row hA hr (by decide) pl__law_row (by rfl) (pa_cons (pv 1) (pa_cons pe_int pa_nil))) pa_nil)) (by rfl))
      (pss_cons (ps_par (i := 5) (j := 6) (by rfl) S.nd rfl rfl (by decide) rfl rfl (pa_cons (pe_lc (own := [("number", 9)]) (g := gName 9) (tt := tYes) rfl S.nd (pi_list (pv 3)) (blkOk_by (N := ["script", "abbot", "turn", "one", "other", "some", "more", "kept", "at", "number"]) (sc := defScope s_law) (by decide +kernel)) (fun _ _ _ _ _ => pg_name (i := 9) S.nd rfl (Or.inl rfl)) (fun _ _ _ _ _ => pts_nil) (fun _ _ _ _ _ => (pe_f C__law_as hA hr (by decide) pl__law_as (by rfl) (pa_cons (pv 1) (pa_cons (pv 9) pa_nil))))) (pa_cons (pe_tupleOf (by rfl) T.n_tuple (pe_lc (own := [("number", 9)]) (g := gName 9) (tt := tYes) rfl S.nd (pi_list (pv 4)) (blkOk_by (N := ["script", "abbot", "turn", "one", "other", "some", "more", "kept", "at", "number"]) (sc := defScope s_law) (by decide +kernel)) (fun _ _ _ _ _ => pg_name (i := 9) S.nd rfl (Or.inl rfl)) (fun _ _ _ _ _ => pts_nil) (fun _ _ _ _ _ => (pe_f C__law_as hA hr (by decide) pl__law_as (by rfl) (pa_cons (pv 1) (pa_cons (pv 9) pa_nil)))))) pa_nil)) (by rfl))
      (pss_cons (ps_set (i := 7) S.nd rfl (by first | exact .inl rfl | exact .inr rfl) (pe_callB (call_reprU hA hr.units) (by rfl) T.n_repr (show bootBuiltins "repr" = some (.builtin "repr") by decide +kernel) (pa_cons (pe_lst (pa_cons (pv 5) (pa_cons (pv 6) pa_nil))) pa_nil)))
      (pss_cons (ps_if (pt_cmpR (op_neU hr.units) (pe_callB (call_reprU hA hr.units) (by rfl) T.n_repr (show bootBuiltins "repr" = some (.builtin "repr") by decide +kernel) (pa_cons (pe_lst (pa_cons (pe_fk C_poly_of hA hr (by decide) pk_poly_of relR (lenR rfl) (by rfl) (pk_cons (pv 5) pk_nil)) (pa_cons (pe_f C_poly_of hA hr (by decide) pl_poly_of (by rfl) (pa_cons (pv 6) pa_nil)) pa_nil))) pa_nil)) (pe_callB (call_reprU hA hr.units) (by rfl) T.n_repr (show bootBuiltins "repr" = some (.builtin "repr") by decide +kernel) (pa_cons (pe_lst (pa_cons (pe_f C__law_trimmed hA hr (by decide) pl__law_trimmed (by rfl) (pa_cons (pv 3) pa_nil)) (pa_cons (pe_f C__law_trimmed hA hr (by decide) pl__law_trimmed (by rfl) (pa_cons (pv 4) pa_nil)) pa_nil))) pa_nil)) (nomark _)) (pss_one (ps_ret pe_bl)) pss_nil)
      (pss_cons (ps_if (PW.pt (pw_or (pt_cmpR (op_neU hr.units) (pe_callB (call_reprU hA hr.units) (by rfl) T.n_repr (show bootBuiltins "repr" = some (.builtin "repr") by decide +kernel) (pa_cons (pe_fk C_poly_sum hA hr (by decide) pk_poly_sum relR (lenR rfl) (by rfl) (pk_cons (pv 6) (pk_cons (pv 5) pk_nil))) pa_nil)) (pe_callB (call_reprU hA hr.units) (by rfl) T.n_repr (show bootBuiltins "repr" = some (.builtin "repr") by decide +kernel) (pa_cons (pe_f C__law_sum hA hr (by decide) pl__law_sum (by rfl) (pa_cons (pv 3) (pa_cons (pv 4) pa_nil))) pa_nil)) (nomark _)) (pw_or1 (pt_cmpR (op_neU hr.units) (pe_f C_poly_sum hA hr (by decide) pl_poly_sum (by rfl) (pa_cons (pv 6) (pa_cons (pv 5) pa_nil))) (pe_f C_poly_sum hA hr (by decide) pl_poly_sum (by rfl) (pa_cons (pv 5) (pa_cons (pv 6) pa_nil))) (nomark _))))) (pss_one (ps_ret pe_bl)) pss_nil)
      (pss_cons (ps_if (pt_cmpR (op_neU hr.units) (pe_callB (call_reprU hA hr.units) (by rfl) T.n_repr (show bootBuiltins "repr" = some (.builtin "repr") by decide +kernel) (pa_cons (pe_fk C_poly_times hA hr (by decide) pk_poly_times relR (lenR rfl) (by rfl) (pk_cons (pv 6) (pk_cons (pv 5) pk_nil))) pa_nil)) (pe_callB (call_reprU hA hr.units) (by rfl) T.n_repr (show bootBuiltins "repr" = some (.builtin "repr") by decide +kernel) (pa_cons (pe_f C__law_product hA hr (by decide) pl__law_product (by rfl) (pa_cons (pe_f C__law_trimmed hA hr (by decide) pl__law_trimmed (by rfl) (pa_cons (pv 3) pa_nil)) (pa_cons (pe_f C__law_trimmed hA hr (by decide) pl__law_trimmed (by rfl) (pa_cons (pv 4) pa_nil)) pa_nil))) pa_nil)) (nomark _)) (pss_one (ps_ret pe_bl)) pss_nil)
      (pss_cons (ps_set (i := 8) S.nd rfl (by first | exact .inl rfl | exact .inr rfl) (pe_f C__law_fraction hA hr (by decide) pl__law_fraction (by rfl) (pa_cons (pv 1) pa_nil)))
      (pss_cons (ps_if (PW.pt (pw_or (pt_cmpR (op_neU hr.units) (pe_callB (call_reprU hA hr.units) (by rfl) T.n_repr (show bootBuiltins "repr" = some (.builtin "repr") by decide +kernel) (pa_cons (pe_fk C_value_at hA hr (by decide) pk_value_at relR (lenR rfl) (by rfl) (pk_cons (pe_f C__law_as hA hr (by decide) pl__law_as (by rfl) (pa_cons (pv 1) (pa_cons (pv 8) pa_nil))) (pk_cons (pv 5) pk_nil))) pa_nil)) (pe_callB (call_reprU hA hr.units) (by rfl) T.n_repr (show bootBuiltins "repr" = some (.builtin "repr") by decide +kernel) (pa_cons (pe_f C__law_value hA hr (by decide) pl__law_value (by rfl) (pa_cons (pv 3) (pa_cons (pv 8) pa_nil))) pa_nil)) (nomark _)) (pw_or1 (pt_cmpR (op_neU hr.units) (pe_callB (call_reprU hA hr.units) (by rfl) T.n_repr (show bootBuiltins "repr" = some (.builtin "repr") by decide +kernel) (pa_cons (pe_lst (pa_cons (pv 5) (pa_cons (pv 6) pa_nil))) pa_nil)) (pv 7) (nomark _))))) (pss_one (ps_ret pe_bl)) pss_nil)
      (pss_one (ps_if (pt_cmpR (op_neU hr.units) (pe_f C_value_at hA hr (by decide) pl_value_at (by rfl) (pa_cons (pe_f C_poly_times hA hr (by decide) pl_poly_times (by rfl) (pa_cons (pv 5) (pa_cons (pv 6) pa_nil))) (pa_cons (pv 8) pa_nil))) (pe_f C__law_times hA hr (by decide) pl__law_times (by rfl) (pa_cons (pe_f C__law_value hA hr (by decide) pl__law_value (by rfl) (pa_cons (pv 3) (pa_cons (pv 8) pa_nil))) (pa_cons (pe_f C__law_value hA hr (by decide) pl__law_value (by rfl) (pa_cons (pv 4) (pa_cons (pv 8) pa_nil))) pa_nil))) (nomark _)) (pss_one (ps_ret pe_bl)) pss_nil)))))))))))
      (pss_one (ps_ret (pe_or (pe_cmpR (op_neU hr.units) (pe_f C__law_bead hA hr (by decide) pl__law_bead (by rfl) (pa_cons (pv 1) (pa_cons pe_int pa_nil))) pe_int (nomark _)) (pe_one (pe_f C__law_long_right hA hr (by decide) pl__law_long_right (by rfl) (pa_cons (pv 1) pa_nil)))))))), ?_⟩
    refine g_seq (g_asg ?_)
    walk_at "mf"
    refine ⟨a, ns, rfl, hS, hlen, fun q H1 s1 hq0 hq => ?_⟩
    refine g_name (g_seq ?_)
    refine g_for1 ⟨by decide, by decide⟩ (fun i σ' H' => (∃ s2 s3 s4 s5 s6 s7 s8, σ' = [some (.ref a), some (.ref q), s2, s3, s4, s5, s6, s7, s8, none]) ∧ ∃ t, Qy K q t H' ∧ t ≤ 400 * (i : Int)) ⟨⟨_, _, _, _, _, _, _, rfl⟩, 0, hq, by omega⟩ (fun i σ' H' hi hP => ?_) (fun σ' H' hP => ?_)
    · obtain ⟨⟨s2, s3, s4, s5, s6, s7, s8, rfl⟩, t, hq, ht⟩ := hP
      have hi8 : i < 3 := hi
      clear hS hlen s1 hq0
      refine g_seq ?_
      walk_at "mfs"
      refine ⟨q, t, 7, rfl, hq, by omega, by decide, by decide, fun t1 H1 p1 v1 one sx1 hq1 l1 u1 n1 qn1 e1 tl1 b1 len1 => ?_⟩
      have np1 := hq.ne n1
      walk_at "mfs"
      refine ⟨q, t1, 5, rfl, hq1, by omega, by decide, by decide, fun t2 H2 p2 v2 oth sx2 hq2 l2 u2 n2 qn2 e2 tl2 b2 len2 => ?_⟩
      have np2 := hq1.ne n2
      have e1 := sx2 _ _ np1 e1
      have tl1 := tl1.go (sx2.kt hq1)
      clear n1 n2 qn1 qn2 sx1 sx2 hq hq1
      walk_at "mfs"
      -- some, more
      refine g_seq ?_
      walk_at "mfs"
      refine ⟨p1, rfl, ⟨_, seqU e1⟩, ?_⟩
      refine lc_asL hq2 (by omega) np1 e1 tl1 (b1.mono (by decide)) (by omega) (fun x => rfl) (fun x => rfl) (fun x => rfl) fun D H3 t3 x3 ds sx3 hq3 l3 u3 nD3 npD eD hds okd evd => ?_
      have e1 := sx3 _ _ np1 e1
      have tl1 := tl1.go (sx3.kt hq2)
      have e2 := sx3 _ _ np2 e2
      have tl2 := tl2.go (sx3.kt hq2)
      walk_at "mfs"
      refine ⟨p2, rfl, ⟨_, seqU e2⟩, ?_⟩
      refine lc_asL hq3 (by omega) np2 e2 tl2 (b2.mono (by decide)) (by omega) (fun x => rfl) (fun x => rfl) (fun x => rfl) fun D4 H4 t4 x4 es sx4 hq4 l4 u4 nD4 npD4 eD4 hes oke eve => ?_
      have e1 := sx4 _ _ np1 e1
      have tl1 := tl1.go (sx4.kt hq3)
      have e2 := sx4 _ _ np2 e2
      have tl2 := tl2.go (sx4.kt hq3)
      have eD := sx4 _ _ npD eD
      have hds := DqAll.go sx4 hds
      refine g_tupOf (seqU eD4) fun M H5 nM s5 eM => ?_
      have npM := hq4.ne nM
      have hq5 := hq4.same s5
      have e1 := s5 _ _ e1
      have tl1 := tl1.go (Same.kt s5)
      have e2 := s5 _ _ e2
      have tl2 := tl2.go (Same.kt s5)
      have eD := s5 _ _ eD
      have hds := DqAll.go (Same.x s5) hds
      have hes := DqAll.go (Same.x s5) hes
      have lds : ds.length = one.length := by rw [← evd, List.length_map]
      have les : es.length = oth.length := by rw [← eve, List.length_map]
      have fd : ∀ d ∈ ds, isFrD d = true := fun d hd => (okd d hd).1
      have fe : ∀ d ∈ es, isFrD d = true := fun d hd => (oke d hd).1
      have lw1 := tl1.len
      have lw2 := tl2.len
      clear sx3 sx4 nD3 nD4 eD4 npD4 hq2 hq3 hq4 nM s5
      walk_at "mfs"
      -- kept
      have shK := sha_lt (n := 140) (L1 := 7) (L2 := 5) (by decide) (by decide) okd oke (by omega) (by omega)
      refine g_seq (g_asg ?_)
      walk_at "mfs"
      refine g_newL (by show 2 ≤ sizeLine; decide) fun p6 H6 n6 s6 e6 => ?_
      have e1 := s6 _ _ e1
      have tl1 := tl1.go (Same.kt s6)
      have e2 := s6 _ _ e2
      have tl2 := tl2.go (Same.kt s6)
      have eD := s6 _ _ eD
      have eM := s6 _ _ eM
      have hds := DqAll.go (Same.x s6) hds
      have hes := DqAll.go (Same.x s6) hes
      have hq5 := hq5.same s6
      walk_at "mfs"
      refine g_reprS (.lst (seqU e6) (.cons (dq_frl (seqU eD) hds fd) (.cons (dq_frt (tupU eM) hes fe) .nil))) shK (by decide) (by decide) (by decide) ?_
      walk_at "mfs"
      clear e6 s6 n6
      -- poly_of
      refine g_seq ?_
      walk_at "mfs"
      refine ⟨q, D, _, ds, 140, rfl, npD, .inl (seqU eD), hds, okd, by decide, by omega, fun p7 H7 w7 s7 n7 e7 t7 => ?_⟩
      have e1 := s7 _ _ e1
      have tl1 := tl1.go (Same.kt s7)
      have e2 := s7 _ _ e2
      have tl2 := tl2.go (Same.kt s7)
      have eD := s7 _ _ eD
      have eM := s7 _ _ eM
      have hds := DqAll.go (Same.x s7) hds
      have hes := DqAll.go (Same.x s7) hes
      have hq5 := hq5.same s7
      walk_at "mfs"
      refine ⟨q, M, _, es, 140, rfl, npM, .inr (tupU eM), hes, oke, by decide, by omega, fun p8 H8 w8 s8' n8 e8 t8 => ?_⟩
      have e7 := s8' _ _ e7
      have t7 := t7.go (Same.kt s8')
      have e1 := s8' _ _ e1
      have tl1 := tl1.go (Same.kt s8')
      have e2 := s8' _ _ e2
      have tl2 := tl2.go (Same.kt s8')
      have eD := s8' _ _ eD
      have eM := s8' _ _ eM
      have hds := DqAll.go (Same.x s8') hds
      have hes := DqAll.go (Same.x s8') hes
      have hq5 := hq5.same s8'
      rw [evd] at t7
      rw [eve] at t8
      walk_at "mfs"
      refine g_newL (by show 2 ≤ sizeLine; decide) fun p9 H9 n9 s9 e9 => ?_
      have e7 := s9 _ _ e7
      have t7 := t7.go (Same.kt s9)
      have e8 := s9 _ _ e8
      have t8 := t8.go (Same.kt s9)
      have e1 := s9 _ _ e1
      have tl1 := tl1.go (Same.kt s9)
      have e2 := s9 _ _ e2
      have tl2 := tl2.go (Same.kt s9)
      have eD := s9 _ _ eD
      have eM := s9 _ _ eM
      have hds := DqAll.go (Same.x s9) hds
      have hes := DqAll.go (Same.x s9) hes
      have hq5 := hq5.same s9
      have bT1 : RbL 12 (trimR one) := b1.trim
      have bT2 : RbL 12 (trimR oth) := b2.trim
      have lT1 := len_trim_le one
      have lT2 := len_trim_le oth
      have sh2 := sha_lst (sha_two (n := 12) (L1 := 7) (L2 := 5) (by decide) (by decide) bT1 bT2 (by omega) (by omega))
      walk_at "mfs"
      refine g_reprS (.lst (seqU e9) (PL.dp (pl2 e7 t7 e8 t8))) sh2 (by decide) (by decide) (by decide) ?_
      walk_at "mfs"
      refine ⟨p1, v1, one, rfl, seqU e1, tl1, by omega, fun p10 H10 w10 s10 n10 e10 t10 => ?_⟩
      have e1 := s10 _ _ e1
      have tl1 := tl1.go (Same.kt s10)
      have e2 := s10 _ _ e2
      have tl2 := tl2.go (Same.kt s10)
      have eD := s10 _ _ eD
      have eM := s10 _ _ eM
      have hds := DqAll.go (Same.x s10) hds
      have hes := DqAll.go (Same.x s10) hes
      have hq5 := hq5.same s10
      walk_at "mfs"
      refine ⟨p2, v2, oth, rfl, seqU e2, tl2, by omega, fun p11 H11 w11 s11 n11 e11 t11 => ?_⟩
      have e10 := s11 _ _ e10
      have t10 := t10.go (Same.kt s11)
      have e1 := s11 _ _ e1
      have tl1 := tl1.go (Same.kt s11)
      have e2 := s11 _ _ e2
      have tl2 := tl2.go (Same.kt s11)
      have eD := s11 _ _ eD
      have eM := s11 _ _ eM
      have hds := DqAll.go (Same.x s11) hds
      have hes := DqAll.go (Same.x s11) hes
      have hq5 := hq5.same s11
      walk_at "mfs"
      refine g_newL (by show 2 ≤ sizeLine; decide) fun p12 H12 n12 s12 e12 => ?_
      have e10 := s12 _ _ e10
      have t10 := t10.go (Same.kt s12)
      have e11 := s12 _ _ e11
      have t11 := t11.go (Same.kt s12)
      have e1 := s12 _ _ e1
      have tl1 := tl1.go (Same.kt s12)
      have e2 := s12 _ _ e2
      have tl2 := tl2.go (Same.kt s12)
      have eD := s12 _ _ eD
      have eM := s12 _ _ eM
      have hds := DqAll.go (Same.x s12) hds
      have hes := DqAll.go (Same.x s12) hes
      have hq5 := hq5.same s12
      walk_at "mfs"
      refine g_reprS (.lst (seqU e12) (PL.dp (pl2 e10 t10 e11 t11))) sh2 (by decide) (by decide) (by decide) ?_
      walk_at "mfs"
      clear e7 t7 e8 t8 e9 e10 t10 e11 t11 e12 s7 s8' s9 s10 s11 s12 n7 n8 n9 n10 n11 n12
      -- sums
      refine g_seq ?_
      walk_at "mfs"
      have lp := len_padd one oth
      have ltp := len_trim_le (padd one oth)
      have bS : RbL 25 (trimR (padd one oth)) := (rbl_padd b1 b2 (by decide) (by decide)).trim
      have shS := shn_poly (n := 25) (L := 7) (by decide) (by decide) bS (by omega)
      refine ⟨q, D, M, _, _, ds, es, 140, rfl, npD, npM, .inl (seqU eD), .inr (tupU eM), hds, hes, okd, oke, by decide, by decide, by omega, by omega, fun p13 H13 w13 s13 n13 e13 t13 => ?_⟩
      rw [evd, eve] at t13
      have e1 := s13 _ _ e1
      have tl1 := tl1.go (Same.kt s13)
      have e2 := s13 _ _ e2
      have tl2 := tl2.go (Same.kt s13)
      have eD := s13 _ _ eD
      have eM := s13 _ _ eM
      have hds := DqAll.go (Same.x s13) hds
      have hes := DqAll.go (Same.x s13) hes
      have hq5 := hq5.same s13
      walk_at "mfs"
      refine g_reprS (.tup (tupU e13) t13.dp) shS (by decide) (by decide) (by decide) ?_
      walk_at "mfs"
      refine ⟨p1, p2, v1, v2, one, oth, 12, 12, rfl, .inl (seqU e1), .inl (seqU e2), tl1, tl2, b1, b2, by decide, by decide, by decide, by omega, by omega, fun p14 H14 w14 s14 n14 e14 t14 => ?_⟩
      have e1 := s14 _ _ e1
      have tl1 := tl1.go (Same.kt s14)
      have e2 := s14 _ _ e2
      have tl2 := tl2.go (Same.kt s14)
      have eD := s14 _ _ eD
      have eM := s14 _ _ eM
      have hds := DqAll.go (Same.x s14) hds
      have hes := DqAll.go (Same.x s14) hes
      have hq5 := hq5.same s14
      walk_at "mfs"
      refine g_reprS (.tup (tupU e14) t14.dp) shS (by decide) (by decide) (by decide) ?_
      walk_at "mfs"
      refine ⟨q, M, D, _, _, es, ds, 140, rfl, npM, npD, .inr (tupU eM), .inl (seqU eD), hes, hds, oke, okd, by decide, by decide, by omega, by omega, fun p15 H15 w15 s15 n15 e15 t15 => ?_⟩
      rw [evd, eve, show trimR (padd oth one) = trimR (padd one oth) from trim_eq fun j => by rw [co_padd, co_padd, Rat.add_comm]] at t15
      have e1 := s15 _ _ e1
      have tl1 := tl1.go (Same.kt s15)
      have e2 := s15 _ _ e2
      have tl2 := tl2.go (Same.kt s15)
      have eD := s15 _ _ eD
      have eM := s15 _ _ eM
      have hds := DqAll.go (Same.x s15) hds
      have hes := DqAll.go (Same.x s15) hes
      have hq5 := hq5.same s15
      walk_at "mfs"
      refine ⟨q, D, M, _, _, ds, es, 140, rfl, npD, npM, .inl (seqU eD), .inr (tupU eM), hds, hes, okd, oke, by decide, by decide, by omega, by omega, fun p16 H16 w16 s16 n16 e16 t16 => ?_⟩
      rw [evd, eve] at t16
      have e15 := s16 _ _ e15
      have t15 := t15.go (Same.kt s16)
      have e1 := s16 _ _ e1
      have tl1 := tl1.go (Same.kt s16)
      have e2 := s16 _ _ e2
      have tl2 := tl2.go (Same.kt s16)
      have eD := s16 _ _ eD
      have eM := s16 _ _ eM
      have hds := DqAll.go (Same.x s16) hds
      have hes := DqAll.go (Same.x s16) hes
      have hq5 := hq5.same s16
      walk_at "mfs"
      refine g_neSame (.tup (tupU e15) t15.dp) (.tup (tupU e16) t16.dp) shS (by decide) ?_
      walk_at "mfs"
      clear e13 t13 e14 t14 e15 t15 e16 t16 s13 s14 s15 s16 n13 n14 n15 n16 shS bS
      -- products
      refine g_seq ?_
      walk_at "mfs"
      have lm1 : (trimR (ds.map valQ)).length ≤ 7 := by rw [evd]; omega
      have lm2 : (trimR (es.map valQ)).length ≤ 5 := by rw [eve]; omega
      have bm1 : RbL 12 (trimR (ds.map valQ)) := by rw [evd]; exact bT1
      have bm2 : RbL 12 (trimR (es.map valQ)) := by rw [eve]; exact bT2
      have lc := len_conv (trimR one) (trimR oth)
      have ltc := len_trim_le (conv (trimR one) (trimR oth))
      have bC : RbL 126 (trimR (conv (trimR one) (trimR oth))) := ((rbl_conv bT1 bT2 (by decide) (by decide)).mono (by omega)).trim
      have shC := shn_poly (n := 126) (L := 11) (by decide) (by decide) bC (by omega)
      refine ⟨q, D, M, _, _, ds, es, 140, 12, 12, rfl, npD, npM, .inl (seqU eD), .inr (tupU eM), hds, hes, okd, oke, by decide, by omega, by omega, bm1, bm2, by decide, by decide, by omega, by omega, .inr (by omega), fun p17 H17 w17 s17 n17 e17 t17 => ?_⟩
      rw [evd, eve] at t17
      have e1 := s17 _ _ e1
      have tl1 := tl1.go (Same.kt s17)
      have e2 := s17 _ _ e2
      have tl2 := tl2.go (Same.kt s17)
      have eD := s17 _ _ eD
      have eM := s17 _ _ eM
      have hds := DqAll.go (Same.x s17) hds
      have hes := DqAll.go (Same.x s17) hes
      have hq5 := hq5.same s17
      walk_at "mfs"
      refine g_reprS (.tup (tupU e17) t17.dp) shC (by decide) (by decide) (by decide) ?_
      walk_at "mfs"
      refine ⟨p1, v1, one, rfl, seqU e1, tl1, by omega, fun p18 H18 w18 s18 n18 e18 t18 => ?_⟩
      have e1 := s18 _ _ e1
      have tl1 := tl1.go (Same.kt s18)
      have e2 := s18 _ _ e2
      have tl2 := tl2.go (Same.kt s18)
      have eD := s18 _ _ eD
      have eM := s18 _ _ eM
      have hds := DqAll.go (Same.x s18) hds
      have hes := DqAll.go (Same.x s18) hes
      have hq5 := hq5.same s18
      walk_at "mfs"
      refine ⟨p2, v2, oth, rfl, seqU e2, tl2, by omega, fun p19 H19 w19 s19 n19 e19 t19 => ?_⟩
      have e18 := s19 _ _ e18
      have t18 := t18.go (Same.kt s19)
      have e1 := s19 _ _ e1
      have tl1 := tl1.go (Same.kt s19)
      have e2 := s19 _ _ e2
      have tl2 := tl2.go (Same.kt s19)
      have eD := s19 _ _ eD
      have eM := s19 _ _ eM
      have hds := DqAll.go (Same.x s19) hds
      have hes := DqAll.go (Same.x s19) hes
      have hq5 := hq5.same s19
      have lw18 := t18.len
      have lw19 := t19.len
      walk_at "mfs"
      refine ⟨p18, p19, w18, w19, _, _, 12, 12, 126, rfl, .inr (tupU e18), .inr (tupU e19), t18, t19, bT1, bT2, fun i n => (cs_rb bT1 bT2 (by decide) (by decide) i n).mono (by omega), by decide, by decide, by decide, by omega, by omega, fun p20 H20 w20 s20 n20 e20 t20 => ?_⟩
      rw [show trimR (conv (trimR one) (trimR oth)) = trimR (conv (trimR one) (trimR oth)) from rfl] at t20
      have e1 := s20 _ _ e1
      have tl1 := tl1.go (Same.kt s20)
      have e2 := s20 _ _ e2
      have tl2 := tl2.go (Same.kt s20)
      have eD := s20 _ _ eD
      have eM := s20 _ _ eM
      have hds := DqAll.go (Same.x s20) hds
      have hes := DqAll.go (Same.x s20) hes
      have hq5 := hq5.same s20
      walk_at "mfs"
      refine g_reprS (.tup (tupU e20) t20.dp) shC (by decide) (by decide) (by decide) ?_
      walk_at "mfs"
      clear e17 t17 e18 t18 e19 t19 e20 t20 s17 s18 s19 s20 n17 n18 n19 n20
      -- at
      refine g_seq ?_
      walk_at "mfs"
      refine ⟨q, t4, rfl, hq5, by omega, fun t21 H21 pa r sx21 hq21 l21 u21 n21 ea ba => ?_⟩
      have npa := hq5.ne n21
      have kx := sx21.kt hq5
      have e1 := sx21 _ _ np1 e1
      have tl1 := tl1.go kx
      have e2 := sx21 _ _ np2 e2
      have tl2 := tl2.go kx
      have eD := sx21 _ _ npD eD
      have eM := sx21 _ _ npM eM
      have hds := DqAll.go sx21 hds
      have hes := DqAll.go sx21 hes
      clear kx
      have hq5 := hq21
      clear sx21 n21 hq21
      walk_at "mfs"
      -- values
      have bV1 : Rb 700 (val one r) := (Rb.ev (B := 12) (A := 12) (b1.co (by decide)) ba one.length one.length (Nat.le_refl _)).mono (by
        have h : one.length * (12 + 2 + one.length * 12) ≤ 7 * (12 + 2 + 7 * 12) := Nat.mul_le_mul (by omega) (by omega)
        omega)
      have bV2 : Rb 700 (val oth r) := (Rb.ev (B := 12) (A := 12) (b2.co (by decide)) ba oth.length oth.length (Nat.le_refl _)).mono (by
        have h : oth.length * (12 + 2 + oth.length * 12) ≤ 5 * (12 + 2 + 5 * 12) := Nat.mul_le_mul (by omega) (by omega)
        omega)
      refine g_seq ?_
      walk_at "mfs"
      obtain ⟨c21, hc21⟩ : ∃ acc, H21 q = some (.lst acc) := by
        obtain ⟨_, _, _, e, _⟩ := id hq5
        exact ⟨_, e⟩
      refine ⟨q, pa, t21, r, rfl, hq5, by omega, ea, ba.mono (by decide), fun t22 H22 v22 x22 y22 sx22 hq22 l22 u22 hz22 hy22 er22 bx22 by22 => ?_⟩
      have ea := sx22 _ _ npa ea
      have kx := sx22.kt hq5
      have e1 := sx22 _ _ np1 e1
      have tl1 := tl1.go kx
      have e2 := sx22 _ _ np2 e2
      have tl2 := tl2.go kx
      have eD := sx22 _ _ npD eD
      have eM := sx22 _ _ npM eM
      have hds := DqAll.go sx22 hds
      have hes := DqAll.go sx22 hes
      clear kx
      have hq5 := hq22
      obtain ⟨c22, hc22⟩ : ∃ acc, H22 q = some (.lst acc) := by
        obtain ⟨_, _, _, e, _⟩ := id hq5
        exact ⟨_, e⟩
      obtain ⟨d22, hd22, hf22, ex22, ey22⟩ := hz22.dq (K := K) (q := q) (n := 140) ⟨_, hc21⟩ hy22 bx22 by22
      have F22 : Fr q K H22 v22 r 140 := ⟨d22, hd22, hf22, by unfold valQ; rw [ex22, ey22]; exact er22, by rw [ex22]; exact bx22, by rw [ey22]; exact by22, by rw [ey22]; exact hy22⟩
      walk_at "mfs"
      refine ⟨q, D, v22, _, ds, r, 140, 140, 12, rfl, npD, .inl (seqU eD), hds, okd, by decide, by omega, F22, bm1, by decide, by omega, ⟨_, hc22⟩, fun p23 H23 s23 n23 e23 => ?_⟩
      rw [evd] at e23
      have ea := s23 _ _ ea
      have e1 := s23 _ _ e1
      have tl1 := tl1.go (Same.kt s23)
      have e2 := s23 _ _ e2
      have tl2 := tl2.go (Same.kt s23)
      have eD := s23 _ _ eD
      have eM := s23 _ _ eM
      have hds := DqAll.go (Same.x s23) hds
      have hes := DqAll.go (Same.x s23) hes
      have hq5 := hq5.same s23
      walk_at "mfs"
      refine g_reprS (rv_dp e23) (shn_rd bV1 (by decide) (by decide)) (by decide) (by decide) (by decide) ?_
      walk_at "mfs"
      have cV1 : ∀ i, i ≤ one.length → Rb 700 (evs (co one) r i) := fun i hi => (Rb.ev (B := 12) (A := 12) (b1.co (by decide)) ba 7 i (by omega)).mono (by
        have h : i * (12 + 2 + 7 * 12) ≤ 7 * (12 + 2 + 7 * 12) := Nat.mul_le_mul_right _ (by omega)
        omega)
      have cV2 : ∀ i, i ≤ oth.length → Rb 700 (evs (co oth) r i) := fun i hi => (Rb.ev (B := 12) (A := 12) (b2.co (by decide)) ba 7 i (by omega)).mono (by
        have h : i * (12 + 2 + 7 * 12) ≤ 7 * (12 + 2 + 7 * 12) := Nat.mul_le_mul_right _ (by omega)
        omega)
      refine ⟨p1, pa, v1, one, r, 12, 12, 700, rfl, .inl (seqU e1), tl1, ea, ba, b1, by decide, cV1, by omega, by omega, fun p24 H24 s24 n24 e24 => ?_⟩
      have ea := s24 _ _ ea
      have e1 := s24 _ _ e1
      have tl1 := tl1.go (Same.kt s24)
      have e2 := s24 _ _ e2
      have tl2 := tl2.go (Same.kt s24)
      have eD := s24 _ _ eD
      have eM := s24 _ _ eM
      have hds := DqAll.go (Same.x s24) hds
      have hes := DqAll.go (Same.x s24) hes
      have hq5 := hq5.same s24
      walk_at "mfs"
      refine g_reprS (rv_dp e24) (shn_rd bV1 (by decide) (by decide)) (by decide) (by decide) (by decide) ?_
      walk_at "mfs"
      refine g_newL (by show 2 ≤ sizeLine; decide) fun p25 H25 n25 s25 e25 => ?_
      have ea := s25 _ _ ea
      have e1 := s25 _ _ e1
      have tl1 := tl1.go (Same.kt s25)
      have e2 := s25 _ _ e2
      have tl2 := tl2.go (Same.kt s25)
      have eD := s25 _ _ eD
      have eM := s25 _ _ eM
      have hds := DqAll.go (Same.x s25) hds
      have hes := DqAll.go (Same.x s25) hes
      have hq5 := hq5.same s25
      walk_at "mfs"
      refine g_reprS (.lst (seqU e25) (.cons (dq_frl (seqU eD) hds fd) (.cons (dq_frt (tupU eM) hes fe) .nil))) shK (by decide) (by decide) (by decide) ?_
      walk_at "mfs"
      clear sx22 hq22 F22 hd22 hz22 e23 s23 n23 e24 s24 n24 e25 s25 n25 hc22
      -- the value of the product
      refine ⟨q, D, M, _, _, ds, es, 140, 12, 12, rfl, npD, npM, .inl (seqU eD), .inr (tupU eM), hds, hes, okd, oke, by decide, by omega, by omega, bm1, bm2, by decide, by decide, by omega, by omega, .inr (by omega), fun p26 H26 w26 s26 n26 e26 t26 => ?_⟩
      rw [evd, eve] at t26
      have ea := s26 _ _ ea
      have e1 := s26 _ _ e1
      have tl1 := tl1.go (Same.kt s26)
      have e2 := s26 _ _ e2
      have tl2 := tl2.go (Same.kt s26)
      have eD := s26 _ _ eD
      have eM := s26 _ _ eM
      have hds := DqAll.go (Same.x s26) hds
      have hes := DqAll.go (Same.x s26) hes
      have hq5 := hq5.same s26
      walk_at "mfs"
      obtain ⟨c26, hc26⟩ : ∃ acc, H26 q = some (.lst acc) := by
        obtain ⟨_, _, _, e, _⟩ := id hq5
        exact ⟨_, e⟩
      have trC := (tr_trim (conv (trimR one) (trimR oth))).trim
      refine ⟨q, p26, .ref pa, w26, _, r, 126, 12, 126, rfl, ne_tl hc26 e26, .inr (tupU e26), TL.data hc26 t26, rds_ok bC, by decide, by rw [List.length_map]; omega, Fr.tup (tupU ea) npa ba, by rw [rds_val, trC]; exact bC, by decide, by rw [rds_val, trC]; omega, ⟨_, hc26⟩, fun p27 H27 s27 n27 e27 => ?_⟩
      rw [rds_val, val_trim, val_conv, val_trim, val_trim] at e27
      have ea := s27 _ _ ea
      have e1 := s27 _ _ e1
      have tl1 := tl1.go (Same.kt s27)
      have e2 := s27 _ _ e2
      have tl2 := tl2.go (Same.kt s27)
      have eD := s27 _ _ eD
      have eM := s27 _ _ eM
      have hds := DqAll.go (Same.x s27) hds
      have hes := DqAll.go (Same.x s27) hes
      have hq5 := hq5.same s27
      walk_at "mfs"
      refine ⟨p1, pa, v1, one, r, 12, 12, 700, rfl, .inl (seqU e1), tl1, ea, ba, b1, by decide, cV1, by omega, by omega, fun p28 H28 s28 n28 e28 => ?_⟩
      have ea := s28 _ _ ea
      have e27 := s28 _ _ e27
      have e1 := s28 _ _ e1
      have tl1 := tl1.go (Same.kt s28)
      have e2 := s28 _ _ e2
      have tl2 := tl2.go (Same.kt s28)
      have eD := s28 _ _ eD
      have eM := s28 _ _ eM
      have hds := DqAll.go (Same.x s28) hds
      have hes := DqAll.go (Same.x s28) hes
      have hq5 := hq5.same s28
      walk_at "mfs"
      refine ⟨p2, pa, v2, oth, r, 12, 12, 700, rfl, .inl (seqU e2), tl2, ea, ba, b2, by decide, cV2, by omega, by omega, fun p29 H29 s29 n29 e29 => ?_⟩
      have e27 := s29 _ _ e27
      have e28 := s29 _ _ e28
      have e1 := s29 _ _ e1
      have tl1 := tl1.go (Same.kt s29)
      have e2 := s29 _ _ e2
      have tl2 := tl2.go (Same.kt s29)
      have eD := s29 _ _ eD
      have eM := s29 _ _ eM
      have hds := DqAll.go (Same.x s29) hds
      have hes := DqAll.go (Same.x s29) hes
      have hq5 := hq5.same s29
      walk_at "mfs"
      refine ⟨p28, p29, _, _, 700, 700, rfl, e28, e29, bV1, bV2, by decide, fun p30 H30 s30 n30 e30 => ?_⟩
      have e27 := s30 _ _ e27
      have e1 := s30 _ _ e1
      have tl1 := tl1.go (Same.kt s30)
      have e2 := s30 _ _ e2
      have tl2 := tl2.go (Same.kt s30)
      have eD := s30 _ _ eD
      have eM := s30 _ _ eM
      have hds := DqAll.go (Same.x s30) hds
      have hes := DqAll.go (Same.x s30) hes
      have hq5 := hq5.same s30
      walk_at "mfs"
      refine g_neSame (rv_dp e27) (rv_dp e30) (shn_rd (bV1.mul bV2) (by decide) (by decide)) (by decide) ?_
      walk_at "mfs"
      exact ⟨⟨_, _, _, _, _, _, _, rfl⟩, t22, hq5, by omega⟩
    · obtain ⟨⟨s2, s3, s4, s5, s6, s7, s8, rfl⟩, t, hq, ht⟩ := hP
      have ht : t ≤ 1200 := by
        have := ht
        omega
      walk_at "mfs"
      refine ⟨q, t, 12, rfl, hq, by omega, by decide, by decide, fun t1 H1 x sx1 hq1 l1 u1 x0 x1 => ?_⟩
      walk_at "mfs"
      cases hx : decide (x = 5) with
      | false =>
        walk_at "mfs"
        exact k _
      | true =>
        walk_at "mfs"
        exact ⟨q, t1, rfl, hq1, by omega, fun H' => k H'⟩
end Mf
namespace Mf
open PySem PySem.Spec PyProof.Rows L2
local macro_rules | `(tactic| walk_at "mf1") => `(tactic| first
  | ((with_reducible apply g_var); exact rfl)
  | with_reducible first
    | refine g_c ?_ | refine g_op ?_ | refine g_un ?_ | refine g_cb ?_ | refine g_cl ?_ | refine g_clk ?_ | refine g_nil ?_ | refine g_cons ?_
    | refine g_tB ?_ | refine g_test ?_ | refine g_bl ?_ | refine g_and ?_ | refine g_or ?_ | refine g_not ?_ | refine g_andV ?_ | refine g_orV ?_ | refine g_notV ?_
    | refine g_if ?_ | refine g_ifS ?_ | refine g_seq ?_ | refine g_next ?_ | refine g_ret ?_ | refine g_drop ?_ | refine g_asg ?_ | refine g_name ?_ | refine g_sub ?_
    | refine g_int ?_ | refine g_intB ?_ | refine g_abs ?_ | refine g_I0 ?_ | refine g_addI ?_ | refine g_U ?_ | refine g_isNn ?_ | refine g_isNi ?_ | refine g_notN ?_ | refine g_notT1 ?_ | refine g_notT2 ?_ | refine g_notT3 ?_ | refine g_notT4 ?_ | refine g_notTb ?_ | refine g_notTi ?_ | refine g_eqI ?_ | refine g_neI ?_ | refine g_neSs ?_ | refine g_neS ?_ | refine g_eqS ?_
    | refine g_iteT ?_ | refine g_iteF ?_ | refine g_iteNT ?_ | refine g_iteNF ?_ | refine g_lst ?_ | refine g_tup ?_ | refine g_seqP ?_ | refine g_sl ?_ | refine g_noPart ?_ | refine g_part ?_ | refine g_yes ?_ | refine g_thenT ?_ | refine g_consG ?_ | refine g_nilG ?_ | refine g_ii ?_ | refine g_par ?_ | refine g_par3 ?_ | refine g_vv ?_ | refine g_vvv ?_ | refine g_reprB ?_ | refine g_lcL ?_ | refine g_lcR ?_
  | ((with_reducible refine g_mod ?_ ?_); (first | omega | decide))
  | ((with_reducible refine g_div ?_ ?_ ?_); (first | omega | decide); (first | assumption | decide))
  | ((with_reducible refine g_mulL ?_ ?_ ?_); (first | omega | decide); (first | omega | decide))
  | ((with_reducible refine g_mulR ?_ ?_ ?_); (first | omega | decide); (first | omega | decide))
  | ((with_reducible refine g_pow ?_ ?_ ?_ ?_); decide; decide; (first | omega | decide))
  | dsimp only)
local macro_rules | `(tactic| walk_at "mf1s") => `(tactic| first
  | ((with_reducible apply g_var); exact rfl)
  | with_reducible first
    | refine g_c ?_ | refine g_op ?_ | refine g_un ?_ | refine g_cb ?_ | refine g_cl ?_ | refine g_clk ?_ | refine g_nil ?_ | refine g_cons ?_
    | refine g_tB ?_ | refine g_test ?_ | refine g_bl ?_ | refine g_and ?_ | refine g_or ?_ | refine g_not ?_ | refine g_andV ?_ | refine g_orV ?_ | refine g_notV ?_
    | refine g_if ?_ | refine g_ifS ?_ | refine g_next ?_ | refine g_ret ?_ | refine g_drop ?_ | refine g_asg ?_ | refine g_name ?_ | refine g_sub ?_
    | refine g_int ?_ | refine g_intB ?_ | refine g_abs ?_ | refine g_I0 ?_ | refine g_addI ?_ | refine g_U ?_ | refine g_isNn ?_ | refine g_isNi ?_ | refine g_notN ?_ | refine g_notT1 ?_ | refine g_notT2 ?_ | refine g_notT3 ?_ | refine g_notT4 ?_ | refine g_notTb ?_ | refine g_notTi ?_ | refine g_eqI ?_ | refine g_neI ?_ | refine g_neSs ?_ | refine g_neS ?_ | refine g_eqS ?_
    | refine g_iteT ?_ | refine g_iteF ?_ | refine g_iteNT ?_ | refine g_iteNF ?_ | refine g_lst ?_ | refine g_tup ?_ | refine g_seqP ?_ | refine g_sl ?_ | refine g_noPart ?_ | refine g_part ?_ | refine g_yes ?_ | refine g_thenT ?_ | refine g_consG ?_ | refine g_nilG ?_ | refine g_ii ?_ | refine g_par ?_ | refine g_par3 ?_ | refine g_vv ?_ | refine g_vvv ?_ | refine g_reprB ?_ | refine g_lcL ?_ | refine g_lcR ?_
  | ((with_reducible refine g_mod ?_ ?_); (first | omega | decide))
  | ((with_reducible refine g_div ?_ ?_ ?_); (first | omega | decide); (first | assumption | decide))
  | ((with_reducible refine g_mulL ?_ ?_ ?_); (first | omega | decide); (first | omega | decide))
  | ((with_reducible refine g_mulR ?_ ?_ ?_); (first | omega | decide); (first | omega | decide))
  | ((with_reducible refine g_pow ?_ ?_ ?_ ?_); decide; decide; (first | omega | decide))
  | dsimp only)
local macro_rules | `(tactic| walk_at "mfs") => `(tactic| repeat walk_at "mf1s")
local macro_rules | `(tactic| walk_at "mf") => `(tactic| repeat walk_at "mf1")
local macro_rules | `(tactic| walk_at "ed") => `(tactic| repeat (first
  | with_reducible first
    | exact eds_nil | apply eds_cons | exact ed_int | exact ed_bl | exact ed_non | apply ed_neg
  | ((with_reducible apply ed_str); decide)
  | ((with_reducible apply ed_var); (exact rfl); (first | assumption | exact Dq.int _))
  | ((with_reducible apply ed_dict0); assumption)
  | ((with_reducible apply ed_dict2); assumption)
  | ((with_reducible apply ed_tup); assumption)
  | ((with_reducible apply ed_lst); assumption)
  | (with_reducible apply ed_pow)
  | (with_reducible apply ed_mul)
  | assumption
  | (exact Dq.int _)
  | (exact ⟨by decide, by decide, by decide⟩)
  | (show List.length _ ≤ 1000; simp only [List.length_cons, List.length_nil]; decide)))
theorem ed_mk {P : Program} {w : World} {K : PySem.W.Frag} {h b : Heap} {mg : Str → Option Value} {x qn : Str} {st : Stmt} {fs : List Str} {C F f : Addr} {nm q : Str} {N : Addr} {bs : List Value} {sn : List Str} {sub : List Value} {ab : Bool} {col : Option Bool} {dd : Option Addr} {k0 k1 k2 k3 k5 : Option Value} {od an : Option Addr} {sl : Array (Option Value)} {oc kV dc pm cd ct : Value} (X : K.In h) (G : h.Ns mainGlobals mg)
    (a : PySem.W.nsIn K mainGlobals x = some (some (.ref C))) (lc : K.lookup C = some (excClassObj nm q C N bs (.ref F :: veT) true sn sub ab col dd k0 k1 k2 k3 k5 "ValueError.__new__"))
    (sa : PySem.W.findIn K (.ref C) "__setattr__" = some (some (.builtin "object.__setattr__"))) (ga : PySem.W.findIn K (.ref C) "__getattribute__" = some (some (.builtin "BaseException.__getattribute__"))) (gg : PySem.W.findIn K (.ref C) "__getattr__" = some none) (ha : PySem.W.findIn K (.ref C) "__class__" = some (some (.builtin "object.__class__")))
    (hn : PySem.W.specialIn K (.builtin "object.__class__") "__get__" = some (some (.builtin "getset_descriptor.__get__"))) (ht : PySem.W.takesIn K (.builtin "object.__class__") = some true) (kc : PySem.W.keepIn K (.ref C) = true) (no : ∀ f ∈ fs, PySem.W.findIn K (.ref C) f = some none)
    (i : PySem.W.findIn K (.ref C) "__init__" = some (some (.ref f))) (t : PySem.W.typeIn K (.ref f) = some (.type "function"))
    (l : K.lookup f = some ⟨oc, od, .func (PySem.W.fnOf "__init__" qn (defArgs st) (defBody st) (defScope st) .none kV dc pm an cd ct), sl⟩) (c : PySem.W.codeIn K cd qn = true) (k : PySem.W.keepIn K (.ref f) = true) : Ed ⟨P, w, K, mg, b⟩ x qn st C (.ref F :: veT) fs :=
  { mg := PySem.W.mg_of X G a, cl := ⟨nm, q, N, bs, sn, sub, ab, col, dd, k0, k1, k2, k3, k5, lc⟩, ve := rfl, ob := by rw [List.contains_cons]; exact (Bool.or_eq_true _ _).mpr (.inr rfl), be := by rw [List.contains_cons]; exact (Bool.or_eq_true _ _).mpr (.inr rfl), sa := sa, kC := kc, hg := ga, hk := gg, ha := ha, hn := hn, ht := ht, no := no, ex := ⟨f, _, i, t, fun_mk l c k⟩ }
theorem no1 {K : PySem.W.Frag} {C : Addr} {f : Str} (h : PySem.W.findIn K (.ref C) f = some none) : ∀ g ∈ [f], PySem.W.findIn K (.ref C) g = some none := fun g hg => by
  cases hg with
  | head => exact h
  | tail _ z => cases z
theorem no2 {K : PySem.W.Frag} {C : Addr} {f e : Str} (h : PySem.W.findIn K (.ref C) f = some none) (h2 : PySem.W.findIn K (.ref C) e = some none) : ∀ g ∈ [f, e], PySem.W.findIn K (.ref C) g = some none := fun g hg => by
  cases hg with
  | head => exact h
  | tail _ z => exact no1 h2 g z
theorem de_mk {P : Program} {w : World} {K : PySem.W.Frag} {h b : Heap} {mg : Str → Option Value} {x : Str} {st : Stmt} {f : Addr} {od an : Option Addr} {sl : Array (Option Value)} {oc kV dc pm cd ct : Value} (X : K.In h) (G : h.Ns mainGlobals mg)
    (a : PySem.W.nsIn K mainGlobals x = some (some (.ref f))) (l : K.lookup f = some ⟨oc, od, .func (PySem.W.fnOf x x (defArgs st) (defBody st) (defScope st) .none kV dc pm an cd ct), sl⟩)
    (c : PySem.W.codeIn K cd x = true) (k : PySem.W.keepIn K (.ref f) = true) : De ⟨P, w, K, mg, b⟩ x st := ⟨f, _, PySem.W.mg_of X G a, fun_mk l c k⟩
theorem end_mk {P : Program} {w : World} {K : PySem.W.Frag} {h : Heap} {mg : Str → Option Value} {fa : Addr} (hmg : mg "law" = some (.ref fa)) (T : ∀ base : Heap, Tx ⟨P, w, K, mg, base⟩) :
    ∃ fd : FuncData, (∀ (s : Shared) (u : Value), BindsTo s fd ⟨[u], []⟩ [("script", u)]) ∧ ∀ base : Heap, K.In base → base.Ns mainGlobals mg → FnG P w K mg base CX0 9 fa fd ["script"] (sp_law K) := by
  obtain ⟨f, fd, hm, F⟩ := (T h).d_law.ex
  have e : f = fa := by
    have e := hm.symm.trans hmg
    cases e
    rfl
  subst e
  refine ⟨fd, fun s u => ?_, fun base _ _ => ?_⟩
  · obtain ⟨oc, od, kV, doc, pm, an, cdv, ct, osl, rfl, lk, hcd⟩ := F.ex
    exact .of_eq (pl_law kV doc pm an cdv ct [u] rfl)
  · obtain ⟨f2, fd2, F2, hm2, W2⟩ := (ok_law ⟨P, w, K, mg, base⟩ (T base)).ex
    have e2 : f2 = f := by
      have e := hm2.symm.trans hm
      cases e
      rfl
    subst e2
    obtain ⟨oc, od, kV, doc, pm, an, cdv, ct, osl, rfl, lk, hcd⟩ := F.ex
    obtain ⟨oc', od', kV', doc', pm', an', cdv', ct', osl', rfl, lk', hcd'⟩ := W2.ex
    rw [lk] at lk'
    cases lk'
    exact F2
theorem all_mk {P : Program} {w : World} {K : PySem.W.Frag} {h : Heap} {mg : Str → Option Value} {fa : Addr} (X : K.In h) (G : h.Ns mainGlobals mg) (hmg : mg "law" = some (.ref fa))
    {f0 f1 f2 f3 f4 f5 f6 f7 f8 f9 f10 f11 f12 f13 f14 f15 f16 f17 f18 f19 f20 f21 f22 f23 f24 f25 f26 f27 f28 f29 f30 f31 f32 f33 : Addr} {od0 an0 od1 an1 od2 an2 od3 an3 od4 an4 od5 an5 od6 an6 od7 an7 od8 an8 od9 an9 od10 an10 od11 an11 od12 an12 od13 an13 od14 an14 od15 an15 od16 an16 od17 an17 od18 an18 od19 an19 od20 an20 od21 an21 od22 an22 od23 an23 od24 an24 od25 an25 od26 an26 od27 an27 od28 an28 od29 an29 od30 an30 od31 an31 od32 an32 od33 an33 : Option Addr} {sl0 sl1 sl2 sl3 sl4 sl5 sl6 sl7 sl8 sl9 sl10 sl11 sl12 sl13 sl14 sl15 sl16 sl17 sl18 sl19 sl20 sl21 sl22 sl23 sl24 sl25 sl26 sl27 sl28 sl29 sl30 sl31 sl32 sl33 : Array (Option Value)} {oc0 kV0 dc0 pm0 cd0 ct0 oc1 kV1 dc1 pm1 cd1 ct1 oc2 kV2 dc2 pm2 cd2 ct2 oc3 kV3 dc3 pm3 cd3 ct3 oc4 kV4 dc4 pm4 cd4 ct4 oc5 kV5 dc5 pm5 cd5 ct5 oc6 kV6 dc6 pm6 cd6 ct6 oc7 kV7 dc7 pm7 cd7 ct7 oc8 kV8 dc8 pm8 cd8 ct8 oc9 kV9 dc9 pm9 cd9 ct9 oc10 kV10 dc10 pm10 cd10 ct10 oc11 kV11 dc11 pm11 cd11 ct11 oc12 kV12 dc12 pm12 cd12 ct12 oc13 kV13 dc13 pm13 cd13 ct13 oc14 kV14 dc14 pm14 cd14 ct14 oc15 kV15 dc15 pm15 cd15 ct15 oc16 kV16 dc16 pm16 cd16 ct16 oc17 kV17 dc17 pm17 cd17 ct17 oc18 kV18 dc18 pm18 cd18 ct18 oc19 kV19 dc19 pm19 cd19 ct19 oc20 kV20 dc20 pm20 cd20 ct20 oc21 kV21 dc21 pm21 cd21 ct21 oc22 kV22 dc22 pm22 cd22 ct22 oc23 kV23 dc23 pm23 cd23 ct23 oc24 kV24 dc24 pm24 cd24 ct24 oc25 kV25 dc25 pm25 cd25 ct25 oc26 kV26 dc26 pm26 cd26 ct26 oc27 kV27 dc27 pm27 cd27 ct27 oc28 kV28 dc28 pm28 cd28 ct28 oc29 kV29 dc29 pm29 cd29 ct29 oc30 kV30 dc30 pm30 cd30 ct30 oc31 kV31 dc31 pm31 cd31 ct31 oc32 kV32 dc32 pm32 cd32 ct32 oc33 kV33 dc33 pm33 cd33 ct33 : Value}
    {fi0 cc0 cc1 : Addr} {nm0 qq0 : Str} {NN0 : Addr} {bs0 : List Value} {sn0 : List Str} {sb0 : List Value} {ab0 : Bool} {cl0 : Option Bool} {dD0 : Option Addr} {ka0 kb0 kc0 kd0 ke0 : Option Value} {oD0 aN0 : Option Addr} {sL0 : Array (Option Value)} {oC0 kV0x dC0 pM0 cD0 cT0 : Value} {nm1 qq1 : Str} {NN1 : Addr} {bs1 : List Value} {sn1 : List Str} {sb1 : List Value} {ab1 : Bool} {cl1 : Option Bool} {dD1 : Option Addr} {ka1 kb1 kc1 kd1 ke1 : Option Value} 
    (a0 : PySem.W.nsIn K mainGlobals "is_integer" = some (some (.ref f0))) (l0 : K.lookup f0 = some ⟨oc0, od0, .func (PySem.W.fnOf "is_integer" "is_integer" (defArgs s_is_integer) (defBody s_is_integer) (defScope s_is_integer) .none kV0 dc0 pm0 an0 cd0 ct0), sl0⟩) (c0 : PySem.W.codeIn K cd0 "is_integer" = true) (k0 : PySem.W.keepIn K (.ref f0) = true)
    (a1 : PySem.W.nsIn K mainGlobals "is_within" = some (some (.ref f1))) (l1 : K.lookup f1 = some ⟨oc1, od1, .func (PySem.W.fnOf "is_within" "is_within" (defArgs s_is_within) (defBody s_is_within) (defScope s_is_within) .none kV1 dc1 pm1 an1 cd1 ct1), sl1⟩) (c1 : PySem.W.codeIn K cd1 "is_within" = true) (k1 : PySem.W.keepIn K (.ref f1) = true)
    (a2 : PySem.W.nsIn K mainGlobals "is_list" = some (some (.ref f2))) (l2 : K.lookup f2 = some ⟨oc2, od2, .func (PySem.W.fnOf "is_list" "is_list" (defArgs s_is_list) (defBody s_is_list) (defScope s_is_list) .none kV2 dc2 pm2 an2 cd2 ct2), sl2⟩) (c2 : PySem.W.codeIn K cd2 "is_list" = true) (k2 : PySem.W.keepIn K (.ref f2) = true)
    (a3 : PySem.W.nsIn K mainGlobals "is_fraction" = some (some (.ref f3))) (l3 : K.lookup f3 = some ⟨oc3, od3, .func (PySem.W.fnOf "is_fraction" "is_fraction" (defArgs s_is_fraction) (defBody s_is_fraction) (defScope s_is_fraction) .none kV3 dc3 pm3 an3 cd3 ct3), sl3⟩) (c3 : PySem.W.codeIn K cd3 "is_fraction" = true) (k3 : PySem.W.keepIn K (.ref f3) = true)
    (a4 : PySem.W.nsIn K mainGlobals "reduced" = some (some (.ref f4))) (l4 : K.lookup f4 = some ⟨oc4, od4, .func (PySem.W.fnOf "reduced" "reduced" (defArgs s_reduced) (defBody s_reduced) (defScope s_reduced) .none kV4 dc4 pm4 an4 cd4 ct4), sl4⟩) (c4 : PySem.W.codeIn K cd4 "reduced" = true) (k4 : PySem.W.keepIn K (.ref f4) = true)
    (a5 : PySem.W.nsIn K mainGlobals "read_fraction" = some (some (.ref f5))) (l5 : K.lookup f5 = some ⟨oc5, od5, .func (PySem.W.fnOf "read_fraction" "read_fraction" (defArgs s_read_fraction) (defBody s_read_fraction) (defScope s_read_fraction) .none kV5 dc5 pm5 an5 cd5 ct5), sl5⟩) (c5 : PySem.W.codeIn K cd5 "read_fraction" = true) (k5 : PySem.W.keepIn K (.ref f5) = true)
    (a6 : PySem.W.nsIn K mainGlobals "over_one_down" = some (some (.ref f6))) (l6 : K.lookup f6 = some ⟨oc6, od6, .func (PySem.W.fnOf "over_one_down" "over_one_down" (defArgs s_over_one_down) (defBody s_over_one_down) (defScope s_over_one_down) .none kV6 dc6 pm6 an6 cd6 ct6), sl6⟩) (c6 : PySem.W.codeIn K cd6 "over_one_down" = true) (k6 : PySem.W.keepIn K (.ref f6) = true)
    (a7 : PySem.W.nsIn K mainGlobals "fraction_of" = some (some (.ref f7))) (l7 : K.lookup f7 = some ⟨oc7, od7, .func (PySem.W.fnOf "fraction_of" "fraction_of" (defArgs s_fraction_of) (defBody s_fraction_of) (defScope s_fraction_of) .none kV7 dc7 pm7 an7 cd7 ct7), sl7⟩) (c7 : PySem.W.codeIn K cd7 "fraction_of" = true) (k7 : PySem.W.keepIn K (.ref f7) = true)
    (a8 : PySem.W.nsIn K mainGlobals "added" = some (some (.ref f8))) (l8 : K.lookup f8 = some ⟨oc8, od8, .func (PySem.W.fnOf "added" "added" (defArgs s_added) (defBody s_added) (defScope s_added) .none kV8 dc8 pm8 an8 cd8 ct8), sl8⟩) (c8 : PySem.W.codeIn K cd8 "added" = true) (k8 : PySem.W.keepIn K (.ref f8) = true)
    (a9 : PySem.W.nsIn K mainGlobals "multiplied" = some (some (.ref f9))) (l9 : K.lookup f9 = some ⟨oc9, od9, .func (PySem.W.fnOf "multiplied" "multiplied" (defArgs s_multiplied) (defBody s_multiplied) (defScope s_multiplied) .none kV9 dc9 pm9 an9 cd9 ct9), sl9⟩) (c9 : PySem.W.codeIn K cd9 "multiplied" = true) (k9 : PySem.W.keepIn K (.ref f9) = true)
    (a10 : PySem.W.nsIn K mainGlobals "times_whole" = some (some (.ref f10))) (l10 : K.lookup f10 = some ⟨oc10, od10, .func (PySem.W.fnOf "times_whole" "times_whole" (defArgs s_times_whole) (defBody s_times_whole) (defScope s_times_whole) .none kV10 dc10 pm10 an10 cd10 ct10), sl10⟩) (c10 : PySem.W.codeIn K cd10 "times_whole" = true) (k10 : PySem.W.keepIn K (.ref f10) = true)
    (a11 : PySem.W.nsIn K mainGlobals "trimmed" = some (some (.ref f11))) (l11 : K.lookup f11 = some ⟨oc11, od11, .func (PySem.W.fnOf "trimmed" "trimmed" (defArgs s_trimmed) (defBody s_trimmed) (defScope s_trimmed) .none kV11 dc11 pm11 an11 cd11 ct11), sl11⟩) (c11 : PySem.W.codeIn K cd11 "trimmed" = true) (k11 : PySem.W.keepIn K (.ref f11) = true)
    (a12 : PySem.W.nsIn K mainGlobals "is_poly" = some (some (.ref f12))) (l12 : K.lookup f12 = some ⟨oc12, od12, .func (PySem.W.fnOf "is_poly" "is_poly" (defArgs s_is_poly) (defBody s_is_poly) (defScope s_is_poly) .none kV12 dc12 pm12 an12 cd12 ct12), sl12⟩) (c12 : PySem.W.codeIn K cd12 "is_poly" = true) (k12 : PySem.W.keepIn K (.ref f12) = true)
    (a13 : PySem.W.nsIn K mainGlobals "read_poly" = some (some (.ref f13))) (l13 : K.lookup f13 = some ⟨oc13, od13, .func (PySem.W.fnOf "read_poly" "read_poly" (defArgs s_read_poly) (defBody s_read_poly) (defScope s_read_poly) .none kV13 dc13 pm13 an13 cd13 ct13), sl13⟩) (c13 : PySem.W.codeIn K cd13 "read_poly" = true) (k13 : PySem.W.keepIn K (.ref f13) = true)
    (a14 : PySem.W.nsIn K mainGlobals "poly_of" = some (some (.ref f14))) (l14 : K.lookup f14 = some ⟨oc14, od14, .func (PySem.W.fnOf "poly_of" "poly_of" (defArgs s_poly_of) (defBody s_poly_of) (defScope s_poly_of) .none kV14 dc14 pm14 an14 cd14 ct14), sl14⟩) (c14 : PySem.W.codeIn K cd14 "poly_of" = true) (k14 : PySem.W.keepIn K (.ref f14) = true)
    (a15 : PySem.W.nsIn K mainGlobals "value_at" = some (some (.ref f15))) (l15 : K.lookup f15 = some ⟨oc15, od15, .func (PySem.W.fnOf "value_at" "value_at" (defArgs s_value_at) (defBody s_value_at) (defScope s_value_at) .none kV15 dc15 pm15 an15 cd15 ct15), sl15⟩) (c15 : PySem.W.codeIn K cd15 "value_at" = true) (k15 : PySem.W.keepIn K (.ref f15) = true)
    (a16 : PySem.W.nsIn K mainGlobals "poly_sum" = some (some (.ref f16))) (l16 : K.lookup f16 = some ⟨oc16, od16, .func (PySem.W.fnOf "poly_sum" "poly_sum" (defArgs s_poly_sum) (defBody s_poly_sum) (defScope s_poly_sum) .none kV16 dc16 pm16 an16 cd16 ct16), sl16⟩) (c16 : PySem.W.codeIn K cd16 "poly_sum" = true) (k16 : PySem.W.keepIn K (.ref f16) = true)
    (a17 : PySem.W.nsIn K mainGlobals "poly_times" = some (some (.ref f17))) (l17 : K.lookup f17 = some ⟨oc17, od17, .func (PySem.W.fnOf "poly_times" "poly_times" (defArgs s_poly_times) (defBody s_poly_times) (defScope s_poly_times) .none kV17 dc17 pm17 an17 cd17 ct17), sl17⟩) (c17 : PySem.W.codeIn K cd17 "poly_times" = true) (k17 : PySem.W.keepIn K (.ref f17) = true)
    (a18 : PySem.W.nsIn K mainGlobals "slope_of" = some (some (.ref f18))) (l18 : K.lookup f18 = some ⟨oc18, od18, .func (PySem.W.fnOf "slope_of" "slope_of" (defArgs s_slope_of) (defBody s_slope_of) (defScope s_slope_of) .none kV18 dc18 pm18 an18 cd18 ct18), sl18⟩) (c18 : PySem.W.codeIn K cd18 "slope_of" = true) (k18 : PySem.W.keepIn K (.ref f18) = true)
    (a19 : PySem.W.nsIn K mainGlobals "_law_abbot" = some (some (.ref f19))) (l19 : K.lookup f19 = some ⟨oc19, od19, .func (PySem.W.fnOf "_law_abbot" "_law_abbot" (defArgs s__law_abbot) (defBody s__law_abbot) (defScope s__law_abbot) .none kV19 dc19 pm19 an19 cd19 ct19), sl19⟩) (c19 : PySem.W.codeIn K cd19 "_law_abbot" = true) (k19 : PySem.W.keepIn K (.ref f19) = true)
    (a20 : PySem.W.nsIn K mainGlobals "_law_bead" = some (some (.ref f20))) (l20 : K.lookup f20 = some ⟨oc20, od20, .func (PySem.W.fnOf "_law_bead" "_law_bead" (defArgs s__law_bead) (defBody s__law_bead) (defScope s__law_bead) .none kV20 dc20 pm20 an20 cd20 ct20), sl20⟩) (c20 : PySem.W.codeIn K cd20 "_law_bead" = true) (k20 : PySem.W.keepIn K (.ref f20) = true)
    (a21 : PySem.W.nsIn K mainGlobals "_law_pick" = some (some (.ref f21))) (l21 : K.lookup f21 = some ⟨oc21, od21, .func (PySem.W.fnOf "_law_pick" "_law_pick" (defArgs s__law_pick) (defBody s__law_pick) (defScope s__law_pick) .none kV21 dc21 pm21 an21 cd21 ct21), sl21⟩) (c21 : PySem.W.codeIn K cd21 "_law_pick" = true) (k21 : PySem.W.keepIn K (.ref f21) = true)
    (a22 : PySem.W.nsIn K mainGlobals "_law_low" = some (some (.ref f22))) (l22 : K.lookup f22 = some ⟨oc22, od22, .func (PySem.W.fnOf "_law_low" "_law_low" (defArgs s__law_low) (defBody s__law_low) (defScope s__law_low) .none kV22 dc22 pm22 an22 cd22 ct22), sl22⟩) (c22 : PySem.W.codeIn K cd22 "_law_low" = true) (k22 : PySem.W.keepIn K (.ref f22) = true)
    (a23 : PySem.W.nsIn K mainGlobals "_law_plus" = some (some (.ref f23))) (l23 : K.lookup f23 = some ⟨oc23, od23, .func (PySem.W.fnOf "_law_plus" "_law_plus" (defArgs s__law_plus) (defBody s__law_plus) (defScope s__law_plus) .none kV23 dc23 pm23 an23 cd23 ct23), sl23⟩) (c23 : PySem.W.codeIn K cd23 "_law_plus" = true) (k23 : PySem.W.keepIn K (.ref f23) = true)
    (a24 : PySem.W.nsIn K mainGlobals "_law_times" = some (some (.ref f24))) (l24 : K.lookup f24 = some ⟨oc24, od24, .func (PySem.W.fnOf "_law_times" "_law_times" (defArgs s__law_times) (defBody s__law_times) (defScope s__law_times) .none kV24 dc24 pm24 an24 cd24 ct24), sl24⟩) (c24 : PySem.W.codeIn K cd24 "_law_times" = true) (k24 : PySem.W.keepIn K (.ref f24) = true)
    (a25 : PySem.W.nsIn K mainGlobals "_law_fraction" = some (some (.ref f25))) (l25 : K.lookup f25 = some ⟨oc25, od25, .func (PySem.W.fnOf "_law_fraction" "_law_fraction" (defArgs s__law_fraction) (defBody s__law_fraction) (defScope s__law_fraction) .none kV25 dc25 pm25 an25 cd25 ct25), sl25⟩) (c25 : PySem.W.codeIn K cd25 "_law_fraction" = true) (k25 : PySem.W.keepIn K (.ref f25) = true)
    (a26 : PySem.W.nsIn K mainGlobals "_law_as" = some (some (.ref f26))) (l26 : K.lookup f26 = some ⟨oc26, od26, .func (PySem.W.fnOf "_law_as" "_law_as" (defArgs s__law_as) (defBody s__law_as) (defScope s__law_as) .none kV26 dc26 pm26 an26 cd26 ct26), sl26⟩) (c26 : PySem.W.codeIn K cd26 "_law_as" = true) (k26 : PySem.W.keepIn K (.ref f26) = true)
    (a27 : PySem.W.nsIn K mainGlobals "_law_trimmed" = some (some (.ref f27))) (l27 : K.lookup f27 = some ⟨oc27, od27, .func (PySem.W.fnOf "_law_trimmed" "_law_trimmed" (defArgs s__law_trimmed) (defBody s__law_trimmed) (defScope s__law_trimmed) .none kV27 dc27 pm27 an27 cd27 ct27), sl27⟩) (c27 : PySem.W.codeIn K cd27 "_law_trimmed" = true) (k27 : PySem.W.keepIn K (.ref f27) = true)
    (a28 : PySem.W.nsIn K mainGlobals "_law_product" = some (some (.ref f28))) (l28 : K.lookup f28 = some ⟨oc28, od28, .func (PySem.W.fnOf "_law_product" "_law_product" (defArgs s__law_product) (defBody s__law_product) (defScope s__law_product) .none kV28 dc28 pm28 an28 cd28 ct28), sl28⟩) (c28 : PySem.W.codeIn K cd28 "_law_product" = true) (k28 : PySem.W.keepIn K (.ref f28) = true)
    (a29 : PySem.W.nsIn K mainGlobals "_law_sum" = some (some (.ref f29))) (l29 : K.lookup f29 = some ⟨oc29, od29, .func (PySem.W.fnOf "_law_sum" "_law_sum" (defArgs s__law_sum) (defBody s__law_sum) (defScope s__law_sum) .none kV29 dc29 pm29 an29 cd29 ct29), sl29⟩) (c29 : PySem.W.codeIn K cd29 "_law_sum" = true) (k29 : PySem.W.keepIn K (.ref f29) = true)
    (a30 : PySem.W.nsIn K mainGlobals "_law_value" = some (some (.ref f30))) (l30 : K.lookup f30 = some ⟨oc30, od30, .func (PySem.W.fnOf "_law_value" "_law_value" (defArgs s__law_value) (defBody s__law_value) (defScope s__law_value) .none kV30 dc30 pm30 an30 cd30 ct30), sl30⟩) (c30 : PySem.W.codeIn K cd30 "_law_value" = true) (k30 : PySem.W.keepIn K (.ref f30) = true)
    (a31 : PySem.W.nsIn K mainGlobals "_law_row" = some (some (.ref f31))) (l31 : K.lookup f31 = some ⟨oc31, od31, .func (PySem.W.fnOf "_law_row" "_law_row" (defArgs s__law_row) (defBody s__law_row) (defScope s__law_row) .none kV31 dc31 pm31 an31 cd31 ct31), sl31⟩) (c31 : PySem.W.codeIn K cd31 "_law_row" = true) (k31 : PySem.W.keepIn K (.ref f31) = true)
    (a32 : PySem.W.nsIn K mainGlobals "_law_long_right" = some (some (.ref f32))) (l32 : K.lookup f32 = some ⟨oc32, od32, .func (PySem.W.fnOf "_law_long_right" "_law_long_right" (defArgs s__law_long_right) (defBody s__law_long_right) (defScope s__law_long_right) .none kV32 dc32 pm32 an32 cd32 ct32), sl32⟩) (c32 : PySem.W.codeIn K cd32 "_law_long_right" = true) (k32 : PySem.W.keepIn K (.ref f32) = true)
    (a33 : PySem.W.nsIn K mainGlobals "law" = some (some (.ref f33))) (l33 : K.lookup f33 = some ⟨oc33, od33, .func (PySem.W.fnOf "law" "law" (defArgs s_law) (defBody s_law) (defScope s_law) .none kV33 dc33 pm33 an33 cd33 ct33), sl33⟩) (c33 : PySem.W.codeIn K cd33 "law" = true) (k33 : PySem.W.keepIn K (.ref f33) = true)
    (z0 : PySem.W.nsIn K mainGlobals "abs" = some none)
    (z1 : PySem.W.nsIn K mainGlobals "all" = some none)
    (z2 : PySem.W.nsIn K mainGlobals "bool" = some none)
    (z3 : PySem.W.nsIn K mainGlobals "enumerate" = some none)
    (z4 : PySem.W.nsIn K mainGlobals "int" = some none)
    (z5 : PySem.W.nsIn K mainGlobals "isinstance" = some none)
    (z6 : PySem.W.nsIn K mainGlobals "len" = some none)
    (z7 : PySem.W.nsIn K mainGlobals "list" = some none)
    (z8 : PySem.W.nsIn K mainGlobals "max" = some none)
    (z9 : PySem.W.nsIn K mainGlobals "range" = some none)
    (z10 : PySem.W.nsIn K mainGlobals "repr" = some none)
    (z11 : PySem.W.nsIn K mainGlobals "reversed" = some none)
    (z12 : PySem.W.nsIn K mainGlobals "tuple" = some none)
    (m0 : PySem.W.nsIn K mainGlobals "gcd" = some (some (.builtin "math.gcd")))
    (m1 : PySem.W.nsIn K mainGlobals "lcm" = some (some (.builtin "math.lcm")))
    (c90 : ∃ t, PySem.W.nsIn K mainGlobals "MOST_NUMBERS" = some (some (.int 80 t)))
    (hN : PySem.W.specialIn K (.builtin "object.__class__") "__get__" = some (some (.builtin "getset_descriptor.__get__")))
    (hT : PySem.W.takesIn K (.builtin "object.__class__") = some true)
    (xa0 : PySem.W.nsIn K mainGlobals "TooMany" = some (some (.ref cc0)))
    (xl0 : K.lookup cc0 = some (excClassObj nm0 qq0 cc0 NN0 bs0 (.ref cc1 :: veT) true sn0 sb0 ab0 cl0 dD0 ka0 kb0 kc0 kd0 ke0 "ValueError.__new__"))
    (xs0 : PySem.W.findIn K (.ref cc0) "__setattr__" = some (some (.builtin "object.__setattr__")))
    (xg0 : PySem.W.findIn K (.ref cc0) "__getattribute__" = some (some (.builtin "BaseException.__getattribute__")))
    (xh0 : PySem.W.findIn K (.ref cc0) "__getattr__" = some none)
    (xc0 : PySem.W.findIn K (.ref cc0) "__class__" = some (some (.builtin "object.__class__")))
    (xk0 : PySem.W.keepIn K (.ref cc0) = true)
    (xn0_0 : PySem.W.findIn K (.ref cc0) "what" = some none)
    (xn0_1 : PySem.W.findIn K (.ref cc0) "most" = some none)
    (xi0 : PySem.W.findIn K (.ref cc0) "__init__" = some (some (.ref fi0)))
    (xt0 : PySem.W.typeIn K (.ref fi0) = some (.type "function"))
    (xf0 : K.lookup fi0 = some ⟨oC0, oD0, .func (PySem.W.fnOf "__init__" "TooMany.__init__" (defArgs s_TooMany) (defBody s_TooMany) (defScope s_TooMany) .none kV0x dC0 pM0 aN0 cD0 cT0), sL0⟩)
    (xd0 : PySem.W.codeIn K cD0 "TooMany.__init__" = true)
    (xj0 : PySem.W.keepIn K (.ref fi0) = true)
    (xa1 : PySem.W.nsIn K mainGlobals "FlowError" = some (some (.ref cc1)))
    (xl1 : K.lookup cc1 = some (excClassObj nm1 qq1 cc1 NN1 bs1 veT true sn1 sb1 ab1 cl1 dD1 ka1 kb1 kc1 kd1 ke1 "ValueError.__new__"))
    : ∃ fd : FuncData, (∀ (s : Shared) (u : Value), BindsTo s fd ⟨[u], []⟩ [("script", u)]) ∧ ∀ base : Heap, K.In base → base.Ns mainGlobals mg → FnG P w K mg base CX0 9 fa fd ["script"] (sp_law K) :=
  end_mk (h := h) hmg fun base => { d_is_integer := de_mk X G a0 l0 c0 k0, d_is_within := de_mk X G a1 l1 c1 k1, d_is_list := de_mk X G a2 l2 c2 k2, d_is_fraction := de_mk X G a3 l3 c3 k3, d_reduced := de_mk X G a4 l4 c4 k4, d_read_fraction := de_mk X G a5 l5 c5 k5, d_over_one_down := de_mk X G a6 l6 c6 k6, d_fraction_of := de_mk X G a7 l7 c7 k7, d_added := de_mk X G a8 l8 c8 k8, d_multiplied := de_mk X G a9 l9 c9 k9, d_times_whole := de_mk X G a10 l10 c10 k10, d_trimmed := de_mk X G a11 l11 c11 k11, d_is_poly := de_mk X G a12 l12 c12 k12, d_read_poly := de_mk X G a13 l13 c13 k13, d_poly_of := de_mk X G a14 l14 c14 k14, d_value_at := de_mk X G a15 l15 c15 k15, d_poly_sum := de_mk X G a16 l16 c16 k16, d_poly_times := de_mk X G a17 l17 c17 k17, d_slope_of := de_mk X G a18 l18 c18 k18, d__law_abbot := de_mk X G a19 l19 c19 k19, d__law_bead := de_mk X G a20 l20 c20 k20, d__law_pick := de_mk X G a21 l21 c21 k21, d__law_low := de_mk X G a22 l22 c22 k22, d__law_plus := de_mk X G a23 l23 c23 k23, d__law_times := de_mk X G a24 l24 c24 k24, d__law_fraction := de_mk X G a25 l25 c25 k25, d__law_as := de_mk X G a26 l26 c26 k26, d__law_trimmed := de_mk X G a27 l27 c27 k27, d__law_product := de_mk X G a28 l28 c28 k28, d__law_sum := de_mk X G a29 l29 c29 k29, d__law_value := de_mk X G a30 l30 c30 k30, d__law_row := de_mk X G a31 l31 c31 k31, d__law_long_right := de_mk X G a32 l32 c32 k32, d_law := de_mk X G a33 l33 c33 k33, n_abs := PySem.W.mg_none_of X G z0, n_all := PySem.W.mg_none_of X G z1, n_bool := PySem.W.mg_none_of X G z2, n_enumerate := PySem.W.mg_none_of X G z3, n_int := PySem.W.mg_none_of X G z4, n_isinstance := PySem.W.mg_none_of X G z5, n_len := PySem.W.mg_none_of X G z6, n_list := PySem.W.mg_none_of X G z7, n_max := PySem.W.mg_none_of X G z8, n_range := PySem.W.mg_none_of X G z9, n_repr := PySem.W.mg_none_of X G z10, n_reversed := PySem.W.mg_none_of X G z11, n_tuple := PySem.W.mg_none_of X G z12, m_gcd := PySem.W.mg_of X G m0, m_lcm := PySem.W.mg_of X G m1, c_MOST_NUMBERS := Exists.elim c90 fun t e => ⟨t, PySem.W.mg_of X G e⟩, x_err := ⟨_, _, ed_mk X G xa0 xl0 xs0 xg0 xh0 xc0 hN hT xk0 (no2 xn0_0 xn0_1) xi0 xt0 xf0 xd0 xj0, PySem.W.mg_of X G xa1, ⟨_, _, _, _, _, _, _, _, _, _, _, _, _, _, xl1⟩⟩ }
end Mf
open PySem PySem.W PyProof.Rows
set_option maxHeartbeats 0 in
theorem PySem.Challenge.cw_mapflow_k40_polynomials_added_and_multip_holds : PySem.Challenge.rw_mapflow_k40_polynomials_added_and_multip.Holds := by
  w_on; o_law; k_head; (case hw => w_witness2)
  k_fill
  refine Mf.walkG (l := PySem.Challenge.rw_mapflow_k40_polynomials_added_and_multip) (n := 63) (k := 9) (x := "script") (sp := Mf.sp_law) rfl (by decide) rfl ⟨rfl, by decide, by decide⟩ (fun w h Y => PySem.W.kIn_of Y) ?F (fun K H a ns hl _ hS => ⟨a, ns, rfl, hS, hl, fun _ => rfl⟩)
  case F =>
    intro w mg fa h KX G hmg
    refine' Mf.all_mk KX G hmg ?a0 ?l0 ?c0 ?k0 ?a1 ?l1 ?c1 ?k1 ?a2 ?l2 ?c2 ?k2 ?a3 ?l3 ?c3 ?k3 ?a4 ?l4 ?c4 ?k4 ?a5 ?l5 ?c5 ?k5 ?a6 ?l6 ?c6 ?k6 ?a7 ?l7 ?c7 ?k7 ?a8 ?l8 ?c8 ?k8 ?a9 ?l9 ?c9 ?k9 ?a10 ?l10 ?c10 ?k10 ?a11 ?l11 ?c11 ?k11 ?a12 ?l12 ?c12 ?k12 ?a13 ?l13 ?c13 ?k13 ?a14 ?l14 ?c14 ?k14 ?a15 ?l15 ?c15 ?k15 ?a16 ?l16 ?c16 ?k16 ?a17 ?l17 ?c17 ?k17 ?a18 ?l18 ?c18 ?k18 ?a19 ?l19 ?c19 ?k19 ?a20 ?l20 ?c20 ?k20 ?a21 ?l21 ?c21 ?k21 ?a22 ?l22 ?c22 ?k22 ?a23 ?l23 ?c23 ?k23 ?a24 ?l24 ?c24 ?k24 ?a25 ?l25 ?c25 ?k25 ?a26 ?l26 ?c26 ?k26 ?a27 ?l27 ?c27 ?k27 ?a28 ?l28 ?c28 ?k28 ?a29 ?l29 ?c29 ?k29 ?a30 ?l30 ?c30 ?k30 ?a31 ?l31 ?c31 ?k31 ?a32 ?l32 ?c32 ?k32 ?a33 ?l33 ?c33 ?k33 ?z0 ?z1 ?z2 ?z3 ?z4 ?z5 ?z6 ?z7 ?z8 ?z9 ?z10 ?z11 ?z12 ?m0 ?m1 ?c90 ?hN ?hT ?xa0 ?xl0 ?xs0 ?xg0 ?xh0 ?xc0 ?xk0 ?xn0_0 ?xn0_1 ?xi0 ?xt0 ?xf0 ?xd0 ?xj0 ?xa1 ?xl1
    (case a0 => k_is); (case l0 => k_is); (case c0 => k_is); (case k0 => k_is); (case a1 => k_is); (case l1 => k_is); (case c1 => k_is); (case k1 => k_is); (case a2 => k_is); (case l2 => k_is); (case c2 => k_is); (case k2 => k_is); (case a3 => k_is); (case l3 => k_is); (case c3 => k_is); (case k3 => k_is); (case a4 => k_is); (case l4 => k_is); (case c4 => k_is); (case k4 => k_is); (case a5 => k_is); (case l5 => k_is); (case c5 => k_is); (case k5 => k_is); (case a6 => k_is); (case l6 => k_is); (case c6 => k_is); (case k6 => k_is); (case a7 => k_is); (case l7 => k_is); (case c7 => k_is); (case k7 => k_is); (case a8 => k_is); (case l8 => k_is); (case c8 => k_is); (case k8 => k_is); (case a9 => k_is); (case l9 => k_is); (case c9 => k_is); (case k9 => k_is); (case a10 => k_is); (case l10 => k_is); (case c10 => k_is); (case k10 => k_is); (case a11 => k_is); (case l11 => k_is); (case c11 => k_is); (case k11 => k_is); (case a12 => k_is); (case l12 => k_is); (case c12 => k_is); (case k12 => k_is); (case a13 => k_is); (case l13 => k_is); (case c13 => k_is); (case k13 => k_is); (case a14 => k_is); (case l14 => k_is); (case c14 => k_is); (case k14 => k_is); (case a15 => k_is); (case l15 => k_is); (case c15 => k_is); (case k15 => k_is); (case a16 => k_is); (case l16 => k_is); (case c16 => k_is); (case k16 => k_is); (case a17 => k_is); (case l17 => k_is); (case c17 => k_is); (case k17 => k_is); (case a18 => k_is); (case l18 => k_is); (case c18 => k_is); (case k18 => k_is); (case a19 => k_is); (case l19 => k_is); (case c19 => k_is); (case k19 => k_is); (case a20 => k_is); (case l20 => k_is); (case c20 => k_is); (case k20 => k_is); (case a21 => k_is); (case l21 => k_is); (case c21 => k_is); (case k21 => k_is); (case a22 => k_is); (case l22 => k_is); (case c22 => k_is); (case k22 => k_is); (case a23 => k_is); (case l23 => k_is); (case c23 => k_is); (case k23 => k_is); (case a24 => k_is); (case l24 => k_is); (case c24 => k_is); (case k24 => k_is); (case a25 => k_is); (case l25 => k_is); (case c25 => k_is); (case k25 => k_is); (case a26 => k_is); (case l26 => k_is); (case c26 => k_is); (case k26 => k_is); (case a27 => k_is); (case l27 => k_is); (case c27 => k_is); (case k27 => k_is); (case a28 => k_is); (case l28 => k_is); (case c28 => k_is); (case k28 => k_is); (case a29 => k_is); (case l29 => k_is); (case c29 => k_is); (case k29 => k_is); (case a30 => k_is); (case l30 => k_is); (case c30 => k_is); (case k30 => k_is); (case a31 => k_is); (case l31 => k_is); (case c31 => k_is); (case k31 => k_is); (case a32 => k_is); (case l32 => k_is); (case c32 => k_is); (case k32 => k_is); (case a33 => k_is); (case l33 => k_is); (case c33 => k_is); (case k33 => k_is); (case z0 => k_is); (case z1 => k_is); (case z2 => k_is); (case z3 => k_is); (case z4 => k_is); (case z5 => k_is); (case z6 => k_is); (case z7 => k_is); (case z8 => k_is); (case z9 => k_is); (case z10 => k_is); (case z11 => k_is); (case z12 => k_is); (case m0 => k_is); (case m1 => k_is); (case c90 => apply Exists.intro; k_is); (case hN => first | k_is | rfl | decide +kernel); (case hT => first | k_is | rfl | decide +kernel); (case xa0 => first | k_is | rfl | decide +kernel); (case xl0 => first | k_is | rfl | decide +kernel); (case xs0 => first | k_is | rfl | decide +kernel); (case xg0 => first | k_is | rfl | decide +kernel); (case xh0 => first | k_is | rfl | decide +kernel); (case xc0 => first | k_is | rfl | decide +kernel); (case xk0 => first | k_is | rfl | decide +kernel); (case xn0_0 => first | k_is | rfl | decide +kernel); (case xn0_1 => first | k_is | rfl | decide +kernel); (case xi0 => first | k_is | rfl | decide +kernel); (case xt0 => first | k_is | rfl | decide +kernel); (case xf0 => first | k_is | rfl | decide +kernel); (case xd0 => first | k_is | rfl | decide +kernel); (case xj0 => first | k_is | rfl | decide +kernel); (case xa1 => first | k_is | rfl | decide +kernel); (case xl1 => first | k_is | rfl | decide +kernel)
