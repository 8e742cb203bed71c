import PyProof.Rows.All
import Wide.All
import OpenK.AllK
import Wide.FinOn
import HandS.ForMost
import HandS.ForExc
import HandS.IsInst
import HandS.Wide
import HandS.Gcd
import HandS.Flow
import HandS.Style
import PyProof.ReprRoads
import HandS.NoneIn
import PyProof.ReprLen
import HandS.Conv
import HandS.Iter
import KE.GoesMore
import HandS.Rev
import HandS.Star
import HandS.RevRange
import PySem.Challenge.RW_mapflow_k41_polynomials_divided
set_option Elab.async false
set_option linter.all false
set_option maxRecDepth 100000
set_option maxHeartbeats 4000000
namespace Mf
open PySem PySem.Spec PyProof.Rows L2

/-! ### a def that is run where nothing is being shown (the guards are known to be none) -/
structure FnG (P : Program) (w : World) (K : PySem.W.Frag) (mg : Str → Option Value) (base : Heap) (CX : CXT) (k : Nat) (f : Addr) (fd : FuncData) (ps : List Str) (sp : Sp) : Prop where
  size : ∀ vs H Q E, sp vs H Q E → vs.length = ps.length
  go : ∀ (A : Around), A.guards = some [] → ∀ (outer : List Env) (s : Shared) (H : Hp) (args : Args) (us : List Value) (vs : List V) (Q : VK) (E : XK),
    Room k A → Env0 P w K mg base A outer s H → BindsTo s fd args (ps.zip us) → Vals vs us → sp vs H Q E →
      codeAny (model P w) A (.call (.ref f) args) (CR CX outer P w H s Q E) s

section
variable {P : Program} {w : World} {K : PySem.W.Frag} {mg : Str → Option Value} {base : Heap}

theorem FnG.of {CX : CXT} {k : Nat} {f : Addr} {fd : FuncData} {ps : List Str} {sp : Sp} (F : FnOk P w K mg base CX k f fd ps sp) : FnG P w K mg base CX k f fd ps sp :=
  ⟨F.len, fun A _ outer s H args us vs Q E => F.run A outer s H args us vs Q E⟩

/-- a def of the text, by its body, where the guards are known -/
theorem okG {x qual : Str} {st : Stmt} {f : Addr} {fd : FuncData} {N ps : List Str} {k : Nat} {sp : Sp} (F : Fun K x qual st f fd) (S : FnScope N ps (defScope st))
    (len : ∀ vs H Q E, sp vs H Q E → vs.length = ps.length)
    (hbody : ∀ (cdv : Value) (A : Around) (outer : List Env) (s : Shared) (H : Hp) (vs : List V) (Q : VK) (E : XK),
      (A.deeper (envOfC qual (defScope st) s.heap.objs.size f cdv)).guards = some [] →
      Room k (A.deeper (envOfC qual (defScope st) s.heap.objs.size f cdv)) → sp vs H Q E →
      ∃ t, PSs (cxOf CX0 P w K mg base N qual (defScope st) f cdv A outer s H E).nox (defBody st) t ∧
        t { nx := fun _ H' => Q .non H', rt := Q } (start N vs) H) :
    FnG P w K mg base CX0 (k + 1) f fd ps sp := by
  obtain ⟨oc, od, kV, doc, pm, an, cdv, ct, osl, rfl, lk, hcd⟩ := F.ex
  refine ⟨len, ?_⟩
  intro A hA outer s H args us vs Q E hr e0 hb r hsp
  have KX : K.In s.heap := e0.mod.kin.keeps fun b o e => (e0.bs b o e).1
  have lim : s.heap.NoLimit := e0.mod.nolimit.keeps fun b o e => (e0.bs b o e).1
  have hl := len _ _ _ _ hsp
  have kinds : ∀ y ∈ ps.zip us, (defScope st).names.lookup y.1 = some .local ∨
      ((defScope st).names.lookup y.1 = some .cell ∧ ((cellsFrom (s.heap.objs.size + 1) (defScope st).names []).lookup y.1).isSome = true) := by
    intro y hy
    obtain ⟨n, v⟩ := y
    cases S.par n (List.of_mem_zip hy).1 with
    | inl q => exact Or.inl q
    | inr q => exact Or.inr ⟨q, PySem.W.cellsFrom_some _ _ _ (.inl q)⟩
  refine codeAny_call_function hr.depth (KX _ _ lk) rfl S.co S.gen rfl (PySem.W.codeRec_of KX hcd) (hb _ _ _ _ ?_)
  refine wpAny_newFunctionEnv_cells S.kind kinds ?_
  intro env he s1 x
  subst he
  refine ⟨lim.keeps x.toInCall.keep, codeAny_func ?_⟩
  have hAg : (A.deeper (envOfC qual (defScope st) s.heap.objs.size f cdv)).guards = some [] := hA
  obtain ⟨t, ht, hq⟩ := hbody cdv A outer s H vs Q E hAg (hr.deeper _) hsp
  have I := inv_start (CX := CX0) (mg := mg) (base := base) (N := N) (qual := qual) (f := f) (cd := cdv) (E := E) S hr.hd e0 hl r x
  refine wpAny_mono (ht.nox.run [] s1 (start N vs) H _ I hq) ?_ (fun e s' hs => hs)
  intro fl s' hs
  cases fl with
  | ret u =>
    obtain ⟨v, σ', H', J, rv, q⟩ := hs
    exact ⟨v, H', J.os, J.bare, J.base, J.hok, rv, q⟩
  | next =>
    obtain ⟨σ', H', J, q⟩ := hs
    exact ⟨V.non, H', J.os, J.bare, J.base, J.hok, (rfl : Value.none = Value.none), q⟩
  | brk => obtain ⟨_, _, _, q⟩ := hs; exact False.elim q
  | cont => obtain ⟨_, _, _, q⟩ := hs; exact False.elim q
end

section
variable {X : Cx} {CX : CXT} {k : Nat} {f C : Addr} {fd : FuncData} {ps : List Str} {sp : Sp} {E : XK} {x : Str} {p pos : Pos} {e : Expr} {es : List Expr} {t : TA}
theorem run_fnG {pins : List (Addr × Obj)} {σ : L2.St} {H : Hp} {s : Shared} {Q : VK} {us : List Value} {vs : List V} (F : FnG X.prog X.w X.K X.mg X.base CX k f fd ps sp)
    (hA : X.A.guards = some []) (hr : Room k X.A) (hb : Binds X.K fd ps []) (hx : Passes CX X E)
    (I : Inv X pins σ H s) (r : Vals vs us) (h : sp vs H Q E) : wpAny (model X.prog X.w) X.A (call (.ref f) us) (EP X pins σ Q) X.xe s := by
  have hl : (us ++ []).length = ps.length := by
    rw [List.append_nil, ← r.length]
    exact F.size _ _ _ _ h
  have hb' := hb s us I.kIn hl
  rw [List.append_nil] at hb'
  refine wpAny_call (codeAny_mono (F.go X.A hA X.stack s H ⟨us, []⟩ us vs Q E hr I.env0 hb' r h) ?_)
  intro r s' hq
  cases r with
  | error e => exact hx pins σ H s e s' I hq
  | ok fl => cases fl with
    | ret u => exact I.after hq
    | next => exact hq.elim
    | brk => exact hq.elim
    | cont => exact hq.elim
/-- f(e, ..) where the guards are known -/
theorem pe_callG (F : FnG X.prog X.w X.K X.mg X.base CX k f fd ps sp) (hA : X.A.guards = some []) (hr : Room k X.A) (hg : Gl X x) (hm : X.mg x = some (.ref f))
    (hk : PySem.W.keepIn X.K (.ref f) = true) (hb : Binds X.K fd ps []) (hx : Passes CX X E)
    (ha : PA X (e :: es) t) (hdb : (x == ("__debug__" : Str)) = false := by decide) (he : starEach (e :: es) X.env = (false, eval e X.env) :: starEach es X.env := by rfl)
    (hpl : (backTo pos (starEach es X.env)).any (·.1) = false := by rfl) :
    PE X (.Call (.Name x p) (e :: es) [] pos) (fun σ H Q => t σ H fun vs H1 => sp vs H1 Q E) := by
  refine ⟨fun pins s σ H Q I h => wpAny_Call_Name_kw (ld_glob I hg hm ?_ hdb)⟩
  refine PySem.W.callWith_K (h₀ := X.base) I.ok.mod.kin hk (thn (ha.run pos pins s σ H _ I h) ?_) he hpl
  intro us s1 ⟨vs, H1, I1, r, q⟩
  exact ⟨I1.kIn, run_fnG F hA hr hb hx I1 r q⟩
end

/-! ### the law's call, where its def is an FnG -/
theorem law_callG {P : Program} {w : World} {K : PySem.W.Frag} {mg mb : Str → Option Value} {k : Nat} {fa a : Addr} {fd : FuncData} {x : Str} {sp : Sp} {s₁ : Shared} {vs : List Value} {ns : List Int}
    (KX : K.In s₁.heap) (hns : s₁.heap.Ns mainGlobals mg) (hb : s₁.heap.Ns builtinsNs mb) (hbb : ∀ x : Str, x ≠ "__name__" → mb x = bootBuiltins x)
    (hlim : s₁.heap.NoLimit) (hg : s₁.gens = #[])
    (ha : s₁.heap.get? a = some { cls := .type "list", data := .seq vs.toArray }) (hi : IntsAre vs ns) (hl : ns.length ≤ sizeLine) (hr : Room k callerA)
    (F : ∀ base : Heap, K.In base → base.Ns mainGlobals mg → FnG P w K mg base CX0 k fa fd [x] sp)
    (hbind : ∀ (s : Shared) (u : Value), BindsTo s fd ⟨[u], []⟩ [(x, u)])
    (hsp : ∀ H : Hp, Only H → SqL K H a (ns.map V.int) → sp [.ref a] H (fun v _ => v = .bl true) fun _ _ _ => False) :
    codeAny (model P w) callerA (.call (.ref fa) ⟨[.ref a], []⟩)
      (fun r s' => r = .ok (.ret (.bool true)) ∧ OldK s₁.heap s'.heap ∧ s'.os = s₁.os ∧ AllBare s'.gens) s₁ := by
  have rv := vals_ints hi
  have lenV := hi.length
  have main : ∀ H : Hp, Only H → SqL K H a (ns.map V.int) → HOk P w H s₁.heap → (∀ b, H b ≠ none → b = a) → (H a ≠ none → K.lookup a = none) →
      codeAny (model P w) callerA (.call (.ref fa) ⟨[.ref a], []⟩)
        (fun r s' => r = .ok (.ret (.bool true)) ∧ OldK s₁.heap s'.heap ∧ s'.os = s₁.os ∧ AllBare s'.gens) s₁ := by
    intro H hO hS hok hA hK
    have unt : ∀ {b : Addr} {o : Obj}, s₁.heap.get? b = some o → (b = a → False) → H b = none := by
      intro b o e ne
      cases q : H b with
      | none => rfl
      | some u => exact (ne (hA b (by rw [q]; exact Option.some_ne_none _))).elim
    have nsK : ∀ {b : Addr} {m : Str → Option Value}, s₁.heap.Ns b m → (hidT s₁.heap H).Ns b m := by
      intro b m h
      obtain ⟨o, es, ep, e, d, r⟩ := h
      refine ⟨o, es, ep, hidT_get e (unt e fun z => ?_), d, r⟩
      subst z
      rw [ha] at e
      cases e
      cases d
    have hKb : K.In (hidT s₁.heap H) := by
      intro b o e
      refine hidT_get (KX b o e) ?_
      cases q : H b with
      | none => rfl
      | some u =>
        have nb : H b ≠ none := by
          rw [q]
          exact Option.some_ne_none _
        have z := hA b nb
        subst z
        rw [hK nb] at e
        cases e
    have hM : Mod K mg (hidT s₁.heap H) := by
      refine ⟨hKb, nsK hns, ⟨mb, nsK hb, hbb⟩, ?_⟩
      obtain ⟨mc, h1, h2⟩ := hlim
      exact ⟨mc, nsK h1, h2⟩
    have e0 : Env0 P w K mg (hidT s₁.heap H) callerA [] s₁ H :=
      { frames := rfl, mod := hM, bs := fun b o e => of_hidT e, bsz := Nat.le_of_eq (hidT_size _ _), funs := trivial,
        frf := fun b hb => absurd hb List.not_mem_nil, hok := hok, bare := .of_eq hg }
    have run := (F _ hKb (nsK hns)).go callerA rfl [] s₁ H ⟨[.ref a], []⟩ [.ref a] [.ref a] (fun v _ => v = .bl true) (fun _ _ _ => False) hr e0 (hbind s₁ (.ref a)) (.cons rfl .nil) (hsp H hO hS)
    refine codeAny_mono run ?_
    intro r s' h
    cases r with
    | error e => exact False.elim h
    | ok fl => cases fl with
      | next => exact False.elim h
      | brk => exact False.elim h
      | cont => exact False.elim h
      | ret u =>
        obtain ⟨v, H', os, bare, un, hok', r', q⟩ := h
        obtain rfl : v = .bl true := q
        obtain rfl : u = Value.bool true := r'
        refine ⟨rfl, OldK.of_keep ?_, os, bare⟩
        intro b o e
        cases q : H b with
        | none => exact un.keep b o e q List.not_mem_nil List.not_mem_nil
        | some u =>
          cases hO b with
          | inl z =>
            rw [q] at z
            cases z
          | inr z =>
            obtain ⟨ob, xs, z⟩ := z
            obtain ⟨e1, _⟩ := hok b _ z
            obtain ⟨e2, _⟩ := hok' b _ (un.frzs b ob _ z)
            rw [e] at e1
            cases e1
            exact e2
  cases hk : K.lookup a with
  | some o =>
    have e := KX a o hk
    rw [ha] at e
    cases e
    refine main (fun _ => none) (fun _ => Or.inl rfl) (Or.inr ⟨_, vs.toArray, _, hk, rfl, rfl, rfl, ?_, ?_⟩) ?_ (fun b z => absurd rfl z) (fun z => absurd rfl z)
    · rw [List.size_toArray, lenV]
      exact hl
    · simpa using rv
    · intro b u z
      have z' : (none : Option HO) = some u := z
      cases z'
  | none =>
    have hat : ∀ b : Addr, (fun b => if b = a then some (HO.frz { cls := .type "list", data := .seq vs.toArray } (.lst (ns.map V.int))) else none) b ≠ none → b = a := by
      intro b z
      by_cases hb : b = a
      · exact hb
      · exact absurd (if_neg hb) z
    refine main (fun b => if b = a then some (HO.frz { cls := .type "list", data := .seq vs.toArray } (.lst (ns.map V.int))) else none) ?_ (Or.inl (Or.inr ⟨_, if_pos rfl⟩)) ?_ hat (fun _ => hk)
    · intro b
      by_cases hb : b = a
      · exact Or.inr ⟨_, _, if_pos hb⟩
      · exact Or.inl (if_neg hb)
    · intro b u z
      by_cases hb : b = a
      · have z' := (if_pos hb).symm.trans z
        cases z'
        subst hb
        refine ⟨ha, ?_, vs, _, rv, ha⟩
        rw [List.length_map]
        exact hl
      · have z' := (if_neg hb).symm.trans z
        cases z'

/-- the law row from the promise of its def -/
theorem walkG {l : PySem.W.OpenLaw} {n k : Nat} {q : Program} {loose : List Str} {XP : (Str → Option Value) → Heap → Prop} {YP : World → Heap → Prop} {d : DefRec} {K : Params → PySem.W.Frag} {sp : PySem.W.Frag → Sp} {x : Str}
    (hn : l.most = some n) (hn2 : n ≤ sizeLine) (hdf : d.params.defaults = []) (hr : Room k callerA)
    (hY : ∀ (w : World) (h : Heap), YP w h → (K w.params).In h)
    (F : ∀ (w : World) (mg : Str → Option Value) (fa : Addr) (h : Heap), (K w.params).In h → h.Ns mainGlobals mg → mg d.name = some (.ref fa) →
      ∃ fd : FuncData, (∀ (s : Shared) (u : Value), BindsTo s fd ⟨[u], []⟩ [(x, u)]) ∧
        ∀ base : Heap, (K w.params).In base → base.Ns mainGlobals mg → FnG l.prog w (K w.params) mg base CX0 k fa fd [x] (sp (K w.params)))
    (hsp : ∀ (K : PySem.W.Frag) (H : Hp) (a : Addr) (ns : List Int), ns.length ≤ n → Only H → SqL K H a (ns.map V.int) → sp K [.ref a] H (fun v _ => v = .bl true) fun _ _ _ => False) :
    PySem.W.WalkO q loose XP YP l.row.toRowW d [] (fun f vs => PySem.call f vs) := by
  refine Att.attach_call hn hdf ?_
  intro w s₀ s₁ mg mb fa o pm cd doc a vs ns G Y ho hd hcd hmg hobj hints hlen hg
  have KX := hY w _ Y
  obtain ⟨fd, hb, hF⟩ := F w mg fa _ KX G.T.g hmg
  exact law_callG KX G.T.g G.T.b G.T.builtins G.T.nolimit hg hobj hints (Nat.le_trans hlen hn2) hr hF hb (fun H hO hS => hsp _ H a ns hlen hO hS)

/-! ### repr of data -/
section
variable {X : Cx}
theorem call_reprD (hA : X.A.guards = some []) (hu : X.A.units + 64 < cLine) : CallR X (.builtin "repr") (fun xs H Q => ∃ (a : Addr) (d : PyData), xs = [.ref a] ∧ Dp X.K H (.ref a) d ∧
    d.showable = true ∧ d.hasDict = false ∧ d.depth ≤ 60 ∧ d.shown.length ≤ sizeLine ∧ Q (.str d.shown) H) := by
  intro pins s σ H xs us Q I r h
  obtain ⟨a, d, rfl, hd, hs, hn, hdep, hz, q⟩ := h
  obtain ⟨u, rfl, rx⟩ := vals1 r
  cases (show u = Value.ref a from rx)
  obtain ⟨as, rd⟩ := Dp.reads I d _ _ hd rfl
  refine repr_of_reads' rd hs (PyData.noDict_hsm hn) hA (by omega) (fun b o e => e) ?_ hz
  intro h' u tk hk
  exact ⟨.str d.shown, H, I.kept hk, ⟨u, rfl⟩, q⟩
end
end Mf
namespace Mf
open PySem PySem.Spec PyProof.Rows L2
/-- where one stands: the program, the world, what is written, the module's names -/
structure Cn where
  P : Program
  w : World
  K : PySem.W.Frag
  mg : Str → Option Value
  base : Heap
abbrev cnOf (X : Cx) : Cn := ⟨X.prog, X.w, X.K, X.mg, X.base⟩
/-- a def that can be called by its name -/
structure Cl (c : Cn) (k : Nat) (x : Str) (st : Stmt) (ps : List Str) (sp : Sp) : Prop where
  ex : ∃ (f : Addr) (fd : FuncData), FnG c.P c.w c.K c.mg c.base CX0 k f fd ps sp ∧ c.mg x = some (.ref f) ∧ Fun c.K x x st f fd
/-- a def of the text as it stands -/
structure De (c : Cn) (x : Str) (st : Stmt) : Prop where
  ex : ∃ (f : Addr) (fd : FuncData), c.mg x = some (.ref f) ∧ Fun c.K x x st f fd
/-- the arguments written one behind another -/
def Pl (x : Str) (st : Stmt) (ps : List Str) : Prop := ∀ (kV doc pm : Value) (an : Option Addr) (cdv ct : Value) (us : List Value), us.length = ps.length →
  bindArgs (PySem.W.fnOf x x (defArgs st) (defBody st) (defScope st) .none kV doc pm an cdv ct) ⟨us, []⟩ = pure (ps.zip us)
/-- .. by names alone: the names as they are written, and how they are put in order -/
def Pk (x : Str) (st : Stmt) (ps ks : List Str) (g : List Value → List Value) : Prop := ∀ (kV doc pm : Value) (an : Option Addr) (cdv ct : Value) (ws : List Value), ws.length = ks.length →
  bindArgs (PySem.W.fnOf x x (defArgs st) (defBody st) (defScope st) .none kV doc pm an cdv ct) ⟨[], ks.zip ws⟩ = pure (ps.zip (g ws))

theorem De.cl {c : Cn} {x : Str} {st : Stmt} {N ps : List Str} {k : Nat} {sp : Sp} (D : De c x st) (S : FnScope N ps (defScope st))
    (len : ∀ vs H Q E, sp vs H Q E → vs.length = ps.length)
    (hbody : ∀ (f : Addr) (cdv : Value) (A : Around) (outer : List Env) (s : Shared) (H : Hp) (vs : List V) (Q : VK) (E : XK),
      (A.deeper (envOfC x (defScope st) s.heap.objs.size f cdv)).guards = some [] →
      Room k (A.deeper (envOfC x (defScope st) s.heap.objs.size f cdv)) → sp vs H Q E →
      ∃ t, PSs (cxOf CX0 c.P c.w c.K c.mg c.base N x (defScope st) f cdv A outer s H E).nox (defBody st) t ∧
        t { nx := fun _ H' => Q .non H', rt := Q } (start N vs) H) : Cl c (k + 1) x st ps sp := by
  obtain ⟨f, fd, hm, F⟩ := D.ex
  exact ⟨f, fd, okG F S len (hbody f), hm, F⟩

section
variable {X : Cx} {k j : Nat} {f : Addr} {ps ks : List Str} {sp : Sp} {x : Str} {p pos : Pos} {e : Expr} {es : List Expr} {t tk : TA} {st : Stmt} {kws : List Keyword}
def tCl (sp : Sp) (t : TA) : TE := fun σ H Q => t σ H fun vs H1 => sp vs H1 Q E0
def tClK (sp : Sp) (g : List V → List V) (t : TA) : TE := fun σ H Q => t σ H fun vs H1 => sp (g vs) H1 Q E0
/-- f(e, ..) -/
theorem pe_f (c : Cl (cnOf X) k x st ps sp) (hA : X.A.guards = some []) (hr : Room j X.A) (hk : k ≤ j) (hp : Pl x st ps) (hg : Gl X x) (ha : PA X (e :: es) t)
    (hdb : (x == ("__debug__" : Str)) = false := by decide) (he : starEach (e :: es) X.env = (false, eval e X.env) :: starEach es X.env := by rfl)
    (hpl : (backTo pos (starEach es X.env)).any (·.1) = false := by rfl) : PE X (.Call (.Name x p) (e :: es) [] pos) (tCl sp t) := by
  obtain ⟨f, fd, F, hm, W⟩ := c.ex
  exact pe_callG F hA (hr.mono hk) hg hm W.kp (W.binds hp) pass0 ha hdb he hpl
/-- f(k = e, ..) -/
theorem pe_fk {g : List Value → List Value} {gV : List V → List V} (c : Cl (cnOf X) k x st ps sp) (hA : X.A.guards = some []) (hr : Room j X.A) (hk : k ≤ j) (hp : Pk x st ps ks g)
    (rel : ∀ {vs : List V} {us : List Value}, Vals vs us → us.length = ks.length → Vals (gV vs) (g us)) (hl : ∀ vs : List V, (gV vs).length = ps.length → vs.length = ks.length) (hg : Gl X x) (hkw : PK X kws tk)
    (hall : (backToKw pos (keywordEach kws X.env)).all (·.1.isSome) = true := by rfl) (hks : (backToKw pos (keywordEach kws X.env)).filterMap (·.1) = ks := by rfl)
    (hdb : (x == ("__debug__" : Str)) = false := by decide)
    (hpl : ((backTo pos (starEach [] X.env)).any (·.1) || (backToKw pos (keywordEach kws X.env)).any (·.1.isNone)) = false := by rfl) :
    PE X (.Call (.Name x p) [] kws pos) (tClK sp gV tk) := by
  obtain ⟨f, fd, F, hm, W⟩ := c.ex
  refine ⟨fun pins s σ H Q I h => ?_⟩
  refine wpAny_Call_Name_kw (ld_glob I hg hm ?_ hdb)
  refine PySem.W.callWith_KW0 (h₀ := X.base) I.ok.mod.kin W.kp hall (thn (hkw.run pos pins s σ H _ I h) ?_) hpl
  intro ws s2 ⟨zs, H2, I2, rz, q2⟩
  refine ⟨I2.kIn, ?_⟩
  rw [hks]
  have l0 := F.size _ _ _ _ q2
  have l1 : ws.length = ks.length := by
    rw [← rz.length]
    exact hl _ l0
  have r2 := rel rz l1
  have hb : BindsTo s2 fd ⟨[], ks.zip ws⟩ (ps.zip (g ws)) := by
    obtain ⟨oc, od, kV, doc, pm, an, cdv, ct, osl, rfl, lk, hcd⟩ := W.ex
    exact .of_eq (hp kV doc pm an cdv ct ws l1)
  refine wpAny_call (codeAny_mono (F.go X.A hA X.stack s2 H2 ⟨[], ks.zip ws⟩ (g ws) (gV zs) Q E0 (hr.mono hk) I2.env0 hb r2 q2) ?_)
  intro r s' hq
  cases r with
  | error e => exact pass0 pins σ H2 s2 e s' I2 hq
  | ok fl => cases fl with
    | ret u => exact I2.after hq
    | next => exact hq.elim
    | brk => exact hq.elim
    | cont => exact hq.elim
end

/-! ### operators for whatever comes -/
section
variable {X : Cx}
theorem OpR_or {f : Value → Value → Sem Value} {r r' : R2} (h : OpR X f r) (h' : OpR X f r') : OpR X f (fun x y H Q => r x y H Q ∨ r' x y H Q) := by
  intro pins s σ H x y v u Q I rx ry q
  cases q with
  | inl q => exact h pins s σ H x y v u Q I rx ry q
  | inr q => exact h' pins s σ H x y v u Q I rx ry q
def CMulU (i j : Int) : Prop := CMul i j ∨ CMulW i j
theorem op_mulI : OpR X (binaryOp .Mult) (rI CMulU fun i j => .int (i * j)) := by
  intro pins s σ H x y v u Q I rx ry q
  obtain ⟨i, j, e1, e2, c, q⟩ := q
  cases c with
  | inl c => exact op_mul pins s σ H x y v u Q I rx ry ⟨i, j, e1, e2, c, q⟩
  | inr c => exact op_mulW pins s σ H x y v u Q I rx ry ⟨i, j, e1, e2, c, q⟩
def rAddU : R2 := fun x y H Q => rI0 (fun i j => .int (i + j)) x y H Q ∨ rCat x y H Q
theorem op_addU : OpR X (binaryOp .Add) rAddU := OpR_or op_add op_cat
def rMulU : R2 := fun x y H Q => rI CMulU (fun i j => .int (i * j)) x y H Q ∨ rRep x y H Q
theorem op_mulU : OpR X (binaryOp .Mult) rMulU := OpR_or op_mulI op_rep
def rEqU (K : PySem.W.Frag) : R2 := fun x y H Q => rEq x y H Q ∨ rEqD K x y H Q
def rNeU (K : PySem.W.Frag) : R2 := fun x y H Q => rNe x y H Q ∨ rNeD K x y H Q
theorem op_eqU (hu : X.A.units + 64 < cLine) : OpR X (compareOp .Eq) (rEqU X.K) := OpR_or op_eq (op_eqD hu)
theorem op_neU (hu : X.A.units + 64 < cLine) : OpR X (compareOp .NotEq) (rNeU X.K) := OpR_or op_ne (op_neD hu)
/-- is of a bool that is written -/
def rIsT (b : Bool) : R2 := fun x y H Q => y = .bl b ∧ ((∃ a, x = .bl a ∧ Q (.bl (decide (a = b))) H) ∨ (∃ i, x = .int i ∧ Q (.bl false) H))
def rNotT (b : Bool) : R2 := fun x y H Q => y = .bl b ∧ ((∃ a, x = .bl a ∧ Q (.bl (!decide (a = b))) H) ∨ (∃ i, x = .int i ∧ Q (.bl true) H))
theorem op_notT {b : Bool} : OpR X (compareOp .IsNot) (rNotT b) := by
  intro pins s σ H x y v u Q I rx ry h
  obtain ⟨rfl, h⟩ := h
  rcases h with ⟨a, rfl, q⟩ | ⟨i, rfl, q⟩
  · exact op_notBl pins s σ H _ _ v u Q I rx ry ⟨a, b, rfl, rfl, q⟩
  · obtain ⟨t, rfl⟩ := rx
    cases (show u = Value.bool b from ry)
    exact wpAny_isNot_other rfl (fun z => Value.noConfusion z) ⟨.bl true, H, I, rfl, q⟩
/-- is None, is not None -/
def rIsN : R2 := fun x y H Q => y = .non ∧ Q (.bl (decide (x = .non))) H
def rNotN : R2 := fun x y H Q => y = .non ∧ Q (.bl (!decide (x = .non))) H
theorem op_isNU : OpR X (compareOp .Is) rIsN := op_isN
theorem op_notNU : OpR X (compareOp .IsNot) rNotN := op_notN

/-- what a for walks: one rule or another -/
theorem pi_or {tg it : Expr} {w1 w2 : TI} (h1 : PI X tg it w1) (h2 : PI X tg it w2) : PI X tg it (fun σ H R => w1 σ H R ∨ w2 σ H R) := by
  refine ⟨fun pins s σ H R I h => ?_⟩
  cases h with
  | inl h => exact h1.run pins s σ H R I h
  | inr h => exact h2.run pins s σ H R I h
end

/-! ### isinstance(e, (list, tuple)): the tuple of classes is not tracked -/
def tSeqP (K : PySem.W.Frag) (te : TE) : TE := fun σ H Q => te σ H fun x H1 => ∃ t b, TyX K H1 x (.type t) ∧ PySem.W.kitAny K (.type t) [.type "list", .type "tuple"] = some b ∧ Q (.bl b) H1
section
variable {X : Cx} {e : Expr} {te : TE} {p p1 p2 pt pos : Pos} {kt : Nat}
theorem pe_isSeq (hg : Gl X "isinstance") (hm : X.mg "isinstance" = none) (hg1 : Gl X "list") (hm1 : X.mg "list" = none) (hg2 : Gl X "tuple") (hm2 : X.mg "tuple" = none) (he : PE X e te)
    (hs : starEach [e, .Tuple [.Name "list" p1, .Name "tuple" p2] kt pt] X.env = [(false, eval e X.env), (false, eval (.Tuple [.Name "list" p1, .Name "tuple" p2] kt pt) X.env)] := by rfl)
    (hi : starEach [.Name "list" p1, .Name "tuple" p2] X.env = [(false, eval (.Name "list" p1) X.env), (false, eval (.Name "tuple" p2) X.env)] := by rfl) :
    PE X (.Call (.Name "isinstance" p) [e, .Tuple [.Name "list" p1, .Name "tuple" p2] kt pt] [] pos) (tSeqP X.K te) := by
  refine ⟨fun pins s σ H Q I h => ?_⟩
  have hv : bootBuiltins "isinstance" = some (.builtin "isinstance") := by decide +kernel
  refine wpAny_Call_Name_kw (ld_blt I hg hm hv ?_ (by decide) (by decide))
  refine PyProof.Rows.callWith_builtin1 ?_ (by rw [hs]; rfl) (by rfl)
  rw [hs]
  show wpAny _ _ (spliced ((false, eval e X.env) :: backTo pos [(false, eval (.Tuple [.Name "list" p1, .Name "tuple" p2] kt pt) X.env)])) _ _ s
  refine Calls.spliced_cons (thn (he.run pins s σ H _ I h) ?_)
  intro u s1 ⟨x, H1, I1, r1, t, b, ty, kt', q⟩
  refine Calls.spliced_cons (wpAny_mono (Q := fun v s2 => v = .ref s1.heap.objs.size ∧ s2 = { s1 with heap := s1.heap.push { cls := .type "tuple", data := .seq [Value.type "list", Value.type "tuple"].toArray } }) ?_ ?_ (fun _ _ z => z))
  · refine wpAny_Tuple_spliced (x1 := kt) ?_
    rw [hi]
    show wpAny _ _ (spliced ((false, eval (.Name "list" p1) X.env) :: backTo pt [(false, eval (.Name "tuple" p2) X.env)])) _ _ s1
    refine Calls.spliced_cons (ld_blt I1 hg1 hm1 PyProof.Rows.boot_list ?_ (by decide) (by decide))
    refine Calls.spliced_cons (ld_blt I1 hg2 hm2 PyProof.Rows.boot_tuple ?_ (by decide) (by decide))
    refine Calls.spliced_nil ?_
    exact ⟨by show 2 ≤ sizeLine; decide, rfl, rfl⟩
  · intro v s2 hv
    obtain ⟨rfl, rfl⟩ := hv
    refine Calls.spliced_nil ?_
    have I2 := I1.kept (h' := s1.heap.push { cls := .type "tuple", data := .seq [Value.type "list", Value.type "tuple"].toArray }) (t' := s1.toks) (fun b u e => Heap.get?_push_of_some _ e)
    obtain ⟨Pz, Z, pz, hx⟩ := kit_of I2 r1 ty
    exact PySem.W.kia_tup Z I2.kIn pz (Heap.get?_push_size _ rfl) kt' hx fun tk => ⟨.bl b, H1, I2.tok tk, rfl, q⟩
end
end Mf
namespace Mf
open PySem PySem.Spec PyProof.Rows L2

/-! ### readings, step by step -/
section
variable {K : PySem.W.Frag} {σ : L2.St} {H : Hp} {Q : VK} {v x y : V} {ta tb te : TE} {t u tt : TT} {tr : TA} {r : R2} {D : Ends} {t1 t2 : TS}
theorem g_var {i : Nat} (h : σ[i]? = some (some v)) (q : Q v H) : tVar i σ H Q := ⟨v, h, q⟩
theorem g_c (q : Q v H) : tC v σ H Q := q
theorem g_op (q : ta σ H fun x H1 => tb σ H1 fun y H2 => r x y H2 Q) : tOp r ta tb σ H Q := q
theorem g_un {r : V → Hp → VK → Prop} (q : ta σ H fun x H1 => r x H1 Q) : tUn r ta σ H Q := q
theorem g_cb {r : List V → Hp → VK → Prop} (q : tr σ H fun vs H1 => r vs H1 Q) : tCB r tr σ H Q := q
theorem g_cl {sp : Sp} (q : tr σ H fun vs H1 => sp vs H1 Q E0) : tCl sp tr σ H Q := q
theorem g_clk {sp : Sp} {g : List V → List V} (q : tr σ H fun vs H1 => sp (g vs) H1 Q E0) : tClK sp g tr σ H Q := q
theorem g_nil {R : List V → Hp → Prop} (q : R [] H) : tNil σ H R := q
theorem g_cons {R : List V → Hp → Prop} (q : ta σ H fun x H1 => tr σ H1 fun xs H2 => R (x :: xs) H2) : tCons ta tr σ H R := q
theorem g_tB {R : Bool → Hp → Prop} (q : te σ H fun x H1 => ∃ c, x = .bl c ∧ R c H1) : tB te σ H R := q
theorem g_test {R : Bool → Hp → Prop} (q : te σ H fun x H1 => ∃ c, x = .bl c ∧ R c H1) : tTest te σ H R := q
theorem g_bl {b : Bool} {R : Bool → Prop} (q : R b) : ∃ c, V.bl b = .bl c ∧ R c := ⟨b, rfl, q⟩
theorem g_and {R : Bool → Hp → Prop} (q : t σ H fun c H1 => if c = true then u σ H1 R else R false H1) : tAnd t u σ H R := q
theorem g_or {R : Bool → Hp → Prop} (q : t σ H fun c H1 => if c = true then R true H1 else u σ H1 R) : tOr t u σ H R := q
theorem g_not {R : Bool → Hp → Prop} (q : t σ H fun c H1 => R (!c) H1) : tNot t σ H R := q
theorem g_andV (q : ta σ H fun x H1 => ∃ c, x = .bl c ∧ if c = true then tb σ H1 Q else Q (.bl false) H1) : tAndV ta tb σ H Q := q
theorem g_orV (q : ta σ H fun x H1 => ∃ c, x = .bl c ∧ if c = true then Q (.bl true) H1 else tb σ H1 Q) : tOrV ta tb σ H Q := q
theorem g_notV (q : ta σ H fun x H1 => ∃ c, x = .bl c ∧ Q (.bl (!c)) H1) : tNotV ta σ H Q := q
theorem g_if (q : t σ H fun c H1 => if c = true then ta σ H1 Q else tb σ H1 Q) : tIf t ta tb σ H Q := q
theorem g_ifS (q : t σ H fun b H1 => if b = true then t1 D σ H1 else t2 D σ H1) : tIfS t t1 t2 D σ H := q
theorem g_seq (q : t1 ⟨t2 D, D.rt, D.bk, D.ct⟩ σ H) : tSeq t1 t2 D σ H := q
theorem g_next (q : D.nx σ H) : tNext D σ H := q
theorem g_ret (q : te σ H D.rt) : tRet te D σ H := q
theorem g_drop (q : te σ H fun _ H1 => D.nx σ H1) : tDrop te D σ H := q
theorem g_asg {g : TG} (q : te σ H fun x H1 => g x σ H1 D.nx) : tAsg te g D σ H := q
theorem g_name {i : Nat} {R : L2.St → Hp → Prop} (q : R (σ.set i (some v)) H) : gName i v σ H R := q
theorem g_I0 {g : Int → Int → V} {i j : Int} (q : Q (g i j) H) : rI0 g (.int i) (.int j) H Q := ⟨i, j, rfl, rfl, q⟩
theorem g_I {C : Int → Int → Prop} {g : Int → Int → V} {i j : Int} (c : C i j) (q : Q (g i j) H) : rI C g (.int i) (.int j) H Q := ⟨i, j, rfl, rfl, c, q⟩
theorem g_addI {i j : Int} (q : Q (.int (i + j)) H) : rAddU (.int i) (.int j) H Q := .inl ⟨i, j, rfl, rfl, q⟩
theorem g_mulI {i j : Int} (c : CMulU i j) (q : Q (.int (i * j)) H) : rMulU (.int i) (.int j) H Q := .inl ⟨i, j, rfl, rfl, c, q⟩
theorem g_U {g : Int → V} {i : Int} (q : Q (g i) H) : rU g (.int i) H Q := ⟨i, rfl, q⟩
theorem g_isN (q : Q (.bl (decide (x = .non))) H) : rIsN x .non H Q := ⟨rfl, q⟩
theorem g_notN (q : Q (.bl (!decide (x = .non))) H) : rNotN x .non H Q := ⟨rfl, q⟩
theorem g_notTb {a b : Bool} (q : Q (.bl (!decide (a = b))) H) : rNotT b (.bl a) (.bl b) H Q := ⟨rfl, .inl ⟨a, rfl, q⟩⟩
theorem g_notT1 (q : Q (.bl false) H) : rNotT true (.bl true) (.bl true) H Q := ⟨rfl, .inl ⟨true, rfl, q⟩⟩
theorem g_notT2 (q : Q (.bl true) H) : rNotT true (.bl false) (.bl true) H Q := ⟨rfl, .inl ⟨false, rfl, q⟩⟩
theorem g_notT3 (q : Q (.bl true) H) : rNotT false (.bl true) (.bl false) H Q := ⟨rfl, .inl ⟨true, rfl, q⟩⟩
theorem g_notT4 (q : Q (.bl false) H) : rNotT false (.bl false) (.bl false) H Q := ⟨rfl, .inl ⟨false, rfl, q⟩⟩
theorem g_notTi {i : Int} {b : Bool} (q : Q (.bl true) H) : rNotT b (.int i) (.bl b) H Q := ⟨rfl, .inr ⟨i, rfl, q⟩⟩
theorem g_eqI {i j : Int} (q : Q (.bl (decide (i = j))) H) : rEqU K (.int i) (.int j) H Q := .inl ⟨rfl, by
  have e : decide (V.int i = V.int j) = decide (i = j) := by
    by_cases h : i = j
    · subst h; simp
    · simp [h]
  rw [e]; exact q⟩
theorem g_neI {i j : Int} (q : Q (.bl (!decide (i = j))) H) : rNeU K (.int i) (.int j) H Q := .inl ⟨rfl, by
  have e : decide (V.int i = V.int j) = decide (i = j) := by
    by_cases h : i = j
    · subst h; simp
    · simp [h]
  rw [e]; exact q⟩
theorem g_neS {a b : Str} (q : Q (.bl (!decide (a = b))) H) : rNeU K (.str a) (.str b) H Q := .inl ⟨rfl, by
  have e : decide (V.str a = V.str b) = decide (a = b) := by
    by_cases h : a = b
    · subst h; simp
    · simp [h]
  rw [e]; exact q⟩
theorem g_eqS {a b : Str} (q : Q (.bl (decide (a = b))) H) : rEqU K (.str a) (.str b) H Q := .inl ⟨rfl, by
  have e : decide (V.str a = V.str b) = decide (a = b) := by
    by_cases h : a = b
    · subst h; simp
    · simp [h]
  rw [e]; exact q⟩
theorem g_iteT {A B : Prop} (h : A) : if true = true then A else B := iteT h
theorem g_iteF {A B : Prop} (h : B) : if false = true then A else B := iteF h
theorem g_iteNT {A B : Prop} (h : B) : if (!true) = true then A else B := iteF h
theorem g_iteNF {A B : Prop} (h : A) : if (!false) = true then A else B := iteT h
theorem g_ite {b : Bool} {A B : Prop} (h1 : b = true → A) (h2 : b = false → B) : if b = true then A else B := by
  cases b with
  | true => exact iteT (h1 rfl)
  | false => exact iteF (h2 rfl)
/-- a new list, a new tuple -/
theorem same_new {H : Hp} {p : Addr} {o : HO} (h : H p = none) : Same H (upd H p o) := fun b z e => by
  rw [upd_ne (ne_of_none e h)]
  exact e
/-- a new list, a new tuple is laid -/
def NewL (xs : List V) (H : Hp) (Q : VK) : Prop := xs.length ≤ sizeLine ∧ ∀ p, H p = none → Q (.ref p) (upd H p (.lst xs))
def NewT (xs : List V) (H : Hp) (Q : VK) : Prop := xs.length ≤ sizeLine ∧ ∀ p, H p = none → Q (.ref p) (upd H p (.tup xs))
theorem g_newL {xs : List V} (hl : xs.length ≤ sizeLine) (q : ∀ p H2, H p = none → Same H H2 → H2 p = some (.lst xs) → Q (.ref p) H2) : NewL xs H Q :=
  ⟨hl, fun p hp => q p _ hp (same_new hp) upd_same⟩
theorem g_newT {xs : List V} (hl : xs.length ≤ sizeLine) (q : ∀ p H2, H p = none → Same H H2 → H2 p = some (.tup xs) → Q (.ref p) H2) : NewT xs H Q :=
  ⟨hl, fun p hp => q p _ hp (same_new hp) upd_same⟩
theorem g_lst (q : tr σ H fun xs H1 => NewL xs H1 Q) : tLst tr σ H Q := q
theorem g_tup (q : tr σ H fun xs H1 => NewT xs H1 Q) : tTup tr σ H Q := q
/-- a list and a list, one behind another -/
theorem g_cat {l b : Addr} {xs zs : List V} (h1 : H l = some (.lst xs)) (h2 : H b = some (.lst zs)) (hz : xs.length + zs.length ≤ sizeLine)
    (q : ∀ p H2, H p = none → Same H H2 → H2 p = some (.lst (xs ++ zs)) → Q (.ref p) H2) : rAddU (.ref l) (.ref b) H Q :=
  .inr ⟨l, b, xs, zs, rfl, rfl, h1, h2, hz, fun p hp => q p _ hp (same_new hp) upd_same⟩
theorem g_rep {l : Addr} {k : Int} {xs : List V} (h1 : H l = some (.lst xs)) (k0 : 0 ≤ k) (k1 : k ≤ 1000) (hz : xs.length * k.toNat ≤ sizeLine)
    (q : ∀ p H2, H p = none → Same H H2 → H2 p = some (.lst (List.replicate k.toNat xs).flatten) → Q (.ref p) H2) : rMulU (.ref l) (.int k) H Q :=
  .inr ⟨l, k, xs, rfl, rfl, h1, by omega, by omega, hz, fun p hp => q p _ hp (same_new hp) upd_same⟩
/-- built-in functions, their readings by name -/
def rIntU : List V → Hp → VK → Prop := fun xs H Q => (∃ i, xs = [.int i] ∧ Q (.int i) H) ∨ ∃ k, xs = [.bl k] ∧ Q (.int (if k then 1 else 0)) H
theorem call_intU {X : Cx} : CallR X (.type "int") rIntU := call_int1
def rAbsU : List V → Hp → VK → Prop := fun xs H Q => ∃ i, xs = [.int i] ∧ Q (.int (if i < 0 then -i else i)) H
theorem call_absU {X : Cx} : CallR X (.builtin "abs") rAbsU := call_abs
def rLenU (K : PySem.W.Frag) : List V → Hp → VK → Prop := fun xs H Q => ∃ x n, xs = [x] ∧ LenV K x H n ∧ Q (.int (n : Nat)) H
theorem call_lenU {X : Cx} : CallR X (.builtin "len") (rLenU X.K) := call_len
def rReprU (K : PySem.W.Frag) : List V → Hp → VK → Prop := fun xs H Q => ∃ (v : V) (d : PyData), xs = [v] ∧ Dp K H v d ∧
    d.showable = true ∧ d.hasDict = false ∧ d.depth ≤ 60 ∧ d.shown.length ≤ sizeLine ∧ Q (.str d.shown) H
theorem call_reprU {X : Cx} (hA : X.A.guards = some []) (hu : X.A.units + 64 < cLine) : CallR X (.builtin "repr") (rReprU X.K) := by
  intro pins s σ H xs us Q I r h
  obtain ⟨v, d, rfl, hd, hs, hn, hdep, hz, q⟩ := h
  have arm := @call_reprD X hA hu pins s σ H [v] us Q I r
  obtain ⟨u, rfl, rx⟩ := vals1 r
  cases hd with
  | non =>
    cases (show u = Value.none from rx)
    exact PySem.P.repr_of_none ⟨.str _, H, I.tok _, ⟨_, rfl⟩, q⟩
  | bl b =>
    cases (show u = Value.bool b from rx)
    exact PySem.P.repr_of_bool ⟨.str _, H, I.tok _, ⟨_, rfl⟩, q⟩
  | int i =>
    obtain ⟨t, rfl⟩ := (show ∃ t, u = Value.int i t from rx)
    exact PySem.P.repr_of_int (of_decide_eq_true hs) ⟨.str _, H, I.tok _, ⟨_, rfl⟩, q⟩
  | str x =>
    obtain ⟨t, rfl⟩ := (show ∃ t, u = Value.str x t from rx)
    exact PySem.P.repr_of_str ⟨.str _, H, I.tok _, ⟨_, rfl⟩, q⟩ hz
  | lst h1 h2 => exact arm ⟨_, _, rfl, .lst h1 h2, hs, hn, hdep, hz, q⟩
  | tup h1 h2 => exact arm ⟨_, _, rfl, .tup h1 h2, hs, hn, hdep, hz, q⟩
theorem g_int {i : Int} (q : Q (.int i) H) : rIntU [.int i] H Q := .inl ⟨i, rfl, q⟩
theorem g_intB {k : Bool} (q : Q (.int (if k then 1 else 0)) H) : rIntU [.bl k] H Q := .inr ⟨k, rfl, q⟩
theorem g_abs {i : Int} (q : Q (.int (if i < 0 then -i else i)) H) : rAbsU [.int i] H Q := ⟨i, rfl, q⟩
theorem g_isNn (q : Q (.bl true) H) : rIsN .non .non H Q := ⟨rfl, q⟩
theorem g_isNi {i : Int} (q : Q (.bl false) H) : rIsN (.int i) .non H Q := ⟨rfl, by simpa using q⟩
theorem g_repr {d : PyData} (h : Dp K H v d) (h1 : d.showable = true) (h2 : d.hasDict = false) (h3 : d.depth ≤ 60) (h4 : d.shown.length ≤ sizeLine) (q : Q (.str d.shown) H) : rReprU K [v] H Q :=
  ⟨v, d, rfl, h, h1, h2, h3, h4, q⟩
end

/-! ### what is kept but at q -/
structure SameX (q : Addr) (H H' : Hp) : Prop where
  kept : ∀ b o, b ≠ q → H b = some o → H' b = some o
  cell : ∀ c t r, H q = some (.lst [.ref c, t, r]) → ∃ t' r', H' q = some (.lst [.ref c, t', r'])
instance {q : Addr} {H H' : Hp} : CoeFun (SameX q H H') (fun _ => ∀ b o, b ≠ q → H b = some o → H' b = some o) := ⟨SameX.kept⟩
theorem Same.x {q : Addr} {H H' : Hp} (s : Same H H') : SameX q H H' := ⟨fun b o _ e => s b o e, fun c t r e => ⟨t, r, s _ _ e⟩⟩
theorem SameX.refl (q : Addr) (H : Hp) : SameX q H H := ⟨fun _ _ _ e => e, fun c t r e => ⟨t, r, e⟩⟩
theorem SameX.trans {q : Addr} {H H1 H2 : Hp} (a : SameX q H H1) (b : SameX q H1 H2) : SameX q H H2 := ⟨fun c o n e => b.kept c o n (a.kept c o n e), fun c t r e => by
  obtain ⟨t1, r1, e1⟩ := a.cell c t r e
  exact b.cell c t1 r1 e1⟩
theorem SameX.rd {q a : Addr} {H H' : Hp} {u : HO} (s : SameX q H H') (n : a ≠ q) (h : Rd H a u) : Rd H' a u := by
  rcases h with h | ⟨o, h⟩
  · exact .inl (s _ _ n h)
  · exact .inr ⟨o, s _ _ n h⟩
theorem SameX.seq {K : PySem.W.Frag} {q a : Addr} {H H' : Hp} {xs : List V} (s : SameX q H H') (n : a ≠ q) (h : SqL K H a xs) : SqL K H' a xs := by
  rcases h with h | h
  · exact .inl (s.rd n h)
  · exact .inr h
theorem SameX.tup {K : PySem.W.Frag} {q a : Addr} {H H' : Hp} {xs : List V} (s : SameX q H H') (n : a ≠ q) (h : SqT K H a xs) : SqT K H' a xs := by
  rcases h with h | h
  · exact .inl (s.rd n h)
  · exact .inr h
theorem seqU {K : PySem.W.Frag} {H : Hp} {a : Addr} {xs : List V} (h : H a = some (.lst xs)) : SqL K H a xs := .inl (.inl h)
theorem tupU {K : PySem.W.Frag} {H : Hp} {a : Addr} {xs : List V} (h : H a = some (.tup xs)) : SqT K H a xs := .inl (.inl h)

/-! ### what a value tells: any value of the laws' menus -/
mutual
inductive Dq (q : Addr) (K : PySem.W.Frag) (H : Hp) : V → PyData → Prop
  | non : Dq q K H .non .none
  | bl (b : Bool) : Dq q K H (.bl b) (.bool b)
  | int (i : Int) : Dq q K H (.int i) (.int i)
  | str (x : Str) : x.length ≤ 1000 → Dq q K H (.str x) (.str x)
  | lst {a : Addr} {xs : List V} {ds : List PyData} : a ≠ q → SqL K H a xs → DqAll q K H xs ds → Dq q K H (.ref a) (.list ds)
  | tup {a : Addr} {xs : List V} {ds : List PyData} : a ≠ q → SqT K H a xs → DqAll q K H xs ds → Dq q K H (.ref a) (.tuple ds)
  | dct {a : Addr} {kvs : List (Key × V)} : a ≠ q → H a = some (.dK kvs) → Dq q K H (.ref a) (.dict [])
inductive DqAll (q : Addr) (K : PySem.W.Frag) (H : Hp) : List V → List PyData → Prop
  | nil : DqAll q K H [] []
  | cons {v : V} {vs : List V} {d : PyData} {ds : List PyData} : Dq q K H v d → DqAll q K H vs ds → DqAll q K H (v :: vs) (d :: ds)
end
section
variable {q : Addr} {K : PySem.W.Frag} {H H' : Hp}
mutual
theorem Dq.go (s : SameX q H H') : ∀ {d : PyData} {v : V}, Dq q K H v d → Dq q K H' v d
  | _, _, .non => .non
  | _, _, .bl b => .bl b
  | _, _, .int i => .int i
  | _, _, .str x h => .str x h
  | _, _, .lst n h ha => .lst n (s.seq n h) (DqAll.go s ha)
  | _, _, .tup n h ha => .tup n (s.tup n h) (DqAll.go s ha)
  | _, _, .dct n h => .dct n (s _ _ n h)
theorem DqAll.go (s : SameX q H H') : ∀ {ds : List PyData} {vs : List V}, DqAll q K H vs ds → DqAll q K H' vs ds
  | _, _, .nil => .nil
  | _, _, .cons h t => .cons (Dq.go s h) (DqAll.go s t)
end
theorem DqAll.len : ∀ {vs : List V} {ds : List PyData}, DqAll q K H vs ds → vs.length = ds.length
  | _, _, .nil => rfl
  | _, _, .cons _ t => congrArg Nat.succ (DqAll.len t)
def noDct : PyData → Bool
  | .dict _ => false
  | .list ds | .tuple ds => all ds
  | _ => true
where all : List PyData → Bool
  | [] => true
  | d :: ds => noDct d && all ds
mutual
theorem Dq.dp : ∀ {d : PyData} {v : V}, Dq q K H v d → noDct d = true → Dp K H v d
  | _, _, .non, _ => .non
  | _, _, .bl b, _ => .bl b
  | _, _, .int i, _ => .int i
  | _, _, .str x h, _ => .str x
  | .list ds, _, .lst n h ha, e => .lst h (DqAll.dp ha (by unfold noDct at e; exact e))
  | .tuple ds, _, .tup n h ha, e => .tup h (DqAll.dp ha (by unfold noDct at e; exact e))
  | _, _, .dct n h, e => by unfold noDct at e; exact absurd e (by decide)
theorem DqAll.dp : ∀ {ds : List PyData} {vs : List V}, DqAll q K H vs ds → noDct.all ds = true → DpAll K H vs ds
  | _, _, .nil, _ => .nil
  | d :: ds, _, .cons h t, e => by
    unfold noDct.all at e
    rw [Bool.and_eq_true] at e
    exact .cons (Dq.dp h e.1) (DqAll.dp t e.2)
end
def tyN : PyData → String
  | .none => "NoneType"
  | .bool _ => "bool"
  | .int _ => "int"
  | .str _ => "str"
  | .list _ => "list"
  | .tuple _ => "tuple"
  | .dict _ => "dict"
theorem Dq.ty {d : PyData} {v : V} (h : Dq q K H v d) : TyX K H v (.type (tyN d)) := by
  cases h with
  | non => exact .base .non
  | bl b => exact .base (.bl b)
  | int i => exact .base (.int i)
  | str x => exact .base (.str x)
  | lst n h ha =>
    rcases h with (h | ⟨o, h⟩) | ⟨o, its, m, e, c, _⟩
    · exact .base (.lst h)
    · exact .base (.frz h)
    · exact .kList e c
  | tup n h ha =>
    rcases h with (h | ⟨o, h⟩) | ⟨o, its, m, e, c, _⟩
    · exact .base (.tup h)
    · exact .fTuple h
    · exact .kTuple e c
  | dct n h => exact .base (.dK h)
def isSeqD : PyData → Bool
  | .list _ | .tuple _ => true
  | _ => false
def isIntB : PyData → Bool
  | .int _ | .bool _ => true
  | _ => false
def isIntD : PyData → Bool
  | .int _ => true
  | _ => false
def posD : PyData → Bool
  | .int i => decide (1 ≤ i)
  | _ => false
def isFrD : PyData → Bool
  | .int _ => true
  | .list [a, b] | .tuple [a, b] => isIntD a && posD b
  | _ => false
theorem kit_seq (d : PyData) : PySem.W.kitAny K (.type (tyN d)) [.type "list", .type "tuple"] = some (isSeqD d) := by
  cases d with
  | none => exact kitAny_cons (b := false) (r := false) (kit_ty (show kitB "NoneType" "list" = some false by decide +kernel)) (fun _ => kitAny_cons (b := false) (r := false) (kit_ty (show kitB "NoneType" "tuple" = some false by decide +kernel)) (fun _ => kitAny_nil) (fun z => by cases z)) (fun z => by cases z)
  | bool _ => exact kitAny_cons (b := false) (r := false) (kit_ty (show kitB "bool" "list" = some false by decide +kernel)) (fun _ => kitAny_cons (b := false) (r := false) (kit_ty (show kitB "bool" "tuple" = some false by decide +kernel)) (fun _ => kitAny_nil) (fun z => by cases z)) (fun z => by cases z)
  | int _ => exact kitAny_cons (b := false) (r := false) (kit_ty (show kitB "int" "list" = some false by decide +kernel)) (fun _ => kitAny_cons (b := false) (r := false) (kit_ty (show kitB "int" "tuple" = some false by decide +kernel)) (fun _ => kitAny_nil) (fun z => by cases z)) (fun z => by cases z)
  | str _ => exact kitAny_cons (b := false) (r := false) (kit_ty (show kitB "str" "list" = some false by decide +kernel)) (fun _ => kitAny_cons (b := false) (r := false) (kit_ty (show kitB "str" "tuple" = some false by decide +kernel)) (fun _ => kitAny_nil) (fun z => by cases z)) (fun z => by cases z)
  | list _ => exact kitAny_cons (b := true) (r := true) (kit_ty (show kitB "list" "list" = some true by decide +kernel)) (fun z => by cases z) (fun _ => rfl)
  | tuple _ => exact kitAny_cons (b := false) (r := true) (kit_ty (show kitB "tuple" "list" = some false by decide +kernel)) (fun _ => kitAny_cons (b := true) (r := true) (kit_ty (show kitB "tuple" "tuple" = some true by decide +kernel)) (fun z => by cases z) (fun _ => rfl)) (fun z => by cases z)
  | dict _ => exact kitAny_cons (b := false) (r := false) (kit_ty (show kitB "dict" "list" = some false by decide +kernel)) (fun _ => kitAny_cons (b := false) (r := false) (kit_ty (show kitB "dict" "tuple" = some false by decide +kernel)) (fun _ => kitAny_nil) (fun z => by cases z)) (fun z => by cases z)
theorem kit_int (d : PyData) : PySem.W.kitOne K (.type (tyN d)) (.type "int") = some (isIntB d) := by
  cases d with
  | none => exact kit_ty (show kitB "NoneType" "int" = some false by decide +kernel)
  | bool _ => exact kit_ty (show kitB "bool" "int" = some true by decide +kernel)
  | int _ => exact kit_ty (show kitB "int" "int" = some true by decide +kernel)
  | str _ => exact kit_ty (show kitB "str" "int" = some false by decide +kernel)
  | list _ => exact kit_ty (show kitB "list" "int" = some false by decide +kernel)
  | tuple _ => exact kit_ty (show kitB "tuple" "int" = some false by decide +kernel)
  | dict _ => exact kit_ty (show kitB "dict" "int" = some false by decide +kernel)
def isTupD : PyData → Bool
  | .tuple _ => true
  | _ => false
theorem kit_tuple (d : PyData) : PySem.W.kitOne K (.type (tyN d)) (.type "tuple") = some (isTupD d) := by
  cases d with
  | none => exact kit_ty (show kitB "NoneType" "tuple" = some false by decide +kernel)
  | bool _ => exact kit_ty (show kitB "bool" "tuple" = some false by decide +kernel)
  | int _ => exact kit_ty (show kitB "int" "tuple" = some false by decide +kernel)
  | str _ => exact kit_ty (show kitB "str" "tuple" = some false by decide +kernel)
  | list _ => exact kit_ty (show kitB "list" "tuple" = some false by decide +kernel)
  | tuple _ => exact kit_ty (show kitB "tuple" "tuple" = some true by decide +kernel)
  | dict _ => exact kit_ty (show kitB "dict" "tuple" = some false by decide +kernel)
def isBoolD : PyData → Bool
  | .bool _ => true
  | _ => false
theorem kit_bool (d : PyData) : PySem.W.kitOne K (.type (tyN d)) (.type "bool") = some (isBoolD d) := by
  cases d with
  | none => exact kit_ty (show kitB "NoneType" "bool" = some false by decide +kernel)
  | bool _ => exact kit_ty (show kitB "bool" "bool" = some true by decide +kernel)
  | int _ => exact kit_ty (show kitB "int" "bool" = some false by decide +kernel)
  | str _ => exact kit_ty (show kitB "str" "bool" = some false by decide +kernel)
  | list _ => exact kit_ty (show kitB "list" "bool" = some false by decide +kernel)
  | tuple _ => exact kit_ty (show kitB "tuple" "bool" = some false by decide +kernel)
  | dict _ => exact kit_ty (show kitB "dict" "bool" = some false by decide +kernel)
variable {Q : VK} {σ : L2.St} {te : TE}
def SeqQ (K : PySem.W.Frag) (v : V) (H : Hp) (Q : VK) : Prop := ∃ t b, TyX K H v (.type t) ∧ PySem.W.kitAny K (.type t) [.type "list", .type "tuple"] = some b ∧ Q (.bl b) H
theorem g_seqP (h : te σ H fun x H1 => SeqQ K x H1 Q) : tSeqP K te σ H Q := h
theorem g_seqQ {v : V} {d : PyData} (h : Dq q K H v d) (k : Q (.bl (isSeqD d)) H) : SeqQ K v H Q :=
  ⟨_, _, h.ty, kit_seq d, k⟩
theorem g_isiI {v : V} {d : PyData} (h : Dq q K H v d) (k : Q (.bl (isIntB d)) H) : rIsi K [v, .ty "int"] H Q :=
  ⟨v, .ty "int", _, _, _, rfl, .ty "int", h.ty, kit_int d, k⟩
theorem g_isiT {v : V} {d : PyData} (h : Dq q K H v d) (k : Q (.bl (isTupD d)) H) : rIsi K [v, .ty "tuple"] H Q :=
  ⟨v, .ty "tuple", _, _, _, rfl, .ty "tuple", h.ty, kit_tuple d, k⟩
theorem g_isiB {v : V} {d : PyData} (h : Dq q K H v d) (k : Q (.bl (isBoolD d)) H) : rIsi K [v, .ty "bool"] H Q :=
  ⟨v, .ty "bool", _, _, _, rfl, .ty "bool", h.ty, kit_bool d, k⟩
/-- a list or a tuple -/
def Sq (K : PySem.W.Frag) (H : Hp) (a : Addr) (xs : List V) : Prop := SqL K H a xs ∨ SqT K H a xs
theorem Sq.go {a : Addr} {xs : List V} (s : SameX q H H') (n : a ≠ q) (h : Sq K H a xs) : Sq K H' a xs := by
  rcases h with h | h
  · exact .inl (s.seq n h)
  · exact .inr (s.tup n h)
theorem Dq.seq {d : PyData} {v : V} (h : Dq q K H v d) (e : isSeqD d = true) : ∃ a xs ds, v = .ref a ∧ a ≠ q ∧ Sq K H a xs ∧ DqAll q K H xs ds ∧ (d = .list ds ∨ d = .tuple ds) := by
  cases h with
  | lst n h ha => exact ⟨_, _, _, rfl, n, .inl h, ha, .inl rfl⟩
  | tup n h ha => exact ⟨_, _, _, rfl, n, .inr h, ha, .inr rfl⟩
  | _ => cases e
theorem g_ix {a : Addr} {xs : List V} {i : Int} {v : V} (h : Sq K H a xs) (e : atI xs i = some v) (k : Q v H) : rIx K (.ref a) (.int i) H Q := by
  rcases h with h | h
  · exact .inl ⟨a, xs, i, v, rfl, rfl, h, e, k⟩
  · exact .inr (.inl ⟨a, xs, i, v, rfl, rfl, h, e, k⟩)
theorem g_len {a : Addr} {xs : List V} (h : Sq K H a xs) (k : Q (.int (xs.length : Int)) H) : rLenU K [.ref a] H Q := by
  rcases h with h | h
  · exact ⟨.ref a, xs.length, rfl, .inl ⟨xs, h, rfl⟩, k⟩
  · exact ⟨.ref a, xs.length, rfl, .inr ⟨xs, h, rfl⟩, k⟩
def valD : PyData → Int
  | .int i => i
  | _ => 0
/-- a bound, or none -/
def bdV : Option Int → V
  | none => .non
  | some i => .int i
def loB (l : Option Int) (i : Int) : Bool := match l with | none => true | some m => decide (m ≤ i)
def hiB (l : Option Int) (i : Int) : Bool := match l with | none => true | some m => decide (i ≤ m)
def wthD (d : PyData) (l m : Option Int) : Bool := isIntD d && (loB l (valD d) && hiB m (valD d))
def isPlD : PyData → Bool
  | .list [a, b] | .tuple [a, b] => isFrD a && isFrD b
  | _ => false
theorem posD_eq (d : PyData) : posD d = wthD d (some 1) none := by
  cases d with
  | int i =>
    show decide (1 ≤ i) = (true && (decide (1 ≤ i) && true))
    rw [Bool.true_and, Bool.and_true]
  | _ => rfl
theorem Dq.int_of {d : PyData} {v : V} (h : Dq q K H v d) (e : isIntD d = true) : v = .int (valD d) ∧ d = .int (valD d) := by
  cases h with
  | int i => exact ⟨rfl, rfl⟩
  | _ => cases e
theorem frD_two {d : PyData} {ds : List PyData} (e : d = .list ds ∨ d = .tuple ds) (n : ds.length ≠ 2) : isFrD d = false ∧ isPlD d = false := by
  rcases e with rfl | rfl
  all_goals
    match ds, n with
    | [], _ => exact ⟨rfl, rfl⟩
    | [_], _ => exact ⟨rfl, rfl⟩
    | [_, _], n => exact absurd rfl n
    | _ :: _ :: _ :: _, _ => exact ⟨rfl, rfl⟩
theorem frD_of {d x y : PyData} (e : d = .list [x, y] ∨ d = .tuple [x, y]) : isFrD d = (isIntD x && posD y) ∧ isPlD d = (isFrD x && isFrD y) := by
  rcases e with rfl | rfl <;> exact ⟨rfl, rfl⟩
theorem frD_no {d : PyData} (e : isIntD d = false) (n : isSeqD d = false) : isFrD d = false := by
  cases d with
  | int i => cases e
  | list ds => cases n
  | tuple ds => cases n
  | _ => rfl
theorem plD_no {d : PyData} (n : isSeqD d = false) : isPlD d = false := by
  cases d with
  | list ds => cases n
  | tuple ds => cases n
  | _ => rfl
theorem frD_int {d : PyData} (e : isIntD d = true) : isFrD d = true := by
  cases d with
  | int i => rfl
  | _ => cases e
theorem two_of {vs : List V} {ds : List PyData} (h : DqAll q K H vs ds) (e : vs.length = 2) : ∃ x y a b, vs = [x, y] ∧ ds = [a, b] ∧ Dq q K H x a ∧ Dq q K H y b := by
  cases h with
  | nil => cases e
  | cons h1 t => cases t with
    | nil => cases e
    | cons h2 t => cases t with
      | nil => exact ⟨_, _, _, _, rfl, rfl, h1, h2⟩
      | cons h3 t =>
        rw [List.length_cons, List.length_cons, List.length_cons] at e
        omega
theorem relR {vs : List V} {us : List Value} {ks : List Str} (r : Vals vs us) (_ : us.length = ks.length) : Vals vs.reverse us.reverse := r.reverse
theorem lenR {ps ks : List Str} (h : ps.length = ks.length) (vs : List V) (e : vs.reverse.length = ps.length) : vs.length = ks.length := by
  rw [List.length_reverse] at e
  omega
end
end Mf
namespace Mf
open PySem PySem.Spec PyProof.Rows L2
section
variable {K : PySem.W.Frag} {σ : L2.St} {H H1 : Hp} {Q : VK} {v x y : V} {ta tb te tl : TE} {tt : TT} {tr : TA} {g : TG} {vs : List Nat}
/-! ### slices, comprehensions -/
theorem g_sl {r : V → Option Int → Option Int → Hp → VK → Prop} {to th : TO} (q : te σ H fun x H1 => to σ H1 fun l H2 => th σ H2 fun u H3 => r x l u H3 Q) : tSl r te to th σ H Q := q
theorem g_noPart {R : Option Int → Hp → Prop} (q : R none H) : tNoPart σ H R := q
theorem g_part {R : Option Int → Hp → Prop} (q : te σ H fun x H1 => ∃ i, x = .int i ∧ R (some i) H1) : tPart te σ H R := q
theorem g_ii {i : Int} {R : Int → Prop} (q : R i) : ∃ j, V.int i = .int j ∧ R j := ⟨i, rfl, q⟩
theorem g_slL {a : Addr} {xs : List V} {lo hi : Option Int} (h : SqL K H a xs) (q : ∀ p H2, H p = none → Same H H2 → H2 p = some (.lst (cutV xs lo hi)) → Q (.ref p) H2) : rSlL K (.ref a) lo hi H Q :=
  ⟨a, xs, rfl, h, fun p hp => q p _ hp (same_new hp) upd_same⟩
theorem cut_ints (ns : List Int) (lo hi : Option Int) : ∃ ms : List Int, cutV (ns.map V.int) lo hi = ms.map V.int ∧ ms.length ≤ ns.length := by
  unfold cutV
  refine ⟨(ns.drop (HT.sIx (ns.map V.int).length 0 lo)).take (HT.sIx (ns.map V.int).length (ns.map V.int).length hi - HT.sIx (ns.map V.int).length 0 lo), ?_, ?_⟩
  · rw [List.map_take, List.map_drop]
  · rw [List.length_take, List.length_drop]
    omega
/-- what a comprehension asks once its walked thing is there -/
def LcGo (J : It) (g : TG) (tt : TT) (te : TE) (vs : List Nat) (σ : L2.St) (H1 : Hp) (Q : VK) : Prop := ∀ D, H1 D = none → ∃ W : Nat → Nat → Hp → Prop, (∃ m, W 0 m (upd H1 D (.lst []))) ∧
  ∀ i m H, W i m H → (J.stop i H ∧ Q (.ref D) H) ∨ (J.go i H ∧ ∃ Nx : Hp → Prop, (∀ H', Nx H' → ∃ m', m' < m ∧ W (i + 1) m' H') ∧
    ∀ x H', J.yld i H x H' → g x (wipe σ vs) H' fun σ2 H2 => wipe σ2 vs = wipe σ vs ∧ tt σ2 H2 fun b H3 =>
      if b = true then te σ2 H3 fun y H4 => ∃ acc, H4 D = some (.lst acc) ∧ acc.length < sizeLine ∧ Nx (upd H4 D (.lst (acc ++ [y]))) else Nx H3)
theorem g_lcL (q : tl σ H fun x H1 => ∃ a, x = .ref a ∧ (∃ xs, SqL K H1 a xs) ∧ LcGo (Itl K a) g tt te vs σ H1 Q) : tLc (iList K tl) g tt te vs σ H Q := q
theorem g_lcR (q : tr σ H fun us H1 => ∃ j : Int, us = [.int j] ∧ -(2 ^ 62) ≤ j ∧ j < 2 ^ 62 ∧ LcGo (Itr 0 j.toNat) g tt te vs σ H1 Q) : tLc (iRng1 tr) g tt te vs σ H Q := q
theorem lcgo_list {a : Addr} {xs : List V} {j : Nat} (Pv : Addr → Nat → Hp → Prop) (hw : ∀ x, wipe ((wipe σ vs).set j (some x)) vs = wipe σ vs)
    (h0 : ∀ D, H1 D = none → Pv D 0 (upd H1 D (.lst []))) (hl : ∀ D i H, i ≤ xs.length → Pv D i H → SqL K H a xs)
    (hs : ∀ D i x H, H1 D = none → xs[i]? = some x → Pv D i H → te ((wipe σ vs).set j (some x)) H fun y H4 => ∃ acc, H4 D = some (.lst acc) ∧ acc.length < sizeLine ∧ Pv D (i + 1) (upd H4 D (.lst (acc ++ [y]))))
    (hd : ∀ D H, H1 D = none → Pv D xs.length H → Q (.ref D) H) : LcGo (Itl K a) (gName j) tYes te vs σ H1 Q :=
  fun D hD => lc_list (xs := xs) (Pv D) (h0 D hD) (hl D) (fun i x H e p => ⟨hw x, hs D i x H hD e p⟩) (fun H p => hd D H hD p)
theorem lcgo_range {n j : Nat} (Pv : Addr → Nat → Hp → Prop) (hw : ∀ x, wipe ((wipe σ vs).set j (some x)) vs = wipe σ vs)
    (h0 : ∀ D, H1 D = none → Pv D 0 (upd H1 D (.lst [])))
    (hs : ∀ D i H, H1 D = none → i < n → Pv D i H → te ((wipe σ vs).set j (some (.int (0 + (i : Int))))) H fun y H4 => ∃ acc, H4 D = some (.lst acc) ∧ acc.length < sizeLine ∧ Pv D (i + 1) (upd H4 D (.lst (acc ++ [y]))))
    (hd : ∀ D H, H1 D = none → Pv D n H → Q (.ref D) H) : LcGo (Itr 0 n) (gName j) tYes te vs σ H1 Q :=
  fun D hD => lc_range (lo := 0) (n := n) (Pv D) (h0 D hD) (fun i H e p => ⟨hw _, hs D i H hD e p⟩) (fun H p => hd D H hD p)

/-! ### numbers -/
theorem g_mod {i j : Int} (h : 0 < j) (q : Q (.int (i % j)) H) : rI (fun _ j => 0 < j) (fun i j => .int (i % j)) (.int i) (.int j) H Q := ⟨i, j, rfl, rfl, h, q⟩
theorem g_div {i j : Int} (h : 0 < j) (h2 : j.natAbs.log2 < 9000) (q : Q (.int (i / j)) H) : rI CDivW (fun i j => .int (i / j)) (.int i) (.int j) H Q := ⟨i, j, rfl, rfl, ⟨h, h2⟩, q⟩
theorem g_pow {i j : Int} (h1 : 0 ≤ j) (h2 : j ≤ 1000000) (h : i.natAbs < 2 ^ 64) (q : Q (.int (i ^ j.toNat)) H) : rI CPow (fun i j => .int (i ^ j.toNat)) (.int i) (.int j) H Q := ⟨i, j, rfl, rfl, ⟨h1, h2, h⟩, q⟩
theorem g_mulL {i j : Int} (h1 : -(2 ^ 64) < i) (h2 : i < 2 ^ 64) (q : Q (.int (i * j)) H) : rMulU (.int i) (.int j) H Q := .inl ⟨i, j, rfl, rfl, .inl (.inl ⟨h1, h2⟩), q⟩
theorem g_mulR {i j : Int} (h1 : -(2 ^ 64) < j) (h2 : j < 2 ^ 64) (q : Q (.int (i * j)) H) : rMulU (.int i) (.int j) H Q := .inl ⟨i, j, rfl, rfl, .inl (.inr ⟨h1, h2⟩), q⟩
theorem g_mulW {i j : Int} (h : i.natAbs.log2 + j.natAbs.log2 < 1000000) (q : Q (.int (i * j)) H) : rMulU (.int i) (.int j) H Q := .inl ⟨i, j, rfl, rfl, .inr h, q⟩
theorem g_ltI {i j : Int} (q : Q (.bl (decide (i < j))) H) : rI0 (fun i j => .bl (decide (i < j))) (.int i) (.int j) H Q := ⟨i, j, rfl, rfl, q⟩
theorem g_neNil {c p : Addr} {ns : List Int} (h1 : SqL K H c (ns.map V.int)) (h2 : SqL K H p []) (q : Q (.bl (!ns.isEmpty)) H) : rNeU K (.ref c) (.ref p) H Q := by
  have dall : ∀ l : List Int, DpAll K H (l.map V.int) (l.map PyData.int) := fun l => by
    induction l with
    | nil => exact .nil
    | cons z r ih => exact .cons (.int z) ih
  have lay : ∀ l : List Int, PyData.canLayAll0 (l.map PyData.int) = true := fun l => by
    induction l with
    | nil => rfl
    | cons z r ih =>
      show (true && PyData.canLayAll0 (r.map PyData.int)) = true
      rw [ih]
      rfl
  have dep : ∀ l : List Int, PyData.depthAll (l.map PyData.int) ≤ 1 := fun l => by
    induction l with
    | nil => decide
    | cons z r ih =>
      rw [List.map_cons]
      simp only [PyData.depthAll, PyData.depth]
      omega
  refine .inr ⟨.list (ns.map PyData.int), .list [], .lst h1 (dall ns), .lst h2 .nil, ?_, by decide, ?_⟩
  · unfold SeqAt.shaped
    rw [Bool.and_eq_true]
    refine ⟨lay ns, decide_eq_true ?_⟩
    have := dep ns
    simp only [PyData.depth]
    omega
  · cases ns with
    | nil => exact q
    | cons z r => exact q
theorem g_sub {to ti : TE} {t : TSet} {R : L2.St → Hp → Prop} (q : to σ H fun o H1 => ti σ H1 fun i H2 => t o i v H2 fun H3 => R σ H3) : gSub to ti t v σ H R := q
theorem g_setL {p : Addr} {xs : List V} {k : Int} {j : Nat} {R : Hp → Prop} (h : H p = some (.lst xs)) (e : ixN xs.length k = some j) (q : R (upd H p (.lst (xs.set j v)))) : rSetL (.ref p) (.int k) v H R := ⟨p, xs, k, j, rfl, rfl, h, e, q⟩
theorem stir_bd {s t a b c : Int} (hs0 : 0 ≤ s) (hs : s < 2147483648) (ht0 : 0 ≤ t) (ht : t ≤ 1000000) (ha0 : 0 ≤ a) (ha : a ≤ 100000) (hb0 : 0 ≤ b) (hb : b ≤ 1000000) (hc0 : 0 ≤ c) (hc : c ≤ 1000000) :
    (s * (2 * t + a) + b * t * t + c).natAbs < 2 ^ 64 := by
  have h1 : s * (2 * t + a) ≤ 2147483648 * 2100000 := Int.mul_le_mul (by omega) (by omega) (by omega) (by omega)
  have h2 : 0 ≤ s * (2 * t + a) := Int.mul_nonneg hs0 (by omega)
  have h3 : b * t ≤ 1000000 * 1000000 := Int.mul_le_mul hb ht ht0 (by omega)
  have h4 : 0 ≤ b * t := Int.mul_nonneg hb0 ht0
  have h5 : b * t * t ≤ 1000000000000 * 1000000 := Int.mul_le_mul (by omega) ht ht0 (by omega)
  have h6 : 0 ≤ b * t * t := Int.mul_nonneg h4 ht0
  generalize s * (2 * t + a) = p at *
  generalize b * t * t = r at *
  omega
end

/-! ### what draws -/
/-- q holds the cells, how many were begun, what is left -/
def Qy (K : PySem.W.Frag) (q : Addr) (t : Int) (H : Hp) : Prop := ∃ (c : Addr) (ns : List Int) (r : Int), H q = some (.lst [.ref c, .int t, .int r]) ∧ H c = some (.lst (ns.map V.int)) ∧ c ≠ q ∧ ns.length ≤ 63 ∧ 0 ≤ r ∧ 0 ≤ t
theorem Qy.same {K : PySem.W.Frag} {q : Addr} {t : Int} {H H' : Hp} (s : Same H H') (h : Qy K q t H) : Qy K q t H' := by
  obtain ⟨c, ns, r, h1, h2, h3, h4, h5, h6⟩ := h
  exact ⟨c, ns, r, s _ _ h1, s _ _ h2, h3, h4, h5, h6⟩
theorem Qy.nn {K : PySem.W.Frag} {q : Addr} {t : Int} {H : Hp} (h : Qy K q t H) : 0 ≤ t := by
  obtain ⟨c, ns, r, h1, h2, h3, h4, h5, h6⟩ := h
  exact h6
theorem Qy.at {K : PySem.W.Frag} {q : Addr} {t : Int} {H : Hp} (h : Qy K q t H) : ∃ o, H q = some o := by
  obtain ⟨c, ns, r, h1, _⟩ := h
  exact ⟨_, h1⟩
theorem Qy.ne {K : PySem.W.Frag} {q p : Addr} {t : Int} {H : Hp} (h : Qy K q t H) (e : H p = none) : p ≠ q := by
  obtain ⟨o, h1⟩ := h.at
  exact (ne_of_none h1 e).symm
theorem upd_x {q c : Addr} {H : Hp} {t r t' r' : V} (h : H q = some (.lst [.ref c, t, r])) : SameX q H (upd H q (.lst [.ref c, t', r'])) := by
  refine ⟨fun b z n e => ?_, fun c2 t2 r2 e => ⟨t', r', ?_⟩⟩
  · rw [upd_ne n]
    exact e
  · rw [h] at e
    cases e
    exact upd_same
/-- the cells' address is not d -/
def Qn (q d : Addr) (H : Hp) : Prop := ∀ c t r, H q = some (.lst [.ref c, t, r]) → c ≠ d
theorem Qn.go {K : PySem.W.Frag} {q d : Addr} {t : Int} {H H' : Hp} (h : Qn q d H) (hq : Qy K q t H) (s : SameX q H H') : Qn q d H' := by
  obtain ⟨c, ns, r, h1, _⟩ := hq
  obtain ⟨t2, r2, e2⟩ := s.cell c _ _ h1
  intro c' t' r' e'
  rw [e2] at e'
  cases e'
  exact h c _ _ h1
theorem Qn.new {K : PySem.W.Frag} {q d : Addr} {t : Int} {H : Hp} (hq : Qy K q t H) (e : H d = none) : Qn q d H := by
  obtain ⟨c, ns, r, h1, h2, _⟩ := hq
  intro c' t' r' e'
  rw [h1] at e'
  cases e'
  exact ne_of_none h2 e
theorem Qy.upd {K : PySem.W.Frag} {q d : Addr} {t : Int} {H : Hp} {o : HO} (hq : Qy K q t H) (hn : Qn q d H) (n : d ≠ q) : Qy K q t (upd H d o) := by
  obtain ⟨c, ns, r, h1, h2, h3, h4, h5, h6⟩ := hq
  refine ⟨c, ns, r, ?_, ?_, h3, h4, h5, h6⟩
  · rw [upd_ne n.symm]
    exact h1
  · rw [upd_ne (hn c _ _ h1)]
    exact h2
theorem Qn.upd {K : PySem.W.Frag} {q d : Addr} {t : Int} {H : Hp} {o : HO} (hq : Qy K q t H) (hn : Qn q d H) (n : d ≠ q) : Qn q d (L2.upd H d o) := by
  intro c' t' r' e'
  rw [upd_ne n.symm] at e'
  exact hn c' t' r' e'
def sp_quay (K : PySem.W.Frag) : Sp := fun vs H Q _ => ∃ (a : Addr) (ns : List Int), vs = [.ref a] ∧ SqL K H a (ns.map V.int) ∧ ns.length ≤ 63 ∧ ∀ q H', Same H H' → H q = none → Qy K q 0 H' → Q (.ref q) H'
def sp_moor (K : PySem.W.Frag) : Sp := fun vs H Q _ => ∃ (q : Addr) (t n : Int), vs = [.ref q, .int n] ∧ Qy K q t H ∧ t ≤ 1000000 ∧ 0 < n ∧ n.natAbs.log2 < 9000 ∧
  ∀ t' H' i, SameX q H H' → Qy K q t' H' → t ≤ t' → t' ≤ t + 1 → 0 ≤ i → i < n → Q (.int i) H'
def sp_pick (K : PySem.W.Frag) : Sp := fun vs H Q _ => ∃ (q a : Addr) (t : Int) (xs : List V), vs = [.ref q, .ref a] ∧ Qy K q t H ∧ t ≤ 1000000 ∧ a ≠ q ∧ Sq K H a xs ∧ xs ≠ [] ∧ xs.length ≤ 1000 ∧
  ∀ t' H' x, SameX q H H' → Qy K q t' H' → t ≤ t' → t' ≤ t + 1 → x ∈ xs → Q x H'
end Mf
namespace Mf
open PySem PySem.Spec PyProof.Rows L2
/-! ### what a menu's items come to -/
def EvD (q : Addr) (K : PySem.W.Frag) (te : TE) (σ : L2.St) (H : Hp) (d : PyData) : Prop := ∀ H1, Same H H1 → ∀ Q : VK, (∀ v H2, Same H1 H2 → Dq q K H2 v d → Q v H2) → te σ H1 Q
def EvDs (q : Addr) (K : PySem.W.Frag) (ta : TA) (σ : L2.St) (H : Hp) (ds : List PyData) : Prop := ∀ H1, Same H H1 → ∀ Q : List V → Hp → Prop, (∀ vs H2, Same H1 H2 → DqAll q K H2 vs ds → Q vs H2) → ta σ H1 Q
section
variable {q : Addr} {K : PySem.W.Frag} {σ : L2.St} {H : Hp} {te tb : TE} {ta : TA} {d : PyData} {ds : List PyData}
theorem ed_var {i : Nat} {v : V} (e : σ[i]? = some (some v)) (h : Dq q K H v d) : EvD q K (tVar i) σ H d := fun H1 s Q k => ⟨v, e, k v H1 (Same.refl _) (h.go (Same.x s))⟩
theorem ed_int {i : Int} : EvD q K (tC (.int i)) σ H (.int i) := fun H1 _ Q k => k _ H1 (Same.refl _) (.int i)
theorem ed_bl {b : Bool} : EvD q K (tC (.bl b)) σ H (.bool b) := fun H1 _ Q k => k _ H1 (Same.refl _) (.bl b)
theorem ed_non : EvD q K (tC .non) σ H .none := fun H1 _ Q k => k _ H1 (Same.refl _) .non
theorem ed_str {x : Str} (h : x.length ≤ 1000) : EvD q K (tC (.str x)) σ H (.str x) := fun H1 _ Q k => k _ H1 (Same.refl _) (.str x h)
theorem ed_neg {i : Int} (h : EvD q K te σ H (.int i)) : EvD q K (tUn (rU fun i => .int (-i)) te) σ H (.int (-i)) := fun H1 s Q k => h H1 s _ fun v H2 s2 hd => by
  cases hd
  exact ⟨i, rfl, k _ H2 s2 (.int _)⟩
theorem ed_pow {i j : Int} (h1 : EvD q K te σ H (.int i)) (h2 : EvD q K tb σ H (.int j)) (c : CPow i j) : EvD q K (tOp (rI CPow fun i j => .int (i ^ j.toNat)) te tb) σ H (.int (i ^ j.toNat)) := fun H1 s Q k => h1 H1 s _ fun v H2 s2 hd => by
  cases hd
  exact h2 H2 (s.trans s2) _ fun v H3 s3 hd => by
    cases hd
    exact ⟨i, j, rfl, rfl, c, k _ H3 (s2.trans s3) (.int _)⟩
theorem ed_mul {i j : Int} (h1 : EvD q K te σ H (.int i)) (h2 : EvD q K tb σ H (.int j)) (c : CMulU i j) : EvD q K (tOp rMulU te tb) σ H (.int (i * j)) := fun H1 s Q k => h1 H1 s _ fun v H2 s2 hd => by
  cases hd
  exact h2 H2 (s.trans s2) _ fun v H3 s3 hd => by
    cases hd
    exact .inl ⟨i, j, rfl, rfl, c, k _ H3 (s2.trans s3) (.int _)⟩
theorem eds_nil : EvDs q K tNil σ H [] := fun H1 _ Q k => k [] H1 (Same.refl _) .nil
theorem eds_cons (h : EvD q K te σ H d) (t : EvDs q K ta σ H ds) : EvDs q K (tCons te ta) σ H (d :: ds) := fun H1 s Q k => h H1 s _ fun v H2 s2 hd => t H2 (s.trans s2) _ fun vs H3 s3 hds =>
  k (v :: vs) H3 (s2.trans s3) (.cons (hd.go (Same.x s3)) hds)
theorem ed_tup {o : HO} (hq : H q = some o) (h : EvDs q K ta σ H ds) (hl : ds.length ≤ 1000) : EvD q K (tTup ta) σ H (.tuple ds) := fun H1 s Q k => h H1 s _ fun vs H2 s2 hds =>
  ⟨by rw [hds.len]; exact Nat.le_of_lt (small1000 hl), fun p hp => k _ _ (s2.trans (same_new hp)) (.tup (ne_of_none ((s.trans s2) _ _ hq) hp).symm (tupU upd_same) (hds.go (Same.x (same_new hp))))⟩
theorem ed_lst {o : HO} (hq : H q = some o) (h : EvDs q K ta σ H ds) (hl : ds.length ≤ 1000) : EvD q K (tLst ta) σ H (.list ds) := fun H1 s Q k => h H1 s _ fun vs H2 s2 hds =>
  ⟨by rw [hds.len]; exact Nat.le_of_lt (small1000 hl), fun p hp => k _ _ (s2.trans (same_new hp)) (.lst (ne_of_none ((s.trans s2) _ _ hq) hp).symm (seqU upd_same) (hds.go (Same.x (same_new hp))))⟩
theorem ed_dict0 {o : HO} (hq : H q = some o) : EvD q K tDNewK σ H (.dict []) := fun H1 s Q k p hp => k _ _ (same_new hp) (.dct (ne_of_none (s _ _ hq) hp).symm upd_same)
theorem ed_dict2 {o : HO} (hq : H q = some o) {a b c d : Int} : EvD q K (tDisp [(tC (.int a), tC (.int b)), (tC (.int c), tC (.int d))]) σ H (.dict []) := fun H1 s Q k p hp =>
  ⟨upd_same, [(.inl a, .int b), (.inl c, .int d)], rfl, by show 2 ≤ 15; decide, by
    rw [upd_upd]
    exact k _ _ (same_new hp) (.dct (ne_of_none (s _ _ hq) hp).symm upd_same)⟩
/-- .. and used -/
theorem EvDs.run {Q : List V → Hp → Prop} (h : EvDs q K ta σ H ds) (k : ∀ vs H2, Same H H2 → DqAll q K H2 vs ds → Q vs H2) : ta σ H Q := h H (Same.refl _) Q k
theorem EvD.run {Q : VK} (h : EvD q K te σ H d) (k : ∀ v H2, Same H H2 → Dq q K H2 v d → Q v H2) : te σ H Q := h H (Same.refl _) Q k
theorem DqAll.mem : ∀ {vs : List V} {ds : List PyData} {x : V}, DqAll q K H vs ds → x ∈ vs → ∃ d ∈ ds, Dq q K H x d
  | _, _, _, .nil, h => absurd h List.not_mem_nil
  | _, _, _, .cons h t, hx => by
    rcases List.mem_cons.mp hx with rfl | hx
    · exact ⟨_, List.mem_cons_self, h⟩
    · obtain ⟨d, m, e⟩ := DqAll.mem t hx
      exact ⟨d, List.mem_cons_of_mem _ m, e⟩
theorem DqAll.app : ∀ {vs ws : List V} {ds es : List PyData}, DqAll q K H vs ds → DqAll q K H ws es → DqAll q K H (vs ++ ws) (ds ++ es)
  | _, _, _, _, .nil, h => h
  | _, _, _, _, .cons h t, h2 => .cons h (DqAll.app t h2)
/-- data that can be compared and shown -/
def okD (d : PyData) : Bool := noDct d && (d.canLay0 && decide (d.depth ≤ 60))
def okV (d : PyData) : Bool := match d with | .dict _ => true | d => okD d
def okO (d : PyData) : Bool := match d with | .list [a, b] | .tuple [a, b] => okD a && okD b | _ => true
end
theorem noDct_parts : ∀ {ds : List PyData}, noDct.all ds = true → ∀ d ∈ ds, noDct d = true
  | [], _, d, hd => absurd hd List.not_mem_nil
  | x :: r, h, d, hd => by
    unfold noDct.all at h
    rw [Bool.and_eq_true] at h
    rcases List.mem_cons.mp hd with rfl | hd
    · exact h.1
    · exact noDct_parts h.2 d hd
theorem lay_parts : ∀ {ds : List PyData}, PyData.canLayAll0 ds = true → PyData.depthAll ds ≤ 60 → ∀ d ∈ ds, d.canLay0 = true ∧ d.depth ≤ 60
  | [], _, _, d, hd => absurd hd List.not_mem_nil
  | x :: r, h, e, d, hd => by
    have h' : (x.canLay0 && PyData.canLayAll0 r) = true := h
    rw [Bool.and_eq_true] at h'
    simp only [PyData.depthAll] at e
    rcases List.mem_cons.mp hd with rfl | hd
    · exact ⟨h'.1, by omega⟩
    · exact lay_parts h'.2 (by omega) d hd
theorem okD_parts {d : PyData} {ds : List PyData} (e : d = .list ds ∨ d = .tuple ds) (h : okD d = true) : ∀ x ∈ ds, okD x = true := by
  unfold okD at h
  rw [Bool.and_eq_true, Bool.and_eq_true] at h
  obtain ⟨h1, h2, h3⟩ := h
  have h3 := of_decide_eq_true h3
  intro x hx
  have key : noDct.all ds = true ∧ PyData.canLayAll0 ds = true ∧ PyData.depthAll ds ≤ 60 := by
    rcases e with rfl | rfl
    all_goals
      unfold noDct at h1
      simp only [PyData.depth] at h3
      exact ⟨h1, h2, by omega⟩
  obtain ⟨k1, k2, k3⟩ := key
  have := lay_parts k2 k3 x hx
  unfold okD
  rw [Bool.and_eq_true, Bool.and_eq_true]
  exact ⟨noDct_parts k1 x hx, this.1, decide_eq_true this.2⟩
theorem okO_of {d : PyData} (h : okV d = true) : okO d = true := by
  unfold okO
  split
  · rename_i a b
    rw [Bool.and_eq_true]
    exact ⟨okD_parts (.inl rfl) h a (List.mem_cons_self), okD_parts (.inl rfl) h b (List.mem_cons_of_mem _ List.mem_cons_self)⟩
  · rename_i a b
    rw [Bool.and_eq_true]
    exact ⟨okD_parts (.inr rfl) h a (List.mem_cons_self), okD_parts (.inr rfl) h b (List.mem_cons_of_mem _ List.mem_cons_self)⟩
  · rfl
section
variable {q : Addr} {K : PySem.W.Frag} {H : Hp} {Q : VK} {σ : L2.St} {te : TE}
theorem okD_all : ∀ {ds : List PyData}, (∀ d ∈ ds, okD d = true) → noDct.all ds = true ∧ PyData.canLayAll0 ds = true ∧ PyData.depthAll ds ≤ 60
  | [], _ => ⟨rfl, rfl, by decide⟩
  | d :: ds, h => by
    have h1 := h d List.mem_cons_self
    obtain ⟨i1, i2, i3⟩ := okD_all fun e he => h e (List.mem_cons_of_mem _ he)
    unfold okD at h1
    rw [Bool.and_eq_true, Bool.and_eq_true] at h1
    obtain ⟨k1, k2, k3⟩ := h1
    have k3 := of_decide_eq_true k3
    refine ⟨?_, ?_, ?_⟩
    · unfold noDct.all
      rw [k1, i1]
      rfl
    · show (d.canLay0 && PyData.canLayAll0 ds) = true
      rw [k2, i2]
      rfl
    · simp only [PyData.depthAll]
      omega
/-- a list of such == [] -/
theorem g_eqNilD {c p : Addr} {vs : List V} {ds : List PyData} (h1 : SqL K H c vs) (hall : DqAll q K H vs ds) (hok : ∀ d ∈ ds, okD d = true) (h2 : SqL K H p []) (k : Q (.bl vs.isEmpty) H) : rEqU K (.ref c) (.ref p) H Q := by
  obtain ⟨i1, i2, i3⟩ := okD_all hok
  refine .inr ⟨.list ds, .list [], .lst h1 (hall.dp i1), .lst h2 .nil, ?_, by decide, ?_⟩
  · unfold SeqAt.shaped
    rw [Bool.and_eq_true]
    refine ⟨i2, decide_eq_true ?_⟩
    simp only [PyData.depth]
    omega
  · cases hall with
    | nil => exact k
    | cons _ _ => exact k
/-- what is reckoned apart -/
theorem cut_te {v : V} (h1 : ∀ Q : VK, Q v H → te σ H Q) (h2 : Q v H) : te σ H Q := h1 Q h2
theorem cut_teS {v : V} (h1 : ∀ Q : VK, (∀ H', Same H H' → Q v H') → te σ H Q) (h2 : ∀ H', Same H H' → Q v H') : te σ H Q := h1 Q h2
theorem bb_len : ∀ b c : Bool, (PyData.list [.bool b, .bool c]).shown.length ≤ sizeLine := by decide +kernel
theorem b_len : ∀ b : Bool, (PyData.bool b).shown.length ≤ sizeLine := by decide +kernel
theorem g_reprBB {p : Addr} {b c : Bool} (e : H p = some (.lst [.bl b, .bl c])) (k : Q (.str (PyData.list [.bool b, .bool c]).shown) H) : rReprU K [.ref p] H Q :=
  g_repr (.lst (seqU e) (.cons (.bl b) (.cons (.bl c) .nil))) rfl rfl (Nat.le_of_ble_eq_true rfl) (bb_len b c) k
theorem g_reprB {b : Bool} (k : Q (.str (PyData.bool b).shown) H) : rReprU K [.bl b] H Q := g_repr (.bl b) rfl rfl (Nat.le_of_ble_eq_true rfl) (b_len b) k
theorem g_neSs {x : Str} (k : Q (.bl false) H) : rNeU K (.str x) (.str x) H Q := g_neS (by rw [decide_eq_true rfl]; exact k)
theorem g_par {i j : Nat} {ta : TA} {D : Ends} (k : ta σ H fun vs H1 => ∃ u v, vs = [u, v] ∧ D.nx ((σ.set i (some u)).set j (some v)) H1) : tPar i j ta D σ H := k
theorem g_par3 {i j l : Nat} {ta : TA} {D : Ends} (k : ta σ H fun vs H1 => ∃ u v w, vs = [u, v, w] ∧ D.nx (((σ.set i (some u)).set j (some v)).set l (some w)) H1) : tPar3 i j l ta D σ H := k
theorem g_vv {x y : V} {P : V → V → Prop} (k : P x y) : ∃ u v, [x, y] = [u, v] ∧ P u v := ⟨x, y, rfl, k⟩
theorem g_vvv {x y z : V} {P : V → V → V → Prop} (k : P x y z) : ∃ u v w, [x, y, z] = [u, v, w] ∧ P u v w := ⟨x, y, z, rfl, k⟩
/-- a for over range(n) -/
theorem g_for1 {n : Int} {j : Nat} {tb : TS} {D : Ends} (hn : 0 ≤ n ∧ n ≤ 1000) (Pv : Nat → L2.St → Hp → Prop) (h0 : Pv 0 σ H)
    (hs : ∀ i σ H, i < n.toNat → Pv i σ H → tb ⟨Pv (i + 1), D.rt, D.nx, Pv (i + 1)⟩ (σ.set j (some (.int (0 + (i : Int))))) H) (hd : ∀ σ H, Pv n.toNat σ H → D.nx σ H) :
    tFor (iRng1 (tCons (tC (.int n)) tNil)) (gName j) tb D σ H :=
  ⟨n, rfl, by omega, by omega, for_range (lo := 0) (n := n.toNat) Pv h0 (fun i σ H hi p => hs i σ H hi p) hd⟩
theorem mem_bd {x : V} {ls : List (Option Int)} (h : x ∈ ls.map bdV) : ∃ l, x = bdV l := by
  obtain ⟨l, _, e⟩ := List.mem_map.mp h
  exact ⟨l, e.symm⟩
end
section
variable {K : PySem.W.Frag} {σ : L2.St} {H H1 : Hp} {Q : VK} {te : TE} {tt : TT} {vs : List Nat}
theorem g_lcO1 {g : TG} {tl : TE} (q : tl σ H fun x H1 => ∃ a, x = .ref a ∧ (∃ xs, SqL K H1 a xs) ∧ LcGo (Itl K a) g tt te vs σ H1 Q) : tLc (fun σ H R => iList K tl σ H R ∨ iTup K tl σ H R) g tt te vs σ H Q := .inl q
theorem g_lcO2 {g : TG} {tl : TE} (q : tl σ H fun x H1 => ∃ a, x = .ref a ∧ (∃ xs, SqT K H1 a xs) ∧ LcGo (Itt K a) g tt te vs σ H1 Q) : tLc (fun σ H R => iList K tl σ H R ∨ iTup K tl σ H R) g tt te vs σ H Q := .inr q
/-- .. with a test -/
theorem lcgo_listF {a : Addr} {xs : List V} {j : Nat} (Pv : Addr → Nat → Hp → Prop) (hw : ∀ x, wipe ((wipe σ vs).set j (some x)) vs = wipe σ vs)
    (h0 : ∀ D, H1 D = none → Pv D 0 (upd H1 D (.lst []))) (hl : ∀ D i H, i ≤ xs.length → Pv D i H → SqL K H a xs)
    (hs : ∀ D i x H, H1 D = none → xs[i]? = some x → Pv D i H → tt ((wipe σ vs).set j (some x)) H fun b H3 => if b = true then te ((wipe σ vs).set j (some x)) H3 fun y H4 => ∃ acc, H4 D = some (.lst acc) ∧ acc.length < sizeLine ∧ Pv D (i + 1) (upd H4 D (.lst (acc ++ [y]))) else Pv D (i + 1) H3)
    (hd : ∀ D H, H1 D = none → Pv D xs.length H → Q (.ref D) H) : LcGo (Itl K a) (gName j) tt te vs σ H1 Q :=
  fun D hD => lc_list (xs := xs) (Pv D) (h0 D hD) (hl D) (fun i x H e p => ⟨hw x, hs D i x H hD e p⟩) (fun H p => hd D H hD p)
theorem lcgo_tupF {a : Addr} {xs : List V} {j : Nat} (Pv : Addr → Nat → Hp → Prop) (hw : ∀ x, wipe ((wipe σ vs).set j (some x)) vs = wipe σ vs)
    (h0 : ∀ D, H1 D = none → Pv D 0 (upd H1 D (.lst []))) (hl : ∀ D i H, i ≤ xs.length → Pv D i H → SqT K H a xs)
    (hs : ∀ D i x H, H1 D = none → xs[i]? = some x → Pv D i H → tt ((wipe σ vs).set j (some x)) H fun b H3 => if b = true then te ((wipe σ vs).set j (some x)) H3 fun y H4 => ∃ acc, H4 D = some (.lst acc) ∧ acc.length < sizeLine ∧ Pv D (i + 1) (upd H4 D (.lst (acc ++ [y]))) else Pv D (i + 1) H3)
    (hd : ∀ D H, H1 D = none → Pv D xs.length H → Q (.ref D) H) : LcGo (Itt K a) (gName j) tt te vs σ H1 Q :=
  fun D hD => lc_tup (xs := xs) (Pv D) (h0 D hD) (hl D) (fun i x H e p => ⟨hw x, hs D i x H hD e p⟩) (fun H p => hd D H hD p)
end
end Mf
namespace Mf
open PySem PySem.Spec PyProof.Rows L2
/-! ### fractions: the mathematics -/
theorem red_num (u d : Int) (h : 1 ≤ d) : u / ((Nat.gcd u.natAbs d.natAbs : Nat) : Int) = (Rat.divInt u d).num := by
  rw [Rat.num_divInt, Int.sign_eq_one_of_pos (by omega), Int.one_mul]
  show _ = u / ((Nat.gcd d.natAbs u.natAbs : Nat) : Int)
  rw [Nat.gcd_comm]
theorem red_den (u d : Int) (h : 1 ≤ d) : d / ((Nat.gcd u.natAbs d.natAbs : Nat) : Int) = ((Rat.divInt u d).den : Int) := by
  rw [Rat.den_divInt, if_neg (by omega)]
  show _ = ((d.natAbs / Nat.gcd d.natAbs u.natAbs : Nat) : Int)
  rw [Nat.gcd_comm, Int.natCast_ediv, Int.natAbs_of_nonneg (by omega : 0 ≤ d)]
theorem num_le (u d : Int) (h : 1 ≤ d) : (Rat.divInt u d).num.natAbs ≤ u.natAbs := by
  rw [← red_num u d h]
  exact Int.natAbs_ediv_le_natAbs _ _
theorem den_le (u d : Int) (h : 1 ≤ d) : (Rat.divInt u d).den ≤ d.natAbs := by
  rw [Rat.den_divInt, if_neg (by omega)]
  exact Nat.div_le_self _ _
/-- x is below 2 ^ n -/
def Bt (n : Nat) (x : Int) : Prop := x.natAbs < 2 ^ n
theorem Bt.mono {m n : Nat} {x : Int} (h : Bt m x) (l : m ≤ n) : Bt n x := Nat.lt_of_lt_of_le h (Nat.pow_le_pow_right (by decide) l)
theorem Bt.mul {m n : Nat} {x y : Int} (h1 : Bt m x) (h2 : Bt n y) : Bt (m + n) (x * y) := by
  unfold Bt at *
  rw [Int.natAbs_mul, Nat.pow_add]
  exact Nat.mul_lt_mul'' h1 h2
theorem Bt.add {m : Nat} {x y : Int} (h1 : Bt m x) (h2 : Bt m y) : Bt (m + 1) (x + y) := by
  unfold Bt at *
  have := Int.natAbs_add_le x y
  rw [Nat.pow_succ]
  omega
theorem Bt.neg {m : Nat} {x : Int} (h : Bt m x) : Bt m (-x) := by
  unfold Bt at *
  rw [Int.natAbs_neg]
  exact h
theorem Bt.sub {m : Nat} {x y : Int} (h1 : Bt m x) (h2 : Bt m y) : Bt (m + 1) (x - y) := by
  rw [Int.sub_eq_add_neg]
  exact h1.add h2.neg
theorem Bt.log {n : Nat} {x : Int} (h : Bt n x) (l : n ≤ 8999) : x.natAbs.log2 < 9000 :=
  Nat.lt_of_le_of_lt (Nat.le_of_lt_succ (Nat.lt_of_lt_of_le (PySem.Flt.log2_lt_of (Nat.succ_pos _) (Nat.lt_of_lt_of_le h (Nat.pow_le_pow_right (by decide) l))) (Nat.le_refl _))) (by decide)
theorem Bt.show {n : Nat} {x : Int} (h : Bt n x) (l : n ≤ 1900) : x.natAbs.log2 < 1920 :=
  Nat.lt_of_lt_of_le (PySem.Flt.log2_lt_of (by decide : 0 < 1900) (Nat.lt_of_lt_of_le h (Nat.pow_le_pow_right (by decide) l))) (by decide)
theorem Bt.cm {m n : Nat} {x y : Int} (h1 : Bt m x) (h2 : Bt n y) (l : m + n ≤ 900000) : CMulU x y := by
  refine .inr (wide_mul (a := m + 1) (b := n + 1) ?_ ?_ (by omega) (by omega) (by omega))
  · exact Nat.lt_of_lt_of_le h1 (Nat.pow_le_pow_right (by decide) (by omega))
  · exact Nat.lt_of_lt_of_le h2 (Nat.pow_le_pow_right (by decide) (by omega))
/-- .. of a fraction -/
def Rb (n : Nat) (r : Rat) : Prop := Bt n r.num ∧ Bt n (r.den : Int)
theorem Rb.mono {m n : Nat} {r : Rat} (h : Rb m r) (l : m ≤ n) : Rb n r := ⟨h.1.mono l, h.2.mono l⟩
theorem Rb.of {n : Nat} {u d : Int} (hd : 1 ≤ d) (h1 : Bt n u) (h2 : Bt n d) : Rb n (Rat.divInt u d) := by
  refine ⟨Nat.lt_of_le_of_lt (num_le u d hd) h1, ?_⟩
  show ((Rat.divInt u d).den : Int).natAbs < _
  rw [Int.natAbs_natCast]
  exact Nat.lt_of_le_of_lt (den_le u d hd) h2
theorem den1 (r : Rat) : 1 ≤ (r.den : Int) := by
  have := r.den_pos
  omega
theorem add_div (r s : Rat) : Rat.divInt (r.num * s.den + s.num * r.den) (r.den * s.den) = r + s := by
  rw [Rat.add_def', ← Rat.divInt_ofNat, Int.natCast_mul]
theorem sub_div (r s : Rat) : Rat.divInt (r.num * s.den - s.num * r.den) (r.den * s.den) = r - s := by
  rw [Rat.sub_def', ← Rat.divInt_ofNat, Int.natCast_mul]
theorem mul_div (r s : Rat) : Rat.divInt (r.num * s.num) (r.den * s.den) = r * s := by
  rw [Rat.mul_def', ← Rat.divInt_ofNat, Int.natCast_mul]
theorem div_div (r s : Rat) : Rat.divInt (r.num * s.den) (s.num * r.den) = r / s := by
  have e : r / s = Rat.divInt r.num r.den * Rat.divInt s.den s.num := by
    rw [Rat.div_def, Rat.inv_def, Rat.num_divInt_den]
  rw [e, Rat.divInt_mul_divInt, Int.mul_comm (r.den : Int) s.num]
theorem div_neg (r s : Rat) : Rat.divInt (-r.num * s.den) (-s.num * r.den) = r / s := by
  rw [Int.neg_mul, Int.neg_mul, Rat.neg_divInt_neg, div_div]
theorem Rb.add {m n : Nat} {r s : Rat} (h : Rb m r) (k : Rb n s) : Rb (m + n + 1) (r + s) := by
  rw [← add_div]
  exact Rb.of (by have := den1 r; have := den1 s; exact Int.le_trans (by decide) (Int.mul_le_mul (show 1 ≤ (r.den : Int) from den1 r) (den1 s) (by decide) (by omega))) ((h.1.mul k.2).add ((k.1.mul h.2).mono (by omega))) ((h.2.mul k.2).mono (by omega))
theorem dd1 (r s : Rat) : 1 ≤ (r.den : Int) * s.den := Int.le_trans (by decide) (Int.mul_le_mul (den1 r) (den1 s) (by decide) (by have := den1 r; omega))
theorem Rb.sub {m n : Nat} {r s : Rat} (h : Rb m r) (k : Rb n s) : Rb (m + n + 1) (r - s) := by
  rw [← sub_div]
  exact Rb.of (dd1 r s) ((h.1.mul k.2).sub ((k.1.mul h.2).mono (by omega))) ((h.2.mul k.2).mono (by omega))
theorem Rb.mul {m n : Nat} {r s : Rat} (h : Rb m r) (k : Rb n s) : Rb (m + n) (r * s) := by
  rw [← mul_div]
  exact Rb.of (dd1 r s) (h.1.mul k.1) (h.2.mul k.2)
theorem Rb.div {m n : Nat} {r s : Rat} (h : Rb m r) (k : Rb n s) (hs : s ≠ 0) : Rb (m + n) (r / s) := by
  have hn : s.num ≠ 0 := fun e => hs (Rat.num_eq_zero.mp e)
  have d1 := den1 r
  by_cases hp : 0 < s.num
  · rw [← div_div]
    exact Rb.of (Int.le_trans (by decide) (Int.mul_le_mul (show 1 ≤ s.num by omega) d1 (by decide) (by omega))) (h.1.mul k.2) ((k.1.mul h.2).mono (by omega))
  · rw [← div_neg]
    exact Rb.of (Int.le_trans (by decide) (Int.mul_le_mul (show 1 ≤ -s.num by omega) d1 (by decide) (by omega))) (h.1.neg.mul k.2) ((k.1.neg.mul h.2).mono (by omega))

/-! ### fractions as values -/
def upD : PyData → Int
  | .int i => i
  | .list [a, _] | .tuple [a, _] => valD a
  | _ => 0
def dnD : PyData → Int
  | .list [_, b] | .tuple [_, b] => valD b
  | _ => 1
def valQ (d : PyData) : Rat := Rat.divInt (upD d) (dnD d)
/-- the reduced tuple -/
abbrev rv (r : Rat) : List V := [.int r.num, .int (r.den : Int)]
def rd (r : Rat) : PyData := .tuple [.int r.num, .int (r.den : Int)]
/-- v tells the fraction r, numbers below 2 ^ n -/
def Fr (q : Addr) (K : PySem.W.Frag) (H : Hp) (v : V) (r : Rat) (n : Nat) : Prop := ∃ d, Dq q K H v d ∧ isFrD d = true ∧ valQ d = r ∧ Bt n (upD d) ∧ Bt n (dnD d) ∧ 1 ≤ dnD d
theorem Fr.go {q : Addr} {K : PySem.W.Frag} {H H' : Hp} {v : V} {r : Rat} {n : Nat} (s : SameX q H H') (h : Fr q K H v r n) : Fr q K H' v r n := by
  obtain ⟨d, h1, h2⟩ := h
  exact ⟨d, h1.go s, h2⟩
theorem Fr.rb {q : Addr} {K : PySem.W.Frag} {H : Hp} {v : V} {r : Rat} {n : Nat} (h : Fr q K H v r n) : Rb n r := by
  obtain ⟨d, h1, h2, rfl, h4, h5, h6⟩ := h
  exact Rb.of h6 h4 h5
theorem Fr.mono {q : Addr} {K : PySem.W.Frag} {H : Hp} {v : V} {r : Rat} {m n : Nat} (h : Fr q K H v r m) (l : m ≤ n) : Fr q K H v r n := by
  obtain ⟨d, h1, h2, h3, h4, h5, h6⟩ := h
  exact ⟨d, h1, h2, h3, h4.mono l, h5.mono l, h6⟩
theorem rd_fr (r : Rat) : isFrD (rd r) = true := by
  show (true && decide (1 ≤ (r.den : Int))) = true
  rw [Bool.true_and]
  exact decide_eq_true (den1 r)
theorem rd_val (r : Rat) : valQ (rd r) = r := Rat.num_divInt_den r
theorem Fr.tup {q : Addr} {K : PySem.W.Frag} {H : Hp} {p : Addr} {r : Rat} {n : Nat} (h : SqT K H p (rv r)) (np : p ≠ q) (b : Rb n r) : Fr q K H (.ref p) r n :=
  ⟨rd r, .tup np h (.cons (.int _) (.cons (.int _) .nil)), rd_fr r, rd_val r, b.1, b.2, den1 r⟩
theorem Fr.int {q : Addr} {K : PySem.W.Frag} {H : Hp} {i : Int} {n : Nat} (b : Bt n i) (hn : 1 ≤ n) : Fr q K H (.int i) (Rat.divInt i 1) n :=
  ⟨.int i, .int i, rfl, rfl, b, Bt.mono (m := 1) (by show 1 < 2 ^ 1; decide) hn, by show (1 : Int) ≤ 1; omega⟩
/-- a new tuple tells it -/
def RetT (r : Rat) (H : Hp) (Q : VK) : Prop := ∀ p H', Same H H' → H p = none → H' p = some (.tup (rv r)) → Q (.ref p) H'
theorem RetT.same {r : Rat} {H H1 : Hp} {Q : VK} (k : RetT r H Q) (s : Same H H1) : RetT r H1 Q := fun p H' s' n e => k p H' (s.trans s') (s.free n) e
section
variable {K : PySem.W.Frag} {σ : L2.St} {H : Hp} {Q : VK}
theorem pg_or {X : Cx} {tg : Expr} {t1 t2 : TG} (h1 : PG X tg t1) (h2 : PG X tg t2) : PG X tg (fun v σ H Q => t1 v σ H Q ∨ t2 v σ H Q) := by
  refine ⟨fun pins s σ H v u Q I r h => ?_⟩
  cases h with
  | inl h => exact h1.run pins s σ H v u Q I r h
  | inr h => exact h2.run pins s σ H v u Q I r h
theorem g_tupG {a : Addr} {xs : List V} {n : Nat} {t : TGs} {R : L2.St → Hp → Prop} (h : SqT K H a xs) (hl : xs.length = n) (q : t xs σ H R) : gTup K n t (.ref a) σ H R := ⟨a, xs, rfl, h, hl, q⟩
theorem g_unl {a : Addr} {xs : List V} {n : Nat} {t : TGs} {R : L2.St → Hp → Prop} (h : SqL K H a xs) (hl : xs.length = n) (q : t xs σ H R) : gUnl K n t (.ref a) σ H R := ⟨a, xs, rfl, h, hl, q⟩
theorem g_consG {v : V} {vr : List V} {t : TG} {u : TGs} {R : L2.St → Hp → Prop} (q : t v σ H fun σ' H' => u vr σ' H' R) : gCons t u (v :: vr) σ H R := ⟨v, vr, rfl, q⟩
theorem g_nilG {R : L2.St → Hp → Prop} (q : R σ H) : gNil [] σ H R := ⟨rfl, q⟩
theorem g_seqG {a : Addr} {xs : List V} {n : Nat} {t : TGs} {R : L2.St → Hp → Prop} (h : Sq K H a xs) (hl : xs.length = n) (q : t xs σ H R) : (fun v σ H Q => gTup K n t v σ H Q ∨ gUnl K n t v σ H Q : TG) (.ref a) σ H R := by
  rcases h with h | h
  · exact .inr ⟨a, xs, rfl, h, hl, q⟩
  · exact .inl ⟨a, xs, rfl, h, hl, q⟩
theorem g_gcd {a b : Int} (q : Q (.int ((Nat.gcd a.natAbs b.natAbs : Nat) : Int)) H) : rGcd [.int a, .int b] H Q := ⟨a, b, rfl, q⟩
theorem g_mulU {i j : Int} (c : CMulU i j) (q : Q (.int (i * j)) H) : rMulU (.int i) (.int j) H Q := .inl ⟨i, j, rfl, rfl, c, q⟩
/-- reading a value: an int, or two ints -/
theorem posD_int {d : PyData} (h : posD d = true) : isIntD d = true ∧ 1 ≤ valD d := by
  cases d with
  | int i => exact ⟨rfl, of_decide_eq_true h⟩
  | _ => cases h
theorem Fr.cases {q : Addr} {v : V} {r : Rat} {n : Nat} (h : Fr q K H v r n) : (∃ i : Int, v = .int i ∧ Dq q K H v (.int i) ∧ r = Rat.divInt i 1 ∧ Bt n i) ∨
    ∃ a d x y, v = .ref a ∧ a ≠ q ∧ Dq q K H v d ∧ isIntD d = false ∧ isFrD d = true ∧ Sq K H a [.int x, .int y] ∧ 1 ≤ y ∧ r = Rat.divInt x y ∧ Bt n x ∧ Bt n y := by
  obtain ⟨d, h1, h2, h3, h4, h5, h6⟩ := h
  by_cases e : isSeqD d = true
  · obtain ⟨a, xs, ds, rfl, na, hs, hall, ed⟩ := h1.seq e
    by_cases e2 : ds.length = 2
    · obtain ⟨x, y, da, db, rfl, rfl, hx, hy⟩ := two_of hall (by rw [hall.len]; exact e2)
      have e3 := h2
      rw [(frD_of ed).1, Bool.and_eq_true] at e3
      obtain ⟨p1, p2⟩ := posD_int e3.2
      obtain ⟨rfl, ea⟩ := hx.int_of e3.1
      obtain ⟨rfl, eb⟩ := hy.int_of p1
      have u1 : upD d = valD da := by rcases ed with rfl | rfl <;> rfl
      have u2 : dnD d = valD db := by rcases ed with rfl | rfl <;> rfl
      have u3 : isIntD d = false := by rcases ed with rfl | rfl <;> rfl
      rw [u1] at h4
      rw [u2] at h5
      refine .inr ⟨a, d, valD da, valD db, rfl, na, h1, u3, h2, hs, p2, ?_, h4, h5⟩
      rw [← h3]
      unfold valQ
      rw [u1, u2]
    · rw [(frD_two ed e2).1] at h2
      cases h2
  · cases h1 with
    | int i => exact .inl ⟨i, rfl, .int i, h3.symm, h4⟩
    | lst _ _ _ => exact absurd rfl e
    | tup _ _ _ => exact absurd rfl e
    | _ => cases h2
end
/-! ### the promises -/
def sp_reduced (K : PySem.W.Frag) : Sp := fun vs H Q _ => ∃ (u d : Int), vs = [.int u, .int d] ∧ 1 ≤ d ∧ Bt 8000 d ∧ RetT (Rat.divInt u d) H Q
def sp_read (K : PySem.W.Frag) : Sp := fun vs H Q _ => ∃ q v part r n, vs = [v, part] ∧ Fr q K H v r n ∧ n ≤ 8000 ∧ RetT r H Q
def sp_frof (K : PySem.W.Frag) : Sp := fun vs H Q _ => ∃ q v r n, vs = [v] ∧ Fr q K H v r n ∧ n ≤ 8000 ∧ RetT r H Q
def sp_bin (f : Rat → Rat → Rat) (K : PySem.W.Frag) : Sp := fun vs H Q _ => ∃ q v1 v2 r1 r2 m n, vs = [v1, v2] ∧ Fr q K H v1 r1 m ∧ Fr q K H v2 r2 n ∧ m + n ≤ 7000 ∧ RetT (f r1 r2) H Q
def sp_divd (K : PySem.W.Frag) : Sp := fun vs H Q _ => ∃ q v1 v2 r1 r2 m n, vs = [v1, v2] ∧ Fr q K H v1 r1 m ∧ Fr q K H v2 r2 n ∧ m + n ≤ 7000 ∧ r2 ≠ 0 ∧ RetT (r1 / r2) H Q
end Mf
namespace Mf
open PySem PySem.Spec PyProof.Rows L2
/-! ### what the laws draw, and how they look -/
/-- numbers that can be shown -/
def Shw (d : PyData) : Prop := d.showable = true ∧ d.leavesShort 1921 = true
theorem shw_int {i : Int} {n : Nat} (b : Bt n i) (l : n ≤ 1900) : Shw (.int i) := by
  have h := b.show l
  refine ⟨decide_eq_true h, ?_⟩
  show decide ((PyData.shown (.int i)).length ≤ 1921) = true
  exact decide_eq_true (int_text_len_1921 h)
theorem int_w {i : Int} {n : Nat} (b : Bt n i) (l : n ≤ 1900) : (PyData.int i).weight ≤ 1921 := by
  have h := b.show l
  show (if (i == 0) = true then 0 else i.natAbs.log2 + 1) ≤ 1921
  split <;> omega
theorem shw_tup2 {a b : PyData} (h1 : Shw a) (h2 : Shw b) : Shw (.tuple [a, b]) := by
  constructor
  · show (a.showable && (b.showable && true)) = true
    rw [h1.1, h2.1] <;> rfl
  · show (a.leavesShort 1921 && (b.leavesShort 1921 && true)) = true
    rw [h1.2, h2.2] <;> rfl
theorem shw_lst2 {a b : PyData} (h1 : Shw a) (h2 : Shw b) : Shw (.list [a, b]) := by
  constructor
  · show (a.showable && (b.showable && true)) = true
    rw [h1.1, h2.1] <;> rfl
  · show (a.leavesShort 1921 && (b.leavesShort 1921 && true)) = true
    rw [h1.2, h2.2] <;> rfl
theorem Shw.len {d : PyData} (h : Shw d) (w : d.weight ≤ 8000) : d.shown.length ≤ sizeLine := by
  have := PyData.shown_le 1921 (by decide) d h.2
  have e : sizeLine = 16777216 := sizeLine_eq
  have : (1921 + 2) * d.weight ≤ (1921 + 2) * 8000 := Nat.mul_le_mul_left _ w
  omega
/-- what a fraction's data is -/
theorem fr_shape {d : PyData} (h : isFrD d = true) : (∃ i, d = .int i) ∨ ∃ x y, 1 ≤ y ∧ (d = .list [.int x, .int y] ∨ d = .tuple [.int x, .int y]) := by
  have two : ∀ a b : PyData, (isIntD a && posD b) = true → ∃ x y, 1 ≤ y ∧ a = .int x ∧ b = .int y := by
    intro a b e
    rw [Bool.and_eq_true] at e
    obtain ⟨p1, p2⟩ := posD_int e.2
    cases a with
    | int x => cases b with
      | int y => exact ⟨x, y, p2, rfl, rfl⟩
      | _ => cases p1
    | _ => cases e.1
  cases d with
  | int i => exact .inl ⟨i, rfl⟩
  | list ds =>
    match ds, h with
    | [a, b], h =>
      obtain ⟨x, y, h1, rfl, rfl⟩ := two a b h
      exact .inr ⟨x, y, h1, .inl rfl⟩
    | [], h => cases h
    | [_], h => cases h
    | _ :: _ :: _ :: _, h => cases h
  | tuple ds =>
    match ds, h with
    | [a, b], h =>
      obtain ⟨x, y, h1, rfl, rfl⟩ := two a b h
      exact .inr ⟨x, y, h1, .inr rfl⟩
    | [], h => cases h
    | [_], h => cases h
    | _ :: _ :: _ :: _, h => cases h
  | _ => cases h
theorem fr_dn {d : PyData} (h : isFrD d = true) : 1 ≤ dnD d := by
  rcases fr_shape h with ⟨i, rfl⟩ | ⟨x, y, hy, rfl | rfl⟩
  · show (1 : Int) ≤ 1; omega
  · exact hy
  · exact hy
theorem fr_shw {d : PyData} {n : Nat} (h : isFrD d = true) (b1 : Bt n (upD d)) (b2 : Bt n (dnD d)) (l : n ≤ 1900) : Shw d ∧ d.weight ≤ 3850 ∧ d.depth ≤ 5 ∧ noDct d = true ∧ d.hasDict = false ∧ d.canLay0 = true := by
  rcases fr_shape h with ⟨i, rfl⟩ | ⟨x, y, hy, rfl | rfl⟩
  · exact ⟨shw_int b1 l, Nat.le_trans (int_w b1 l) (by decide), by simp [PyData.depth], rfl, rfl, rfl⟩
  · exact ⟨shw_lst2 (shw_int b1 l) (shw_int b2 l), by have := int_w b1 l; have := int_w b2 l; simp only [upD, dnD, valD] at *; rw [PyData.weight]; simp only [PyData.weightAll]; omega, by simp [PyData.depth, PyData.depthAll], rfl, rfl, rfl⟩
  · exact ⟨shw_tup2 (shw_int b1 l) (shw_int b2 l), by have := int_w b1 l; have := int_w b2 l; simp only [upD, dnD, valD] at *; rw [PyData.weight]; simp only [PyData.weightAll]; omega, by simp [PyData.depth, PyData.depthAll], rfl, rfl, rfl⟩
section
variable {q : Addr} {K : PySem.W.Frag} {σ : L2.St} {H : Hp} {Q : VK}
theorem Fr.of {v : V} {d : PyData} {n : Nat} (h : Dq q K H v d) (f : isFrD d = true) (b1 : Bt n (upD d)) (b2 : Bt n (dnD d)) : Fr q K H v (valQ d) n := ⟨d, h, f, rfl, b1, b2, fr_dn f⟩
theorem cut_tt {t : TT} {R : Bool → Hp → Prop} {b : Bool} (h1 : ∀ R' : Bool → Hp → Prop, (∀ H', Same H H' → R' b H') → t σ H R') (h2 : ∀ H', Same H H' → R b H') : t σ H R := h1 R h2
/-- two tuples of one fraction -/
theorem g_neFF {p1 p2 : Addr} {r : Rat} (e1 : SqT K H p1 (rv r)) (e2 : SqT K H p2 (rv r)) (k : Q (.bl false) H) : rNeU K (.ref p1) (.ref p2) H Q := by
  refine .inr ⟨rd r, rd r, .tup e1 (.cons (.int _) (.cons (.int _) .nil)), .tup e2 (.cons (.int _) (.cons (.int _) .nil)), by rfl, by rfl, ?_⟩
  rw [SeqAt.eqv_refl (rd r) (by rfl)]
  exact k
/-- the text of a pair of ints, of two fractions -/
theorem g_reprT {p : Addr} {x y : Int} {n : Nat} (e : SqT K H p [.int x, .int y]) (bx : Bt n x) (by_ : Bt n y) (l : n ≤ 1900) (k : Q (.str (PyData.tuple [.int x, .int y]).shown) H) : rReprU K [.ref p] H Q :=
  g_repr (.tup e (.cons (.int _) (.cons (.int _) .nil))) (shw_tup2 (shw_int bx l) (shw_int by_ l)).1 rfl (by simp [PyData.depth, PyData.depthAll]) ((shw_tup2 (shw_int bx l) (shw_int by_ l)).len (by have := int_w bx l; have := int_w by_ l; rw [PyData.weight]; simp only [PyData.weightAll]; omega)) k
theorem g_reprFF {p : Addr} {v1 v2 : V} {d1 d2 : PyData} {n : Nat} (e : SqL K H p [v1, v2]) (h1 : Dq q K H v1 d1) (h2 : Dq q K H v2 d2) (f1 : isFrD d1 = true) (f2 : isFrD d2 = true)
    (b1 : Bt n (upD d1)) (b2 : Bt n (dnD d1)) (b3 : Bt n (upD d2)) (b4 : Bt n (dnD d2)) (l : n ≤ 1900) (k : Q (.str (PyData.list [d1, d2]).shown) H) : rReprU K [.ref p] H Q := by
  obtain ⟨s1, w1, e1, n1, g1, _⟩ := fr_shw f1 b1 b2 l
  obtain ⟨s2, w2, e2, n2, g2, _⟩ := fr_shw f2 b3 b4 l
  refine g_repr (.lst e (.cons (h1.dp n1) (.cons (h2.dp n2) .nil))) (shw_lst2 s1 s2).1 ?_ ?_ ((shw_lst2 s1 s2).len ?_) k
  · show (d1.hasDict || (d2.hasDict || false)) = false
    rw [g1, g2] <;> rfl
  · simp only [PyData.depth, PyData.depthAll]
    omega
  · rw [PyData.weight]
    simp only [PyData.weightAll]
    omega
end
theorem cross {r : Rat} {U D : Int} (hD : 1 ≤ D) (e : r = Rat.divInt U D) : r.num * D = U * r.den := by
  have h : Rat.divInt r.num r.den = Rat.divInt U D := by rw [Rat.num_divInt_den]; exact e
  exact (Rat.divInt_eq_divInt_iff (by have := den1 r; omega) (by omega)).mp h
theorem div_cross {a b c d : Int} : Rat.divInt a b / Rat.divInt c d = Rat.divInt (a * d * (if 0 < c then 1 else -1)) ((if c < 0 then -c else c) * b) ∨ c = 0 := by
  by_cases hc : c = 0
  · exact .inr hc
  · refine .inl ?_
    rw [Rat.div_def, Rat.inv_divInt, Rat.divInt_mul_divInt]
    by_cases h : 0 < c
    · rw [if_pos h, if_neg (by omega), Int.mul_one, Int.mul_comm b c]
    · rw [if_neg h, if_pos (by omega), Int.mul_neg, Int.mul_one, Int.neg_mul, Rat.neg_divInt_neg, Int.mul_comm b c]
theorem valQ_ne {d : PyData} (h : isFrD d = true) (hc : upD d ≠ 0) : valQ d ≠ 0 := by
  intro e
  have h1 := fr_dn h
  have e2 : Rat.divInt (upD d) (dnD d) = Rat.divInt 0 1 := by
    rw [Rat.zero_divInt]
    exact e
  have := (Rat.divInt_eq_divInt_iff (by omega) (by decide)).mp e2
  omega
theorem coprime_r (r : Rat) : Nat.gcd r.num.natAbs ((r.den : Int)).natAbs = 1 := by
  rw [Int.natAbs_natCast]
  exact r.reduced
/-- a drawn fraction; a pair; the law's own look at a fraction -/
def sp_lfrac (K : PySem.W.Frag) : Sp := fun vs H Q _ => ∃ (q : Addr) (t m : Int), vs = [.ref q, .int m] ∧ Qy K q t H ∧ t ≤ 999990 ∧ 1 ≤ m ∧ m ≤ 10000000000000000000000000000000000000000 ∧
  ∀ t' H' v d, SameX q H H' → Qy K q t' H' → t ≤ t' → t' ≤ t + 4 → Dq q K H' v d → isFrD d = true → Bt 140 (upD d) → Bt 140 (dnD d) → Q v H'
def sp_lpair (K : PySem.W.Frag) : Sp := fun vs H Q _ => ∃ (q : Addr) (v : V) (d : PyData), vs = [v] ∧ Dq q K H v d ∧ isFrD d = true ∧
  ∀ p H', Same H H' → H p = none → H' p = some (.tup [.int (upD d), .int (dnD d)]) → Q (.ref p) H'
def sp_lis (K : PySem.W.Frag) : Sp := fun vs H Q _ => ∃ (p : Addr) (U D : Int) (r : Rat) (n : Nat), vs = [.ref p, .int U, .int D] ∧ SqT K H p (rv r) ∧ 1 ≤ D ∧ r = Rat.divInt U D ∧ Rb n r ∧ Bt n U ∧ Bt n D ∧ n ≤ 1900 ∧ ∀ H', Same H H' → Q (.bl true) H'
theorem fr_pair {x y : Int} {n : Nat} (hy : 1 ≤ y) (bx : Bt n x) (b : Bt n y) : (isFrD (.tuple [.int x, .int y]) = true ∧ Bt n (upD (.tuple [.int x, .int y])) ∧ Bt n (dnD (.tuple [.int x, .int y]))) ∧
    (isFrD (.list [.int x, .int y]) = true ∧ Bt n (upD (.list [.int x, .int y])) ∧ Bt n (dnD (.list [.int x, .int y]))) := by
  have e : (true && decide (1 ≤ y)) = true := by rw [Bool.true_and]; exact decide_eq_true hy
  exact ⟨⟨e, bx, b⟩, ⟨e, bx, b⟩⟩
end Mf
namespace Mf
open PySem PySem.Spec PyProof.Rows L2
/-! ### drawn fractions by their addresses -/
/-- v tells x / y; where it is an object, its address is not among ex -/
def Fz (ex : Addr → Prop) (H : Hp) (v : V) (x y : Int) : Prop := (v = .int x ∧ y = 1) ∨ ∃ a, v = .ref a ∧ ¬ ex a ∧ (H a = some (.tup [.int x, .int y]) ∨ H a = some (.lst [.int x, .int y]))
theorem Fz.go {ex ex' : Addr → Prop} {H H' : Hp} {v : V} {x y : Int} (h : Fz ex H v x y) (s : ∀ b o, ¬ ex b → H b = some o → H' b = some o ∧ ¬ ex' b) : Fz ex' H' v x y := by
  rcases h with h | ⟨a, rfl, n, e⟩
  · exact .inl h
  · refine .inr ⟨a, rfl, ?_, ?_⟩
    · rcases e with e | e
      · exact (s _ _ n e).2
      · exact (s _ _ n e).2
    · rcases e with e | e
      · exact .inl (s _ _ n e).1
      · exact .inr (s _ _ n e).1
/-- the data -/
theorem Fz.dq {ex : Addr → Prop} {H : Hp} {v : V} {x y : Int} {q : Addr} {K : PySem.W.Frag} {n : Nat} (h : Fz ex H v x y) (hq : ex q) (hy : 1 ≤ y) (bx : Bt n x) (b : Bt n y) :
    ∃ d, Dq q K H v d ∧ isFrD d = true ∧ upD d = x ∧ dnD d = y := by
  rcases h with ⟨rfl, rfl⟩ | ⟨a, rfl, na, e | e⟩
  · exact ⟨.int x, .int x, rfl, rfl, rfl⟩
  · have na' : a ≠ q := fun z => na (z ▸ hq)
    exact ⟨.tuple [.int x, .int y], .tup na' (tupU e) (.cons (.int _) (.cons (.int _) .nil)), (fr_pair hy bx b).1.1, rfl, rfl⟩
  · have na' : a ≠ q := fun z => na (z ▸ hq)
    exact ⟨.list [.int x, .int y], .lst na' (seqU e) (.cons (.int _) (.cons (.int _) .nil)), (fr_pair hy bx b).2.1, rfl, rfl⟩
def sp_lfz (K : PySem.W.Frag) : Sp := fun vs H Q _ => ∃ (q : Addr) (t m : Int), vs = [.ref q, .int m] ∧ Qy K q t H ∧ t ≤ 999990 ∧ 1 ≤ m ∧ m ≤ 10000000000000000000000000000000000000000 ∧
  ∀ t' H' v x y, SameX q H H' → Qy K q t' H' → t ≤ t' → t' ≤ t + 4 → Fz (fun a => H a ≠ none) H' v x y → 1 ≤ y → Bt 140 x → Bt 140 y → Q v H'
/-- several -/
structure Fq where
  x : Int
  y : Int
  pos : 1 ≤ y
  bx : Bt 140 x
  by_ : Bt 140 y
inductive FzAll (ex : Addr → Prop) (H : Hp) : List V → List Fq → Prop
  | nil : FzAll ex H [] []
  | cons {v : V} {vs : List V} {f : Fq} {fs : List Fq} : Fz ex H v f.x f.y → FzAll ex H vs fs → FzAll ex H (v :: vs) (f :: fs)
theorem FzAll.go {ex ex' : Addr → Prop} {H H' : Hp} (s : ∀ b o, ¬ ex b → H b = some o → H' b = some o ∧ ¬ ex' b) : ∀ {vs : List V} {fs : List Fq}, FzAll ex H vs fs → FzAll ex' H' vs fs
  | _, _, .nil => .nil
  | _, _, .cons h t => .cons (h.go s) (FzAll.go s t)
theorem FzAll.app {ex : Addr → Prop} {H : Hp} {v : V} {f : Fq} (h : Fz ex H v f.x f.y) : ∀ {vs : List V} {fs : List Fq}, FzAll ex H vs fs → FzAll ex H (vs ++ [v]) (fs ++ [f])
  | _, _, .nil => .cons h .nil
  | _, _, .cons g t => .cons g (FzAll.app h t)
theorem FzAll.len {ex : Addr → Prop} {H : Hp} : ∀ {vs : List V} {fs : List Fq}, FzAll ex H vs fs → vs.length = fs.length
  | _, _, .nil => rfl
  | _, _, .cons _ t => congrArg Nat.succ (FzAll.len t)
def Fq.q (f : Fq) : Rat := Rat.divInt f.x f.y
theorem FzAll.dq {ex : Addr → Prop} {H : Hp} {q : Addr} {K : PySem.W.Frag} (hq : ex q) : ∀ {vs : List V} {fs : List Fq}, FzAll ex H vs fs →
    ∃ ds, DqAll q K H vs ds ∧ (∀ d ∈ ds, isFrD d = true ∧ Bt 140 (upD d) ∧ Bt 140 (dnD d)) ∧ ds.map valQ = fs.map Fq.q
  | _, _, .nil => ⟨[], .nil, fun _ h => absurd h List.not_mem_nil, rfl⟩
  | _, _, .cons (f := f) h t => by
    obtain ⟨ds, h1, h2, h3⟩ := FzAll.dq (K := K) hq t
    obtain ⟨d, k1, k2, k3, k4⟩ := h.dq (K := K) hq f.pos f.bx f.by_
    refine ⟨d :: ds, .cons k1 h1, ?_, ?_⟩
    · intro e he
      rcases List.mem_cons.mp he with rfl | he
      · exact ⟨k2, by rw [k3]; exact f.bx, by rw [k4]; exact f.by_⟩
      · exact h2 e he
    · rw [List.map_cons, List.map_cons, h3]
      show valQ d :: _ = f.q :: _
      unfold valQ Fq.q
      rw [k3, k4]
/-! ### sums -/
def sumQ (rs : List Rat) : Rat := rs.foldl (· + ·) 0
theorem sumQ_snoc (rs : List Rat) (r : Rat) : sumQ (rs ++ [r]) = sumQ rs + r := by
  unfold sumQ
  rw [List.foldl_append]
  rfl
theorem Rb_fold : ∀ (rs : List Rat) (r0 : Rat) (m : Nat), Rb m r0 → (∀ r ∈ rs, Rb 140 r) → Rb (m + 141 * rs.length) (rs.foldl (· + ·) r0)
  | [], r0, m, h0, _ => h0
  | r :: rs, r0, m, h0, h => by
    have h1 := Rb_fold rs (r0 + r) (m + 140 + 1) (h0.add (h r List.mem_cons_self)) fun e he => h e (List.mem_cons_of_mem _ he)
    exact h1.mono (by rw [List.length_cons]; omega)
theorem Rb0 : Rb 1 0 := ⟨by show (0 : Int).natAbs < _; decide, by show ((1 : Nat) : Int).natAbs < _; decide⟩
theorem Rb_sum (rs : List Rat) (h : ∀ r ∈ rs, Rb 140 r) : Rb (1 + 141 * rs.length) (sumQ rs) := Rb_fold rs 0 1 Rb0 h
/-- the sum of a list or tuple of fractions -/
def sp_sum (K : PySem.W.Frag) : Sp := fun vs H Q _ => ∃ (q p : Addr) (xs : List V) (ds : List PyData), vs = [.ref p] ∧ H q ≠ none ∧ p ≠ q ∧ Sq K H p xs ∧ DqAll q K H xs ds ∧ (∀ d ∈ ds, isFrD d = true ∧ Bt 140 (upD d) ∧ Bt 140 (dnD d)) ∧ ds.length ≤ 9 ∧ RetT (sumQ (ds.map valQ)) H Q
def sp_mixd (K : PySem.W.Frag) : Sp := fun vs H Q _ => ∃ q v1 v2 v3 r1 r2 r3, vs = [v1, v2, v3] ∧ H q ≠ none ∧ Fr q K H v1 r1 500 ∧ Fr q K H v2 r2 500 ∧ Fr q K H v3 r3 500 ∧ RetT ((1 - r3) * r1 + r3 * r2) H Q
def sgn (n : Int) : Int := if n < 0 then -1 else if 0 < n then 1 else 0
def sp_sign (K : PySem.W.Frag) : Sp := fun vs H Q _ => ∃ q v r n, vs = [v] ∧ Fr q K H v r n ∧ n ≤ 8000 ∧ ∀ H', Same H H' → Q (.int (sgn r.num)) H'
theorem sgn_div {x y : Int} (hy : 1 ≤ y) : sgn (Rat.divInt x y).num = sgn x := by
  have h1 := cross hy rfl (r := Rat.divInt x y) (U := x)
  have h2 := den1 (Rat.divInt x y)
  generalize (Rat.divInt x y).num = n at *
  generalize ((Rat.divInt x y).den : Int) = d at *
  unfold sgn
  by_cases a : n < 0
  · have : n * y < 0 := Int.mul_neg_of_neg_of_pos a (by omega)
    have : x < 0 := by
      by_cases z : x < 0
      · exact z
      · have := Int.mul_nonneg (show 0 ≤ x by omega) (show 0 ≤ d by omega)
        omega
    rw [if_pos a, if_pos this]
  · rw [if_neg a]
    by_cases b : 0 < n
    · have : 0 < n * y := Int.mul_pos b (by omega)
      have : 0 < x := by
        by_cases z : 0 < x
        · exact z
        · have := Int.mul_nonneg (show 0 ≤ -x by omega) (show 0 ≤ d by omega)
          rw [Int.neg_mul] at this
          omega
      rw [if_pos b, if_neg (by omega), if_pos this]
    · have e : n = 0 := by omega
      rw [e, Int.zero_mul] at h1
      have : x = 0 := by
        rcases Int.mul_eq_zero.mp h1.symm with z | z
        · exact z
        · omega
      rw [if_neg b, this]
      decide
section
variable {K : PySem.W.Frag} {σ : L2.St} {H : Hp} {Q : VK}
/-- for over a list or a tuple that stands in a slot -/
theorem g_forS {i0 j : Nat} {a : Addr} {xs : List V} {tb : TS} {D : Ends} (e : σ[i0]? = some (some (.ref a))) (hs : Sq K H a xs) (Pv : Nat → L2.St → Hp → Prop) (h0 : Pv 0 σ H) (hx : ∀ i σ' H', Pv i σ' H' → Same H H')
    (hb : ∀ i x σ' H', xs[i]? = some x → Pv i σ' H' → tb ⟨Pv (i + 1), D.rt, D.nx, Pv (i + 1)⟩ (σ'.set j (some x)) H') (hd : ∀ σ' H', Pv xs.length σ' H' → D.nx σ' H') :
    tFor (fun σ H R => iList K (tVar i0) σ H R ∨ iTup K (tVar i0) σ H R) (gName j) tb D σ H := by
  rcases hs with hs | hs
  · exact .inl ⟨.ref a, e, a, rfl, ⟨xs, hs⟩, for_list (xs := xs) Pv h0 (fun i σ' H' _ p => (hx i σ' H' p).seq hs) (fun i x σ' H' ex p => hb i x σ' H' ex p) hd⟩
  · exact .inr ⟨.ref a, e, a, rfl, ⟨xs, hs⟩, for_tup (xs := xs) Pv h0 (fun i σ' H' _ p => (Same.x (q := a + 1) (hx i σ' H' p)).tup (Nat.ne_of_lt (Nat.lt_succ_self a)) hs) (fun i x σ' H' ex p => hb i x σ' H' ex p) hd⟩
theorem g_forL {i0 j : Nat} {a : Addr} {xs : List V} {tb : TS} {D : Ends} (e : σ[i0]? = some (some (.ref a))) (hs : SqL K H a xs) (Pv : Nat → L2.St → Hp → Prop) (h0 : Pv 0 σ H) (hx : ∀ i σ' H', Pv i σ' H' → Same H H')
    (hb : ∀ i x σ' H', xs[i]? = some x → Pv i σ' H' → tb ⟨Pv (i + 1), D.rt, D.nx, Pv (i + 1)⟩ (σ'.set j (some x)) H') (hd : ∀ σ' H', Pv xs.length σ' H' → D.nx σ' H') :
    tFor (iList K (tVar i0)) (gName j) tb D σ H :=
  ⟨.ref a, e, a, rfl, ⟨xs, hs⟩, for_list (xs := xs) Pv h0 (fun i σ' H' _ p => (hx i σ' H' p).seq hs) (fun i x σ' H' ex p => hb i x σ' H' ex p) hd⟩
theorem g_yes {R : Bool → Hp → Prop} (q : R true H) : tYes σ H R := q
theorem ne_trk {q p : Addr} (h : H q ≠ none) (e : H p = none) : p ≠ q := fun z => h (z ▸ e)
theorem Same.trk {H' : Hp} {q : Addr} (s : Same H H') (h : H q ≠ none) : H' q ≠ none := by
  cases e : H q with
  | none => exact absurd e h
  | some o =>
    rw [s _ _ e]
    exact Option.some_ne_none _
theorem fresh_x {q p : Addr} {Hz : Hp} (sx : SameX q H Hz) (hq : ∃ o, Hz q = some o) (h : Hz p = none) : ¬ (H p ≠ none) := by
  intro z
  obtain ⟨oq, hq⟩ := hq
  have npq : p ≠ q := by
    intro e
    rw [e, hq] at h
    cases h
  cases e : H p with
  | none => exact z e
  | some o =>
    rw [sx _ _ npq e] at h
    cases h
theorem DqAll.get {q : Addr} : ∀ {xs : List V} {ds : List PyData} {i : Nat} {x : V}, DqAll q K H xs ds → xs[i]? = some x → ∃ d, ds[i]? = some d ∧ Dq q K H x d
  | _, _, _, _, .nil, e => by simp at e
  | _, _, 0, x, .cons h _, e => by
    cases e
    exact ⟨_, rfl, h⟩
  | _, _, i + 1, x, .cons _ t, e => by
    obtain ⟨d, h1, h2⟩ := DqAll.get (i := i) (x := x) t (by simpa using e)
    exact ⟨d, by simpa using h1, h2⟩
theorem all_rep (n : Nat) : (List.replicate n true).all id = true := by
  induction n with
  | zero => rfl
  | succ n ih => rw [List.replicate_succ, List.all_cons, ih] <;> rfl
theorem take_snoc {α : Type} {l : List α} {i : Nat} {x : α} (h : l[i]? = some x) : l.take (i + 1) = l.take i ++ [x] := by
  rw [List.take_add_one, h]
  rfl
theorem mix_cross {A B C D E F : Int} (hB : 1 ≤ B) (hD : 1 ≤ D) (hF : 1 ≤ F) : (1 - Rat.divInt E F) * Rat.divInt A B + Rat.divInt E F * Rat.divInt C D = Rat.divInt ((F - E) * A * D + E * C * B) (F * B * D) := by
  have e1 : (1 : Rat) = Rat.divInt F F := (Rat.divInt_self' (by omega)).symm
  have n1 : F * F * B ≠ 0 := Int.mul_ne_zero (Int.mul_ne_zero (by omega) (by omega)) (by omega)
  have n2 : F * D ≠ 0 := Int.mul_ne_zero (by omega) (by omega)
  have n3 : F * B * D ≠ 0 := Int.mul_ne_zero (Int.mul_ne_zero (by omega) (by omega)) (by omega)
  rw [e1, Rat.divInt_sub_divInt _ _ (by omega) (by omega), Rat.divInt_mul_divInt, Rat.divInt_mul_divInt, Rat.divInt_add_divInt _ _ n1 n2, Rat.divInt_eq_divInt_iff (Int.mul_ne_zero n1 n2) n3]
  grind
theorem sgn_eq (n : Int) : (if decide (0 < n) = true then (1 : Int) else 0) - (if decide (n < 0) = true then 1 else 0) = sgn n := by
  unfold sgn
  by_cases a : n < 0
  · rw [if_pos a, decide_eq_true a, decide_eq_false (by omega)]
    rfl
  · rw [if_neg a, decide_eq_false a]
    by_cases b : 0 < n
    · rw [if_pos b, decide_eq_true b]
      rfl
    · rw [if_neg b, decide_eq_false b]
      rfl
theorem sgn_b (n : Int) : Bt 2 (sgn n) := by
  unfold sgn
  split
  · show (-1 : Int).natAbs < 2 ^ 2; decide
  · split
    · show (1 : Int).natAbs < 2 ^ 2; decide
    · show (0 : Int).natAbs < 2 ^ 2; decide
theorem Qy.trk {t : Int} {q : Addr} (h : Qy K q t H) : H q ≠ none := by
  obtain ⟨o, e⟩ := h.at
  rw [e]
  exact Option.some_ne_none _
theorem one1 : Rat.divInt 1 1 = 1 := Rat.divInt_self' (by decide)
theorem zero1 : Rat.divInt 0 1 = 0 := Rat.zero_divInt 1
theorem cut_lc {te : TE} (P : Hp → Addr → Prop) (h1 : ∀ Q' : VK, (∀ H1 D, Same H H1 → P H1 D → Q' (.ref D) H1) → te σ H Q') (h2 : ∀ H1 D, Same H H1 → P H1 D → Q (.ref D) H1) : te σ H Q := h1 Q h2
theorem g_all {a : Addr} {bs : List Bool} (h : SqL K H a (bs.map V.bl)) (q : Q (.bl (bs.all id)) H) : rAll K [.ref a] H Q := ⟨a, bs, rfl, h, q⟩
theorem g_thenT {te : TE} (q : te σ H fun x H1 => kTup K x H1 Q) : tThen te (kTup K) σ H Q := q
theorem g_tupOf {a : Addr} {xs : List V} (h : SqL K H a xs) (q : ∀ p H2, H p = none → Same H H2 → H2 p = some (.tup xs) → Q (.ref p) H2) : kTup K (.ref a) H Q :=
  .inl ⟨a, xs, rfl, h, fun p hp => q p _ hp (same_new hp) upd_same⟩
theorem g_reprII {p : Addr} {x y : Int} {n : Nat} (e : SqL K H p [.int x, .int y]) (bx : Bt n x) (by_ : Bt n y) (l : n ≤ 1900) (k : Q (.str (PyData.list [.int x, .int y]).shown) H) : rReprU K [.ref p] H Q :=
  g_repr (.lst e (.cons (.int _) (.cons (.int _) .nil))) (shw_lst2 (shw_int bx l) (shw_int by_ l)).1 rfl (by simp [PyData.depth, PyData.depthAll]) ((shw_lst2 (shw_int bx l) (shw_int by_ l)).len (by have := int_w bx l; have := int_w by_ l; rw [PyData.weight]; simp only [PyData.weightAll]; omega)) k
end
end Mf
namespace Mf
open PySem PySem.Spec PyProof.Rows L2
theorem Rb1 : Rb 1 1 := ⟨by show (1 : Int).natAbs < 2 ^ 1; decide, by show ((1 : Nat) : Int).natAbs < 2 ^ 1; decide⟩
theorem Rb.mix {n1 n2 n3 : Nat} {r1 r2 r3 : Rat} (h1 : Rb n1 r1) (h2 : Rb n2 r2) (h3 : Rb n3 r3) : Rb (n1 + n2 + 2 * n3 + 3) ((1 - r3) * r1 + r3 * r2) :=
  (((Rb1.sub h3).mul h1).add (h3.mul h2)).mono (by omega)
section
variable {q : Addr} {K : PySem.W.Frag} {σ : L2.St} {H : Hp} {Q : VK}
theorem fr0 : Fr q K H (.int 0) 0 1 := by
  have z := Fr.int (q := q) (K := K) (H := H) (i := 0) (n := 1) (by show (0 : Int).natAbs < 2 ^ 1; decide) (by decide)
  rw [zero1] at z
  exact z
theorem fr1 : Fr q K H (.int 1) 1 1 := by
  have z := Fr.int (q := q) (K := K) (H := H) (i := 1) (n := 1) (by show (1 : Int).natAbs < 2 ^ 1; decide) (by decide)
  rw [one1] at z
  exact z
theorem Fr.pair {p : Addr} {x y : Int} {n : Nat} (h : SqT K H p [.int x, .int y]) (np : p ≠ q) (hy : 1 ≤ y) (bx : Bt n x) (b : Bt n y) : Fr q K H (.ref p) (Rat.divInt x y) n :=
  ⟨.tuple [.int x, .int y], .tup np h (.cons (.int _) (.cons (.int _) .nil)), (fr_pair hy bx b).1.1, rfl, bx, b, hy⟩
theorem g_neFFe {p1 p2 : Addr} {r s : Rat} (e : r = s) (e1 : SqT K H p1 (rv r)) (e2 : SqT K H p2 (rv s)) (k : Q (.bl false) H) : rNeU K (.ref p1) (.ref p2) H Q := by
  subst e
  exact g_neFF e1 e2 k
end
theorem sgn_neg (n : Int) : sgn (-n) = -sgn n := by
  unfold sgn
  by_cases a : n < 0
  · rw [if_pos a, if_neg (by omega), if_pos (by omega)] <;> rfl
  · rw [if_neg a]
    by_cases b : 0 < n
    · rw [if_pos b, if_pos (by omega)]
    · rw [if_neg b, if_neg (by omega), if_neg (by omega)] <;> rfl
theorem sgn_mul (m n : Int) : sgn (m * n) = sgn m * sgn n := by
  rcases Int.lt_trichotomy m 0 with a | a | a
  · rcases Int.lt_trichotomy n 0 with b | b | b
    · have := Int.mul_pos_of_neg_of_neg a b
      unfold sgn
      rw [if_neg (by omega), if_pos this, if_pos a, if_pos b]
      rfl
    · subst b
      rw [Int.mul_zero, show sgn 0 = 0 from rfl, Int.mul_zero]
    · have := Int.mul_neg_of_neg_of_pos a b
      unfold sgn
      rw [if_pos this, if_pos a, if_neg (by omega), if_pos b]
      rfl
  · subst a
    rw [Int.zero_mul, show sgn 0 = 0 from rfl, Int.zero_mul]
  · rcases Int.lt_trichotomy n 0 with b | b | b
    · have := Int.mul_neg_of_pos_of_neg a b
      unfold sgn
      rw [if_pos this, if_neg (by omega), if_pos a, if_pos b]
      rfl
    · subst b
      rw [Int.mul_zero, show sgn 0 = 0 from rfl, Int.mul_zero]
    · have := Int.mul_pos a b
      unfold sgn
      rw [if_neg (by omega), if_pos this, if_neg (by omega), if_pos a, if_neg (by omega), if_pos b]
      rfl
theorem sgn_sub (r s : Rat) : sgn (r - s).num = -sgn (s - r).num := by
  have e : r - s = -(s - r) := (Rat.neg_sub s r).symm
  rw [e, Rat.neg_num, sgn_neg]
theorem sgn_rmul (r s : Rat) : sgn (r * s).num = sgn r.num * sgn s.num := by
  rw [← mul_div, sgn_div (dd1 r s), sgn_mul]
theorem ne0_of_sgn {r : Rat} (h : sgn r.num ≠ 0) : r ≠ 0 := by
  intro e
  rw [e] at h
  exact h rfl
theorem half1 : Rat.divInt 1 2 = 1 / 2 := by rw [Rat.divInt_eq_div] <;> rfl
theorem quart1 : Rat.divInt 1 4 = 1 / 4 := by rw [Rat.divInt_eq_div] <;> rfl
example : [V.int 0, V.int 1] = rv 0 := rfl
example : [V.int 1, V.int 1] = rv 1 := rfl
end Mf
/-! a for over enumerate(e), e a tuple -/
namespace Mf
open PySem PySem.Spec PyProof.Rows L2
theorem enumT_new (l : Addr) (its : Array Value) : Meets (Builtin.«enumerate.__new__» ⟨[.type "enumerate", .ref l], []⟩) (fun _ R s => s.heap.IsTuple l its ∧
    R (.ok (.ret (.ref (s.heap.push { cls := .type "tuple_iterator", data := .fields #[.ref l, .int 0 0] }).objs.size)))
      { s with heap := (s.heap.push { cls := .type "tuple_iterator", data := .fields #[.ref l, .int 0 0] }).push { cls := .type "enumerate", data := .fields #[.none, .bool false, .ref s.heap.objs.size, rawInt 0, .none, .none] } }) :=
  .of_wp fun pg w A R s k => by
    obtain ⟨hp, g, d, tk, os⟩ := s
    obtain ⟨kT, k⟩ := k
    have hsub := sub_enumerate
    have qT : ∀ {A' : Around} {E : Value → Shared → Prop} {Q : Value → Shared → Prop}, Q (.ref hp.objs.size) ⟨hp.push { cls := .type "tuple_iterator", data := .fields #[.ref l, .int 0 0] }, g, d, tk, os⟩ → wpAny (model pg w) A' (pyIter (.ref l)) Q E ⟨hp, g, d, tk, os⟩ :=
      fun q => (begins_tuple l its).iter pg w _ _ ⟨hp, g, d, tk, os⟩ _ kT q
    have kT' : Heap.IsTuple (Shared.heap ⟨hp, g, d, tk, os⟩) l its := kT
    obtain ⟨ol, kl, kc, n, kd⟩ := kT'
    have kl' : (Shared.heap ⟨hp, g, d, tk, os⟩).get? l = some ol := kl
    wp_walk using qT
    refine wpAny_stack_any fun st => wpAny_pure ?_
    split
    · rename_i c _ _ _ _ _
      cases (c == Value.type "enumerate")
      · wp_walk using qT
        exact ⟨_, rfl, k⟩
      · wp_walk using qT
        exact ⟨_, rfl, k⟩
    · wp_walk using qT
      exact ⟨_, rfl, k⟩
theorem enumT_call {pg : Program} {w : World} {A : Around} {E : Value → Shared → Prop} {s : Shared} {l : Addr} {its : Array Value} {Q : Value → Shared → Prop} (kT : s.heap.IsTuple l its)
    (k : ∀ h', IsEnum h' (s.heap.objs.size + 1) s.heap.objs.size 0 .none → h'.IsTupleIter s.heap.objs.size l 0 → (∀ b o, s.heap.get? b = some o → h'.get? b = some o) → Q (.ref (s.heap.objs.size + 1)) { s with heap := h' }) :
    wpAny (model pg w) A (call (.type "enumerate") [.ref l]) Q E s := by
  refine callType_new F.called_enumerate (by decide) (F.typeCall_enumerate_1 _) (F.newCall_enumerate_1 _) (fun obj => F.args_object_init_2 obj _) F.entry_enumerate_new (enumT_new l its) ⟨kT, ?_⟩
  have hz : (s.heap.push { cls := .type "tuple_iterator", data := .fields #[.ref l, .int 0 0] }).objs.size = s.heap.objs.size + 1 := Heap.size_push ..
  show _ ∧ _
  rw [hz]
  have he : IsEnum ((s.heap.push { cls := .type "tuple_iterator", data := .fields #[.ref l, .int 0 0] }).push { cls := .type "enumerate", data := .fields #[.none, .bool false, .ref s.heap.objs.size, rawInt 0, .none, .none] })
      (s.heap.objs.size + 1) s.heap.objs.size 0 .none := by
    have := Heap.get?_push_size (s.heap.push { cls := .type "tuple_iterator", data := .fields #[.ref l, .int 0 0] }) (o := { cls := .type "enumerate", data := .fields #[.none, .bool false, .ref s.heap.objs.size, rawInt 0, .none, .none] }) rfl
    rw [hz] at this
    exact this
  exact ⟨⟨_, he, rfl⟩, k _ he ⟨_, Heap.get?_push_of_some _ (Heap.get?_push_size _ rfl), rfl, rfl⟩ fun b o x => Heap.get?_push_of_some _ (Heap.get?_push_of_some _ x)⟩
/-- the tuple at a, each item in a new pair -/
def IteT (K : PySem.W.Frag) (a : Addr) : It :=
  ⟨fun i H => ∃ (xs : List V) (x : V), SqT K H a xs ∧ xs[i]? = some x, fun i H v H' => ∃ T x, v = .ref T ∧ H T = none ∧ H' = upd H T (.tup [.int (i : Nat), x]) ∧ ∀ xs, SqT K H a xs → xs[i]? = some x,
    fun i H => ∃ xs : List V, SqT K H a xs ∧ xs.length ≤ i⟩
theorem enumT_turn {P : Program} {w : World} {K : PySem.W.Frag} {elts : List Expr} {kk : Nat} {tpos : Pos} (a e it : Addr) :
    Turn P w K (.Tuple elts kk tpos) (IteT K a) [e, it] e (fun i h => (∃ old, IsEnum h e it ((i : Nat) : Int) old) ∧ h.IsTupleIter it a i ∧ e ≠ it) where
  mem := by simp
  obj := fun i h st b hb => by
    obtain ⟨⟨old, he⟩, ⟨o, ho, hc, hd⟩, _⟩ := st
    have e' : b = e ∨ b = it := by simpa using hb
    rcases e' with z | z
    · rw [z]; exact ⟨_, he, fun v q => nomatch q⟩
    · rw [z]; exact ⟨o, ho, fun v q => by rw [hd] at q; cases q⟩
  keep := fun i h h' st k => let ⟨⟨old, he⟩, hi, hne⟩ := st; ⟨⟨old, k e (by simp) _ he⟩, hi.at fun o q => k it (by simp) o q, hne⟩
  item := by
    intro X hP hw hK hc i pins s σ H E I hf st hg
    subst hP hw hK
    obtain ⟨⟨old, he⟩, hit, hne⟩ := st
    obtain ⟨xs, x, hq, hx⟩ := hg
    obtain ⟨its, rv, p, hz⟩ := I.tuple hq
    obtain ⟨u, hu, ru⟩ := rv.get hx
    have pT : s.heap.IsTuple a its.toArray := p
    have hel : e < s.heap.objs.size := Heap.lt_size he
    have hil : it < s.heap.objs.size := by obtain ⟨_, q, _⟩ := hit; exact Heap.lt_size q
    have nat : a ≠ it := fun z => by
      obtain ⟨o1, q1, c1, _⟩ := pT
      obtain ⟨o2, q2, c2, _⟩ := hit
      rw [z, q2] at q1
      cases q1
      rw [c1] at c2
      exact absurd c2 (by decide)
    have nae : a ≠ e := fun z => by
      obtain ⟨o1, q1, c1, _⟩ := pT
      rw [z, he] at q1
      cases q1
      have c2 : Value.type "enumerate" = Value.type "tuple" := c1
      exact absurd c2 (by decide)
    have hi2 : i < its.toArray.size := by
      have : i < its.length := (List.getElem?_eq_some_iff.mp hu).1
      simpa using this
    refine wpAny_pyNext_enum_itemD (Draws.tuple (show X.A.in1.handled = none from I.ok.hd hc) it a nat its.toArray) he ⟨hit, pT⟩ hi2 hne (fun z => by
      rcases List.mem_cons.mp z with z | z
      · exact hne z
      · exact nae (List.mem_singleton.mp z).symm) fun x2 h' tk hP2 ho hst hT hsz hk => ?_
    obtain ⟨hit', _⟩ := hst
    obtain rfl : x2 = u := by
      have z : its.toArray[i]? = some x2 := hP2
      rw [show its.toArray[i]? = some u by simpa using hu] at z
      exact (Option.some.inj z).symm
    refine ⟨_, rfl, wpAny_letOwnedTupleGo_enum (s := { s with heap := h', toks := tk + 1 }) ho fun h'' he' sb => ?_⟩
    have hT2 : h''.get? s.heap.objs.size = some { cls := .type "tuple", data := .seq #[.int i tk, x2] } := (sb.2 _ (Nat.ne_of_gt hel)).trans hT
    have new : ObjOk X.prog X.w (upd H s.heap.objs.size (.tup [.int (i : Nat), x])) h'' s.heap.objs.size (.tup [.int (i : Nat), x]) :=
      ⟨by show 2 ≤ sizeLine; decide, [.int i tk, x2], .cons ⟨_, rfl⟩ (.cons ru .nil), ⟨_, hT2, rfl, _, rfl⟩⟩
    have I1 : Inv X pins σ (upd H s.heap.objs.size (.tup [.int (i : Nat), x])) { s with heap := h'', toks := tk + 1 } :=
      I.turnedNew (ch := [e, it]) (fun b ob hb q => (sb.2 b (fun z => hb (by simp [z]))).trans (hk b ob (fun z => hb (by simp [z])) (fun z => hb (by simp [z])) q)) hf (Nat.le_refl _) new
    refine ⟨.ref s.heap.objs.size, _, I1, rfl, ⟨_, x, rfl, I.hok.fresh (Nat.le_refl _), rfl, fun ys hy => by rw [I.tuple_inj hy hq]; exact hx⟩, ⟨⟨x2, ?_⟩, hit'.at fun o q => (sb.2 it (Ne.symm hne)).trans q, hne⟩, fun b hb => ?_⟩
    · have e1 : ((i + 1 : Nat) : Int) = (i : Int) + 1 := by omega
      rw [e1]; exact he'
    · have hb' : b < s.heap.objs.size := by
        have e' : b = e ∨ b = it := by simpa using hb
        rcases e' with z | z
        · rw [z]; exact hel
        · rw [z]; exact hil
      rw [upd_ne (Nat.ne_of_lt hb')]
      exact (hf b hb).1
  done := by
    intro X hP hw hK hc i pins s σ H E I hf st hg
    subst hP hw hK
    obtain ⟨⟨old, he⟩, hit, hne⟩ := st
    obtain ⟨xs, hq, hx⟩ := hg
    obtain ⟨its, rv, p, hz⟩ := I.tuple hq
    obtain ⟨f0, f1, f2, f3, f4, f5⟩ := hf it (by simp)
    have hl := rv.length
    have pT : s.heap.IsTuple a its.toArray := p
    have nat : a ≠ it := fun z => by
      obtain ⟨o1, q1, c1, _⟩ := pT
      obtain ⟨o2, q2, c2, _⟩ := hit
      rw [z, q2] at q1
      cases q1
      rw [c1] at c2
      exact absurd c2 (by decide)
    unfold pyNext
    have hT : s.TypeIs (.ref e) "enumerate" := ⟨_, he, rfl⟩
    refine wpAny_bind (wpAny_attempt (wpAny_callSpecial?_slot (name := Str.ofString "__next__") hT F.slot_enumerate_next
      (wpAny_call_entry F.slot_enumerate_next hT F.entry_enumerate_next ?_ (F.args_enumerate_next_1 _))))
    show wpAny _ _ (field (.ref e) 2 >>= _) _ _ _
    refine wpAny_bind (wpAny_field he rfl (x := .ref it) rfl ?_)
    refine wpAny_bind (wpAny_nextOf_tuple_end (show X.A.in1.handled = none from I.ok.hd hc) hit pT (by simp; omega) fun h' x he' hx' => ?_)
    obtain ⟨o, ho, hcx⟩ := hx'
    refine wpAny_bind (wpAny_isInstance (T := "StopIteration") (b := true) ⟨o, ho, hcx⟩ isSubtype_stop ?_)
    exact wpAny_pure ⟨rfl, I.turned (t' := s.toks) (fun b o hb q => he' b o hb q) f0 f1 f3 f4 f5⟩
  self := fun A i s Q E st h => let ⟨⟨_, he⟩, _⟩ := st; wpAny_pyIter_enum he h
def iEnumT (K : PySem.W.Frag) (ta : TA) : TI := fun σ H R => ta σ H fun vs H1 => ∃ a xs, vs = [.ref a] ∧ SqT K H1 a xs ∧ R (IteT K a) H1
theorem pi_enumT {X : Cx} {e : Expr} {ta : TA} {p pos tpos : Pos} {elts : List Expr} {kk : Nat} (hg : Gl X "enumerate") (hm : X.mg "enumerate" = none) (ha : PA X [e] ta) (hs : starEach [e] X.env = [(false, eval e X.env)] := by rfl) :
    PI X (.Tuple elts kk tpos) (.Call (.Name "enumerate" p) [e] [] pos) (iEnumT X.K ta) := by
  refine ⟨fun pins s σ H R I h => ?_⟩
  refine Call_ (ld_blt I hg hm boot_enumerate (PyProof.Rows.callWith_type1 (thn (ha.run pos pins s σ H _ I h) fun us s1 ⟨vs, H1, I1, r1, q1⟩ => ?_) hs rfl))
  obtain ⟨a, xs, ex, hq, q⟩ := q1
  subst ex
  cases r1 with
  | cons r rr =>
    cases rr
    cases r
    obtain ⟨its, rv, p', hz⟩ := I1.tuple hq
    refine enumT_call (show s1.heap.IsTuple a its.toArray from p') fun h' he hit hk => wpAny_pyIter_enum he ?_
    have I2 : Inv X pins σ H1 { s1 with heap := h' } := I1.kept (t' := s1.toks) hk
    refine ⟨s1.heap.objs.size + 1, [s1.heap.objs.size + 1, s1.heap.objs.size], _, _, H1, rfl, I2, enumT_turn a (s1.heap.objs.size + 1) s1.heap.objs.size, ⟨⟨.none, he⟩, hit, Nat.succ_ne_self _⟩, fun b hb => ?_, q⟩
    have e' : b = s1.heap.objs.size + 1 ∨ b = s1.heap.objs.size := by simpa using hb
    have hle : s1.heap.objs.size ≤ b := by
      rcases e' with z | z
      · rw [z]; exact Nat.le_add_right _ _
      · rw [z]; exact Nat.le_refl _
    exact I1.fpOk hle (I1.hok.fresh hle)
end Mf
namespace Mf
/-! ### polynomials as lists of fractions: the mathematics -/
def co (l : List Rat) (i : Nat) : Rat := l.getD i 0
theorem co_ge {l : List Rat} {i : Nat} (h : l.length ≤ i) : co l i = 0 := by
  unfold co
  rw [List.getD_eq_getElem?_getD, List.getElem?_eq_none h]
  rfl
theorem co_get {l : List Rat} {i : Nat} (h : i < l.length) : co l i = l[i] := by
  unfold co
  rw [List.getD_eq_getElem?_getD, List.getElem?_eq_getElem h]
  rfl
theorem co_some {l : List Rat} {i : Nat} {r : Rat} (h : l[i]? = some r) : co l i = r := by
  unfold co
  rw [List.getD_eq_getElem?_getD, h]
  rfl
theorem co_set {l : List Rat} {k n : Nat} {x : Rat} (h : k < l.length) : co (l.set k x) n = if n = k then x else co l n := by
  unfold co
  rw [List.getD_eq_getElem?_getD, List.getD_eq_getElem?_getD, List.getElem?_set]
  by_cases e : k = n
  · subst e
    rw [if_pos rfl, if_pos rfl, if_pos h]
    rfl
  · rw [if_neg e, if_neg (fun z => e z.symm)]
theorem co_take {l : List Rat} {k n : Nat} (h : n < k) : co (l.take k) n = co l n := by
  unfold co
  rw [List.getD_eq_getElem?_getD, List.getD_eq_getElem?_getD, List.getElem?_take, if_pos h]
theorem co_take' {l : List Rat} {k n : Nat} (h : k ≤ n) : co (l.take k) n = 0 := co_ge (by rw [List.length_take]; omega)
theorem co_append {l m : List Rat} {n : Nat} : co (l ++ m) n = if n < l.length then co l n else co m (n - l.length) := by
  unfold co
  simp only [List.getD_eq_getElem?_getD, List.getElem?_append]
  split <;> rfl
theorem co_nil {n : Nat} : co [] n = 0 := co_ge (Nat.zero_le _)
theorem co_map {f : Nat → Rat} {m n : Nat} (h : n < m) : co ((List.range m).map f) n = f n := by
  rw [co_get (by simpa using h)]
  simp
theorem ext_co {a b : List Rat} (hl : a.length = b.length) (h : ∀ i, co a i = co b i) : a = b := by
  refine List.ext_getElem hl fun i h1 h2 => ?_
  have := h i
  rw [co_get h1, co_get h2] at this
  exact this
/-- how long it is without zeros at its end, looked at up to n -/
def tlen (l : List Rat) : Nat → Nat
  | 0 => 0
  | n + 1 => if co l n = 0 then tlen l n else n + 1
def trimR (l : List Rat) : List Rat := l.take (tlen l l.length)
theorem tlen_le (l : List Rat) : ∀ n, tlen l n ≤ n
  | 0 => Nat.le_refl _
  | n + 1 => by
    unfold tlen
    split
    · exact Nat.le_succ_of_le (tlen_le l n)
    · exact Nat.le_refl _
theorem tlen_zero (l : List Rat) : ∀ n i, tlen l n ≤ i → i < n → co l i = 0
  | 0, i, _, h => absurd h (Nat.not_lt_zero _)
  | n + 1, i, h, h2 => by
    unfold tlen at h
    split at h
    · rename_i e
      by_cases z : i = n
      · rw [z]; exact e
      · exact tlen_zero l n i h (by omega)
    · omega
theorem tlen_last (l : List Rat) : ∀ n, tlen l n ≠ 0 → co l (tlen l n - 1) ≠ 0
  | 0, h => absurd rfl h
  | n + 1, h => by
    unfold tlen at h ⊢
    by_cases e : co l n = 0
    · rw [if_pos e] at h ⊢
      exact tlen_last l n h
    · rw [if_neg e]
      exact e
theorem len_trim (l : List Rat) : (trimR l).length = tlen l l.length := by
  unfold trimR
  rw [List.length_take]
  have := tlen_le l l.length
  omega
theorem len_trim_le (l : List Rat) : (trimR l).length ≤ l.length := by
  rw [len_trim]
  exact tlen_le _ _
theorem co_trim (l : List Rat) (i : Nat) : co (trimR l) i = co l i := by
  by_cases h : i < tlen l l.length
  · exact co_take h
  · rw [show co (trimR l) i = 0 from co_take' (by omega)]
    by_cases h2 : i < l.length
    · exact (tlen_zero l l.length i (by omega) h2).symm
    · exact (co_ge (by omega)).symm
/-- no zero at the end -/
def Tr (l : List Rat) : Prop := l ≠ [] → co l (l.length - 1) ≠ 0
theorem tr_trim (l : List Rat) : Tr (trimR l) := by
  intro h
  rw [co_trim, len_trim]
  refine tlen_last l _ fun z => h ?_
  refine List.length_eq_zero_iff.mp ?_
  rw [len_trim, z]
theorem Tr.le {a b : List Rat} (ha : Tr a) (h : ∀ i, co a i = co b i) : a.length ≤ b.length := by
  by_cases e : a = []
  · rw [e]; exact Nat.zero_le _
  · have h1 := ha e
    rw [h] at h1
    have h2 : 0 < a.length := List.length_pos_iff.mpr e
    by_cases z : a.length - 1 < b.length
    · omega
    · exact absurd (co_ge (by omega)) h1
theorem Tr.ext {a b : List Rat} (ha : Tr a) (hb : Tr b) (h : ∀ i, co a i = co b i) : a = b :=
  ext_co (Nat.le_antisymm (ha.le h) (hb.le fun i => (h i).symm)) h
theorem Tr.trim {a : List Rat} (ha : Tr a) : trimR a = a := (tr_trim a).ext ha (co_trim a)
theorem trim_eq {a b : List Rat} (h : ∀ i, co a i = co b i) : trimR a = trimR b := (tr_trim a).ext (tr_trim b) fun i => by rw [co_trim, co_trim, h]
theorem mem_trim {l : List Rat} {r : Rat} (h : r ∈ trimR l) : r ∈ l := List.mem_of_mem_take h
/-- sums of products: i of them -/
def cs (a b : Nat → Rat) : Nat → Nat → Rat
  | 0, _ => 0
  | i + 1, n => cs a b i n + (if i ≤ n then a i * b (n - i) else 0)
theorem cs_succ (a b : Nat → Rat) (i n : Nat) : cs a b (i + 1) n = cs a b i n + (if i ≤ n then a i * b (n - i) else 0) := rfl
theorem cs_stop (a b : Nat → Rat) {m n : Nat} (h : ∀ k, m ≤ k → k ≤ n → a k * b (n - k) = 0) : ∀ i, m ≤ i → cs a b i n = cs a b m n
  | 0, hi => by
    have : m = 0 := by omega
    rw [this]
  | i + 1, hi => by
    by_cases e : m = i + 1
    · rw [e]
    · rw [cs_succ, cs_stop a b h i (by omega)]
      split
      · rename_i z
        rw [h i (by omega) z, Rat.add_zero]
      · rw [Rat.add_zero]
/-- a number of a product -/
def pc (a b : Nat → Rat) (n : Nat) : Rat := cs a b (n + 1) n
theorem cs_pc (a b : Nat → Rat) (n m : Nat) (h : ∀ k, m ≤ k → a k = 0) : cs a b m n = pc a b n := by
  have z : ∀ k, m ≤ k → k ≤ n → a k * b (n - k) = 0 := fun k h1 _ => by rw [h k h1, Rat.zero_mul]
  have z2 : ∀ k, n + 1 ≤ k → k ≤ n → a k * b (n - k) = 0 := fun k h1 h2 => by omega
  unfold pc
  by_cases e : m ≤ n + 1
  · rw [cs_stop a b z (n + 1) e]
  · rw [cs_stop a b z2 m (by omega)]
theorem cs_co (a : List Rat) (b : Nat → Rat) (n : Nat) : cs (co a) b a.length n = pc (co a) b n := cs_pc _ _ _ _ fun k h => co_ge h
theorem pc_congr {a a' b b' : Nat → Rat} (h1 : ∀ i, a i = a' i) (h2 : ∀ i, b i = b' i) (n : Nat) : pc a b n = pc a' b' n := by
  rw [funext h1, funext h2]
theorem pc_zero {a b : List Rat} {n : Nat} (h : a.length + b.length - 1 ≤ n) : pc (co a) (co b) n = 0 := by
  have key : ∀ i, cs (co a) (co b) i n = 0 := by
    intro i
    induction i with
    | zero => rfl
    | succ i ih =>
      unfold cs
      rw [ih, Rat.zero_add]
      split
      · by_cases e : a.length ≤ i
        · rw [co_ge e, Rat.zero_mul]
        · rw [co_ge (l := b) (by omega), Rat.mul_zero]
      · rfl
  exact key _
theorem cs_add_left (a a' b : Nat → Rat) (n : Nat) : ∀ i, cs (fun k => a k + a' k) b i n = cs a b i n + cs a' b i n
  | 0 => by show (0 : Rat) = 0 + 0; rw [Rat.add_zero]
  | i + 1 => by
    unfold cs
    rw [cs_add_left a a' b n i]
    split <;> grind
theorem pc_sub_left (a a' b : Nat → Rat) (n : Nat) : pc (fun k => a k - a' k) b n = pc a b n - pc a' b n := by
  have key : ∀ i, cs (fun k => a k - a' k) b i n = cs a b i n - cs a' b i n := by
    intro i
    induction i with
    | zero => show (0 : Rat) = 0 - 0; grind
    | succ i ih =>
      unfold cs
      rw [ih]
      split <;> grind
  exact key _
/-- one number of the first one is put in -/
theorem pc_set {a a' b : Nat → Rat} {s : Nat} {x : Rat} (h0 : a s = 0) (h1 : a' s = x) (h2 : ∀ k, k ≠ s → a' k = a k) (n : Nat) : pc a' b n = pc a b n + (if s ≤ n then x * b (n - s) else 0) := by
  have key : ∀ i, cs a' b i n = cs a b i n + (if s < i then (if s ≤ n then x * b (n - s) else 0) else 0) := by
    intro i
    induction i with
    | zero => show (0 : Rat) = 0 + _; rw [if_neg (Nat.not_lt_zero _)]; grind
    | succ i ih =>
      rw [cs_succ, cs_succ, ih]
      by_cases e : i = s
      · subst e
        rw [h1, h0, if_neg (Nat.lt_irrefl i), if_pos (Nat.lt_succ_self i)]
        split <;> grind
      · rw [h2 i e]
        by_cases z : s < i
        · have z2 : s < i + 1 := by omega
          simp only [if_pos z, if_pos z2]
          split <;> split <;> grind
        · have z2 : ¬ s < i + 1 := by omega
          simp only [if_neg z, if_neg z2]
          split <;> grind
  unfold pc
  rw [key]
  by_cases e : s ≤ n
  · rw [if_pos (by omega)]
  · rw [if_neg e, if_neg (by omega : ¬ s < n + 1)]
/-- the product -/
def conv (a b : List Rat) : List Rat := (List.range (a.length + b.length - 1)).map (pc (co a) (co b))
theorem len_conv (a b : List Rat) : (conv a b).length = a.length + b.length - 1 := by simp [conv]
theorem co_conv (a b : List Rat) (n : Nat) : co (conv a b) n = pc (co a) (co b) n := by
  by_cases h : n < a.length + b.length - 1
  · exact co_map h
  · rw [co_ge (by rw [len_conv]; omega), pc_zero (by omega)]
def padd (a b : List Rat) : List Rat := (List.range (max a.length b.length)).map fun n => co a n + co b n
theorem len_padd (a b : List Rat) : (padd a b).length = max a.length b.length := by simp [padd]
theorem co_padd (a b : List Rat) (n : Nat) : co (padd a b) n = co a n + co b n := by
  by_cases h : n < max a.length b.length
  · exact co_map h
  · rw [co_ge (by rw [len_padd]; omega), co_ge (l := a) (by omega), co_ge (l := b) (by omega)]
    grind
/-- dividing is unique -/
theorem div_uniq {b : List Rat} (hb : b ≠ []) (hl : co b (b.length - 1) ≠ 0) {d e : Nat → Rat} {N : Nat} (hd : ∀ k, N ≤ k → d k = 0) (he : ∀ k, b.length - 1 ≤ k → e k = 0)
    (h : ∀ n, pc d (co b) n + e n = 0) : (∀ k, d k = 0) ∧ ∀ k, e k = 0 := by
  have hb0 : 0 < b.length := List.length_pos_iff.mpr hb
  have top : ∀ j k, N ≤ k + j → d k = 0 := by
    intro j
    induction j with
    | zero => exact fun k hk => hd k hk
    | succ j ih =>
      intro k hk
      have h1 := h (k + (b.length - 1))
      rw [he _ (by omega), Rat.add_zero] at h1
      have h2 : pc d (co b) (k + (b.length - 1)) = d k * co b (b.length - 1) := by
        rw [← cs_pc d (co b) (k + (b.length - 1)) (k + 1) fun i hi => ih i (by omega)]
        have low : ∀ i, i ≤ k → cs d (co b) i (k + (b.length - 1)) = 0 := by
          intro i
          induction i with
          | zero => intro _; rfl
          | succ i ih2 =>
            intro hi
            unfold cs
            rw [ih2 (by omega), if_pos (by omega), co_ge (l := b) (by omega)]
            grind
        unfold cs
        rw [low k (Nat.le_refl k), if_pos (by omega), Rat.zero_add, show k + (b.length - 1) - k = b.length - 1 by omega]
      rw [h2] at h1
      rcases Rat.mul_eq_zero.mp h1 with z | z
      · exact z
      · exact absurd z hl
  have d0 : ∀ k, d k = 0 := fun k => top N k (by omega)
  refine ⟨d0, fun k => ?_⟩
  have h1 := h k
  have h2 : pc d (co b) k = 0 := by
    rw [← cs_pc d (co b) k 0 fun i _ => d0 i]
    rfl
  rw [h2, Rat.zero_add] at h1
  exact h1
/-- slopes -/
def slp (a : Nat → Rat) (n : Nat) : Rat := ((n + 1 : Nat) : Rat) * a (n + 1)
theorem slp_cs (a b : Nat → Rat) (n : Nat) : ((n + 1 : Nat) : Rat) * pc a b (n + 1) = pc (slp a) b n + pc a (slp b) n := by
  have natc : ∀ x y : Nat, ((x + y : Nat) : Rat) = (x : Rat) + (y : Rat) := fun x y => Rat.natCast_add x y
  have k1 : ∀ i, i ≤ n + 1 → cs (fun k => (k : Rat) * a k) b (i + 1) (n + 1) = cs (slp a) b i n := by
    intro i
    induction i with
    | zero =>
      intro _
      show 0 + (if 0 ≤ n + 1 then ((0 : Nat) : Rat) * a 0 * b (n + 1 - 0) else 0) = 0
      rw [if_pos (Nat.zero_le _)]
      have : ((0 : Nat) : Rat) = 0 := rfl
      grind
    | succ i ih =>
      intro hi
      rw [show cs (fun k => (k : Rat) * a k) b (i + 1 + 1) (n + 1) = cs (fun k => (k : Rat) * a k) b (i + 1) (n + 1) + (if i + 1 ≤ n + 1 then ((i + 1 : Nat) : Rat) * a (i + 1) * b (n + 1 - (i + 1)) else 0) from rfl, ih (by omega)]
      show _ = cs (slp a) b i n + (if i ≤ n then slp a i * b (n - i) else 0)
      rw [if_pos hi, if_pos (by omega), show n + 1 - (i + 1) = n - i by omega]
      rfl
  have k2 : ∀ i, i ≤ n + 1 → cs a (fun k => (k : Rat) * b k) i (n + 1) = cs a (slp b) i n := by
    intro i
    induction i with
    | zero => intro _; rfl
    | succ i ih =>
      intro hi
      unfold cs
      rw [ih (by omega), if_pos (by omega), if_pos (by omega), show n + 1 - i = n - i + 1 by omega]
      rfl
  have k3 : ∀ i, i ≤ n + 2 → ((n + 1 : Nat) : Rat) * cs a b i (n + 1) = cs (fun k => (k : Rat) * a k) b i (n + 1) + cs a (fun k => (k : Rat) * b k) i (n + 1) := by
    intro i
    induction i with
    | zero =>
      intro _
      show _ * (0 : Rat) = 0 + 0
      grind
    | succ i ih =>
      intro hi
      unfold cs
      rw [if_pos (by omega), if_pos (by omega), if_pos (by omega)]
      have e := ih (by omega)
      have e2 : ((n + 1 : Nat) : Rat) = (i : Rat) + ((n + 1 - i : Nat) : Rat) := by
        rw [← natc, show i + (n + 1 - i) = n + 1 by omega]
      grind
  have e := k3 (n + 2) (Nat.le_refl _)
  rw [k1 (n + 1) (Nat.le_refl _)] at e
  have e3 : cs a (fun k => (k : Rat) * b k) (n + 2) (n + 1) = cs a (slp b) (n + 1) n := by
    show cs a (fun k => (k : Rat) * b k) (n + 1) (n + 1) + (if n + 1 ≤ n + 1 then a (n + 1) * (((n + 1 - (n + 1) : Nat) : Rat) * b (n + 1 - (n + 1))) else 0) = _
    rw [k2 (n + 1) (Nat.le_refl _), if_pos (Nat.le_refl _), show n + 1 - (n + 1) = 0 by omega]
    have : ((0 : Nat) : Rat) = 0 := rfl
    grind
  rw [e3] at e
  exact e
def slope (l : List Rat) : List Rat := (List.range (l.length - 1)).map (slp (co l))
theorem len_slope (l : List Rat) : (slope l).length = l.length - 1 := by simp [slope]
theorem co_slope (l : List Rat) (n : Nat) : co (slope l) n = slp (co l) n := by
  by_cases h : n < l.length - 1
  · exact co_map h
  · rw [co_ge (by rw [len_slope]; omega)]
    unfold slp
    rw [co_ge (l := l) (by omega)]
    grind
end Mf
namespace Mf
open PySem PySem.Spec PyProof.Rows L2
/-! ### lists of reduced fractions on the heap -/
/-- all tuples stay -/
def KeepT (H H' : Hp) : Prop := ∀ b xs, H b = some (.tup xs) → H' b = some (.tup xs)
theorem Same.kt {H H' : Hp} (s : Same H H') : KeepT H H' := fun b xs e => s b _ e
theorem KeepT.refl (H : Hp) : KeepT H H := fun _ _ e => e
theorem KeepT.trans {H H1 H2 : Hp} (a : KeepT H H1) (b : KeepT H1 H2) : KeepT H H2 := fun c xs e => b c xs (a c xs e)
theorem SameX.kt {K : PySem.W.Frag} {q : Addr} {t : Int} {H H' : Hp} (s : SameX q H H') (hq : Qy K q t H) : KeepT H H' := fun b xs e => by
  refine s.kept b _ (fun z => ?_) e
  obtain ⟨c, ns, r, h1, _⟩ := hq
  rw [z, h1] at e
  cases e
theorem upd_kt {H : Hp} {D : Addr} {acc : List V} {o : HO} (e : H D = some (.lst acc)) : KeepT H (upd H D o) := fun b xs eb => by
  rw [upd_ne (fun z => by rw [z, e] at eb; cases eb)]
  exact eb
inductive TL (H : Hp) : List V → List Rat → Prop
  | nil : TL H [] []
  | cons {a : Addr} {r : Rat} {vs : List V} {rs : List Rat} : H a = some (.tup (rv r)) → TL H vs rs → TL H (.ref a :: vs) (r :: rs)
theorem TL.go {H H' : Hp} (s : KeepT H H') : ∀ {vs : List V} {rs : List Rat}, TL H vs rs → TL H' vs rs
  | _, _, .nil => .nil
  | _, _, .cons e t => .cons (s _ _ e) (TL.go s t)
theorem TL.len {H : Hp} : ∀ {vs : List V} {rs : List Rat}, TL H vs rs → vs.length = rs.length
  | _, _, .nil => rfl
  | _, _, .cons _ t => congrArg Nat.succ (TL.len t)
theorem TL.get {H : Hp} : ∀ {vs : List V} {rs : List Rat} {i : Nat} {v : V}, TL H vs rs → vs[i]? = some v → ∃ a, v = .ref a ∧ H a = some (.tup (rv (co rs i))) ∧ rs[i]? = some (co rs i)
  | _, _, _, _, .nil, h => by cases h
  | _, _, 0, _, .cons e _, h => by
    cases h
    exact ⟨_, rfl, e, rfl⟩
  | _, _, i + 1, v, .cons e t, h => by
    obtain ⟨a, h1, h2, h3⟩ := TL.get (i := i) (v := v) t h
    exact ⟨a, h1, h2, h3⟩
theorem TL.at {H : Hp} {vs : List V} {rs : List Rat} {i : Nat} (h : TL H vs rs) (hi : i < rs.length) : ∃ a, vs[i]? = some (.ref a) ∧ H a = some (.tup (rv (co rs i))) := by
  have : i < vs.length := by rw [h.len]; exact hi
  obtain ⟨a, h1, h2, _⟩ := h.get (List.getElem?_eq_getElem this)
  exact ⟨a, by rw [List.getElem?_eq_getElem this, h1], h2⟩
theorem TL.snoc {H : Hp} {a : Addr} {r : Rat} (e : H a = some (.tup (rv r))) : ∀ {vs : List V} {rs : List Rat}, TL H vs rs → TL H (vs ++ [.ref a]) (rs ++ [r])
  | _, _, .nil => .cons e .nil
  | _, _, .cons g t => .cons g (TL.snoc e t)
theorem TL.app {H : Hp} : ∀ {vs ws : List V} {rs ss : List Rat}, TL H vs rs → TL H ws ss → TL H (vs ++ ws) (rs ++ ss)
  | _, _, _, _, .nil, h => h
  | _, _, _, _, .cons e t, h => .cons e (TL.app t h)
theorem TL.take {H : Hp} : ∀ {vs : List V} {rs : List Rat} (n : Nat), TL H vs rs → TL H (vs.take n) (rs.take n)
  | _, _, _, .nil => by rw [List.take_nil, List.take_nil]; exact .nil
  | _, _, 0, .cons _ _ => .nil
  | _, _, n + 1, .cons e t => .cons e (TL.take n t)
theorem TL.drop {H : Hp} : ∀ {vs : List V} {rs : List Rat} (n : Nat), TL H vs rs → TL H (vs.drop n) (rs.drop n)
  | _, _, _, .nil => by rw [List.drop_nil, List.drop_nil]; exact .nil
  | _, _, 0, .cons e t => .cons e t
  | _, _, n + 1, .cons e t => TL.drop n t
theorem TL.set {H : Hp} {a : Addr} {r : Rat} (e : H a = some (.tup (rv r))) : ∀ {vs : List V} {rs : List Rat} (k : Nat), TL H vs rs → TL H (vs.set k (.ref a)) (rs.set k r)
  | _, _, _, .nil => .nil
  | _, _, 0, .cons _ t => .cons e t
  | _, _, k + 1, .cons g t => .cons g (TL.set e k t)
theorem TL.rep {H : Hp} {a : Addr} {r : Rat} (e : H a = some (.tup (rv r))) : ∀ n : Nat, TL H (List.replicate n (.ref a)) (List.replicate n r)
  | 0 => .nil
  | n + 1 => .cons e (TL.rep e n)
theorem TL.nil_of {H : Hp} {rs : List Rat} (h : TL H [] rs) : rs = [] := by cases h; rfl
theorem TL.data {H : Hp} {q : Addr} {K : PySem.W.Frag} {acc : List V} (hq : H q = some (.lst acc)) : ∀ {vs : List V} {rs : List Rat}, TL H vs rs → DqAll q K H vs (rs.map rd)
  | _, _, .nil => .nil
  | _, _, .cons e t => .cons (.tup (fun z => by rw [z, hq] at e; cases e) (tupU e) (.cons (.int _) (.cons (.int _) .nil))) (TL.data hq t)
theorem TL.dp {H : Hp} {K : PySem.W.Frag} : ∀ {vs : List V} {rs : List Rat}, TL H vs rs → DpAll K H vs (rs.map rd)
  | _, _, .nil => .nil
  | _, _, .cons e t => .cons (.tup (tupU e) (.cons (.int _) (.cons (.int _) .nil))) (TL.dp t)
/-- all numbers below 2 ^ n -/
def RbL (n : Nat) (rs : List Rat) : Prop := ∀ r ∈ rs, Rb n r
theorem RbL.mono {m n : Nat} {rs : List Rat} (h : RbL m rs) (l : m ≤ n) : RbL n rs := fun r hr => (h r hr).mono l
theorem Rb0n {n : Nat} (h : 1 ≤ n) : Rb n 0 := Rb0.mono h
theorem RbL.co {n : Nat} {rs : List Rat} (h : RbL n rs) (hn : 1 ≤ n) (i : Nat) : Rb n (co rs i) := by
  by_cases e : i < rs.length
  · rw [co_get e]
    exact h _ (List.getElem_mem e)
  · rw [co_ge (by omega)]
    exact Rb0n hn
theorem RbL.of_co {n : Nat} {rs : List Rat} (h : ∀ i, i < rs.length → Rb n (Mf.co rs i)) : RbL n rs := by
  intro r hr
  obtain ⟨i, hi, e⟩ := List.getElem_of_mem hr
  rw [← e, ← co_get hi]
  exact h i hi
theorem RbL.trim {n : Nat} {rs : List Rat} (h : RbL n rs) : RbL n (trimR rs) := fun r hr => h r (mem_trim hr)
theorem RbL.take {n k : Nat} {rs : List Rat} (h : RbL n rs) : RbL n (rs.take k) := fun r hr => h r (List.mem_of_mem_take hr)
theorem RbL.drop {n k : Nat} {rs : List Rat} (h : RbL n rs) : RbL n (rs.drop k) := fun r hr => h r (List.mem_of_mem_drop hr)
theorem fr_tl {q : Addr} {K : PySem.W.Frag} {H : Hp} {a : Addr} {r : Rat} {n : Nat} (e : H a = some (.tup (rv r))) (b : Rb n r) : Fr (a + 1) K H (.ref a) r n := .tup (tupU e) (Nat.ne_of_lt (Nat.lt_succ_self a)) b
/-! ### repr and == of such lists -/
structure ShN (B W d : Nat) (x : PyData) : Prop where
  sh : x.showable = true
  lv : x.leavesShort B = true
  nd : x.hasDict = false
  ly : x.canLay0 = true
  wt : x.weight ≤ W
  dp : x.depth ≤ d
structure ShA (B W d : Nat) (xs : List PyData) : Prop where
  sh : PyData.showableAll xs = true
  lv : PyData.leavesShortAll B xs = true
  nd : PyData.hasDictAll xs = false
  ly : PyData.canLayAll0 xs = true
  wt : PyData.weightAll xs ≤ W
  dp : PyData.depthAll xs ≤ d
theorem ShN.mono {B W d W' d' : Nat} {x : PyData} (h : ShN B W d x) (w : W ≤ W') (e : d ≤ d') : ShN B W' d' x := ⟨h.sh, h.lv, h.nd, h.ly, Nat.le_trans h.wt w, Nat.le_trans h.dp e⟩
theorem sha_nil {B W d : Nat} : ShA B W d [] := ⟨rfl, rfl, rfl, rfl, Nat.zero_le _, Nat.zero_le _⟩
theorem sha_cons {B W W' d : Nat} {x : PyData} {xs : List PyData} (h : ShN B W d x) (t : ShA B W' d xs) : ShA B (W + 1 + W') d (x :: xs) := by
  refine ⟨?_, ?_, ?_, ?_, ?_, ?_⟩
  · show (x.showable && PyData.showableAll xs) = true
    rw [h.sh, t.sh] <;> rfl
  · show (x.leavesShort B && PyData.leavesShortAll B xs) = true
    rw [h.lv, t.lv] <;> rfl
  · show (x.hasDict || PyData.hasDictAll xs) = false
    rw [h.nd, t.nd] <;> rfl
  · show (x.canLay0 && PyData.canLayAll0 xs) = true
    rw [h.ly, t.ly] <;> rfl
  · have := h.wt
    have := t.wt
    simp only [PyData.weightAll]
    omega
  · have := h.dp
    have := t.dp
    simp only [PyData.depthAll]
    omega
theorem sha_tup {B W d : Nat} {xs : List PyData} (h : ShA B W d xs) : ShN B (W + 1) (d + 1) (.tuple xs) := by
  refine ⟨h.sh, h.lv, h.nd, h.ly, ?_, ?_⟩
  · have := h.wt
    rw [PyData.weight]
    omega
  · have := h.dp
    simp only [PyData.depth]
    omega
theorem sha_lst {B W d : Nat} {xs : List PyData} (h : ShA B W d xs) : ShN B (W + 1) (d + 1) (.list xs) := by
  refine ⟨h.sh, h.lv, h.nd, h.ly, ?_, ?_⟩
  · have := h.wt
    rw [PyData.weight]
    omega
  · have := h.dp
    simp only [PyData.depth]
    omega
theorem shn_int {i : Int} {n : Nat} (b : Bt n i) (hn : 1 ≤ n) (l : n ≤ 1900) : ShN (n + 1) n 1 (.int i) := by
  have lg : i.natAbs.log2 < n := by
    by_cases z : i.natAbs = 0
    · rw [z, Nat.log2_zero]
      omega
    · exact (Nat.log2_lt z).mpr b
  refine ⟨decide_eq_true (by omega), ?_, rfl, rfl, ?_, ?_⟩
  · show decide ((PyData.shown (.int i)).length ≤ n + 1) = true
    refine decide_eq_true ?_
    show (PySem.Str.ofString (toString i)).length ≤ n + 1
    rw [PySem.ofString_length]
    exact PySem.int_text_length_le (by omega) lg
  · show (if (i == 0) = true then 0 else i.natAbs.log2 + 1) ≤ n
    split <;> omega
  · simp [PyData.depth]
theorem shn_rd {r : Rat} {n : Nat} (b : Rb n r) (hn : 1 ≤ n) (l : n ≤ 1900) : ShN (n + 1) (2 * n + 3) 2 (rd r) :=
  (sha_tup (sha_cons (shn_int b.1 hn l) (sha_cons (shn_int b.2 hn l) (sha_nil (W := 0))))).mono (by omega) (Nat.le_refl _)
theorem sha_rds {n : Nat} (hn : 1 ≤ n) (l : n ≤ 1900) : ∀ {rs : List Rat}, RbL n rs → ShA (n + 1) (rs.length * (2 * n + 4)) 2 (rs.map rd)
  | [], _ => sha_nil
  | r :: rs, h => by
    have t := sha_rds hn l (rs := rs) fun x hx => h x (List.mem_cons_of_mem _ hx)
    have z := sha_cons (shn_rd (h r List.mem_cons_self) hn l) t
    refine ⟨z.sh, z.lv, z.nd, z.ly, ?_, z.dp⟩
    have w := z.wt
    rw [List.length_cons, Nat.succ_mul]
    show PyData.weightAll (rd r :: rs.map rd) ≤ _
    omega
theorem shn_poly {n L : Nat} (hn : 1 ≤ n) (l : n ≤ 1900) {rs : List Rat} (h : RbL n rs) (hl : rs.length ≤ L) : ShN (n + 1) (L * (2 * n + 4) + 1) 3 (.tuple (rs.map rd)) :=
  (sha_tup (sha_rds hn l h)).mono (Nat.add_le_add_right (Nat.mul_le_mul_right _ hl) 1) (Nat.le_refl _)
section
variable {K : PySem.W.Frag} {H : Hp} {Q : VK} {v : V}
theorem g_reprS {B W d : Nat} {x : PyData} (h : Dp K H v x) (s : ShN B W d x) (hB : 8 ≤ B) (hw : (B + 2) * W + B ≤ 16777216) (hd : d ≤ 60) (k : Q (.str x.shown) H) : rReprU K [v] H Q := by
  refine g_repr h s.sh s.nd (Nat.le_trans s.dp hd) ?_ k
  rw [sizeLine_eq]
  have h1 := PyData.shown_le B hB x s.lv
  have h2 : (B + 2) * x.weight ≤ (B + 2) * W := Nat.mul_le_mul_left _ s.wt
  omega
theorem shp {B W d : Nat} {x : PyData} (s : ShN B W d x) (hd : d ≤ 60) : SeqAt.shaped x = true := by
  unfold SeqAt.shaped
  rw [Bool.and_eq_true]
  exact ⟨s.ly, decide_eq_true (Nat.le_trans s.dp (by omega))⟩
theorem g_neSame {u v : V} {B W d : Nat} {x : PyData} (h1 : Dp K H u x) (h2 : Dp K H v x) (s : ShN B W d x) (hd : d ≤ 60) (k : Q (.bl false) H) : rNeU K u v H Q := by
  refine .inr ⟨x, x, h1, h2, shp s hd, shp s hd, ?_⟩
  rw [SeqAt.eqv_refl x s.ly]
  exact k
theorem g_eqSame {u v : V} {B W d : Nat} {x : PyData} (h1 : Dp K H u x) (h2 : Dp K H v x) (s : ShN B W d x) (hd : d ≤ 60) (k : Q (.bl true) H) : rEqU K u v H Q := by
  refine .inr ⟨x, x, h1, h2, shp s hd, shp s hd, ?_⟩
  rw [SeqAt.eqv_refl x s.ly]
  exact k
theorem lay_rds : ∀ rs : List Rat, PyData.canLayAll0 (rs.map rd) = true
  | [] => rfl
  | r :: rs => by
    show ((rd r).canLay0 && PyData.canLayAll0 (rs.map rd)) = true
    rw [lay_rds rs] <;> rfl
theorem dep_rds : ∀ rs : List Rat, PyData.depthAll (rs.map rd) ≤ 2
  | [] => Nat.zero_le _
  | r :: rs => by
    have h := dep_rds rs
    have h2 : (rd r).depth ≤ 2 := by simp [rd, PyData.depth, PyData.depthAll]
    rw [List.map_cons]
    simp only [PyData.depthAll]
    omega
theorem shp_rds (rs : List Rat) : SeqAt.shaped (.tuple (rs.map rd)) = true := by
  unfold SeqAt.shaped
  rw [Bool.and_eq_true]
  refine ⟨lay_rds rs, decide_eq_true ?_⟩
  have := dep_rds rs
  simp only [PyData.depth]
  omega
/-- a tuple of fractions != () -/
theorem g_neNilT {a p : Addr} {vs : List V} {rs : List Rat} (h : SqT K H a vs) (t : TL H vs rs) (h2 : SqT K H p []) (k : Q (.bl (!rs.isEmpty)) H) : rNeU K (.ref a) (.ref p) H Q := by
  refine .inr ⟨.tuple (rs.map rd), .tuple [], .tup h t.dp, .tup h2 .nil, shp_rds rs, by decide, ?_⟩
  cases rs with
  | nil => exact k
  | cons r rs => exact k
theorem eqv_rd (r : Rat) : PyData.eqv (rd r) (rd 0) = decide (r = 0) := by
  have e : PyData.eqv (rd r) (rd 0) = ((r.num == 0) && (((r.den : Int) == 1) && true)) := rfl
  rw [e]
  by_cases z : r = 0
  · subst z
    rfl
  · rw [decide_eq_false z, beq_eq_false_iff_ne.mpr (fun n => z (Rat.num_eq_zero.mp n))] <;> rfl
theorem g_eqZ {a p : Addr} {r : Rat} (h : SqT K H a (rv r)) (h2 : SqT K H p (rv 0)) (k : Q (.bl (decide (r = 0))) H) : rEqU K (.ref a) (.ref p) H Q := by
  refine .inr ⟨rd r, rd 0, .tup h (.cons (.int _) (.cons (.int _) .nil)), .tup h2 (.cons (.int _) (.cons (.int _) .nil)), by rfl, by rfl, ?_⟩
  rw [eqv_rd]
  exact k
end
end Mf
namespace Mf
/-! ### dividing, step by step -/
def dsh (g rest : List Rat) : Rat := co rest (rest.length - 1) / co g (g.length - 1)
def dlow (g rest : List Rat) (s : Nat) : List Rat := (List.range (g.length - 1)).map fun k => co rest (s + k) - dsh g rest * co g k
def dnext (g rest : List Rat) (s : Nat) : List Rat := rest.take s ++ dlow g rest s
def drun (g : List Rat) : Nat → List Rat → List Rat → List Rat × List Rat
  | 0, Q, rest => (Q, rest)
  | s + 1, Q, rest => drun g s (Q.set s (dsh g rest)) (dnext g rest s)
theorem len_dlow (g rest : List Rat) (s : Nat) : (dlow g rest s).length = g.length - 1 := by simp [dlow]
theorem len_dnext {g rest : List Rat} {s : Nat} (h : s ≤ rest.length) : (dnext g rest s).length = s + (g.length - 1) := by
  unfold dnext
  rw [List.length_append, List.length_take, len_dlow]
  omega
theorem co_dnext {g rest : List Rat} {s : Nat} (hg : g ≠ []) (hl : co g (g.length - 1) ≠ 0) (h : rest.length = s + g.length) (n : Nat) :
    co (dnext g rest s) n = co rest n - (if s ≤ n then dsh g rest * co g (n - s) else 0) := by
  have g0 : 0 < g.length := List.length_pos_iff.mpr hg
  unfold dnext
  rw [co_append, List.length_take, Nat.min_eq_left (by omega)]
  by_cases z : n < s
  · rw [if_pos z, if_neg (by omega), co_take z]
    grind
  · rw [if_neg z, if_pos (by omega)]
    by_cases z2 : n - s < g.length - 1
    · show co (dlow g rest s) (n - s) = _
      unfold dlow
      rw [co_map z2, show s + (n - s) = n by omega]
    · rw [co_ge (l := dlow g rest s) (by rw [len_dlow]; omega)]
      by_cases z3 : n = s + (g.length - 1)
      · subst z3
        rw [show s + (g.length - 1) - s = g.length - 1 by omega]
        unfold dsh
        rw [h, show s + g.length - 1 = s + (g.length - 1) by omega, Rat.div_def, Rat.mul_assoc, Rat.inv_mul_cancel _ hl]
        grind
      · rw [co_ge (l := rest) (by omega), co_ge (l := g) (by omega)]
        grind
theorem drun_spec {g : List Rat} (hg : g ≠ []) (hl : co g (g.length - 1) ≠ 0) : ∀ (s : Nat) (Q rest : List Rat), s ≤ Q.length → (s = 0 ∧ rest.length < g.length ∨ rest.length + 1 = s + g.length) → (∀ k, k < s → co Q k = 0) →
    (drun g s Q rest).1.length = Q.length ∧ (drun g s Q rest).2.length < g.length ∧ ∀ n, pc (co (drun g s Q rest).1) (co g) n + co (drun g s Q rest).2 n = pc (co Q) (co g) n + co rest n := by
  intro s
  have g0 : 0 < g.length := List.length_pos_iff.mpr hg
  induction s with
  | zero =>
    intro Q rest hQ hr hz
    exact ⟨rfl, by show rest.length < _; omega, fun n => rfl⟩
  | succ s ih =>
    intro Q rest hQ hr hz
    have hr' : rest.length = s + g.length := by omega
    have e := ih (Q.set s (dsh g rest)) (dnext g rest s) (by rw [List.length_set]; omega) (.inr (by rw [len_dnext (by omega)]; omega)) (fun k hk => by rw [co_set (by omega), if_neg (by omega)]; exact hz k (by omega))
    obtain ⟨e1, e2, e3⟩ := e
    refine ⟨by show (drun g s _ _).1.length = _; rw [e1, List.length_set], e2, fun n => ?_⟩
    show pc (co (drun g s (Q.set s (dsh g rest)) (dnext g rest s)).1) (co g) n + co (drun g s (Q.set s (dsh g rest)) (dnext g rest s)).2 n = _
    rw [e3 n, co_dnext hg hl hr', pc_set (a := co Q) (s := s) (x := dsh g rest) (hz s (by omega)) (by rw [co_set (by omega), if_pos rfl]) (fun k hk => by rw [co_set (by omega), if_neg hk])]
    grind
/-- the sizes along the way -/
def dfits (B : Nat) (g : List Rat) : Nat → List Rat → Prop
  | 0, rest => RbL B rest
  | s + 1, rest => RbL B rest ∧ Rb B (dsh g rest) ∧ dfits B g s (dnext g rest s)
theorem dfits.now {B : Nat} {g rest : List Rat} : ∀ {s : Nat}, dfits B g s rest → RbL B rest
  | 0, h => h
  | _ + 1, h => h.1
theorem dfits.out {B : Nat} (hB : 1 ≤ B) {g : List Rat} : ∀ {s : Nat} {Q rest : List Rat}, dfits B g s rest → RbL B Q → RbL B (drun g s Q rest).1 ∧ RbL B (drun g s Q rest).2
  | 0, Q, rest, h, hQ => ⟨hQ, h⟩
  | s + 1, Q, rest, h, hQ => by
    refine dfits.out hB (s := s) h.2.2 fun r hr => ?_
    rcases List.mem_or_eq_of_mem_set hr with z | z
    · exact hQ r z
    · rw [z]
      exact h.2.1
/-- numbers with one down -/
def Sc (W : Int) (k : Nat) (r : Rat) : Prop := ∃ u : Int, r = Rat.divInt u W ∧ Bt k u
theorem Sc.rb {W : Int} {k w B : Nat} {r : Rat} (h : Sc W k r) (hW : 1 ≤ W) (bW : Bt w W) (h1 : k ≤ B) (h2 : w ≤ B) : Rb B r := by
  obtain ⟨u, rfl, b⟩ := h
  exact Rb.of hW (b.mono h1) (bW.mono h2)
theorem Sc.zero {W : Int} {k : Nat} : Sc W k 0 := ⟨0, by rw [Rat.zero_divInt], by show (0 : Int).natAbs < 2 ^ k; exact Nat.two_pow_pos k⟩
theorem Sc.mono {W : Int} {k k' : Nat} {r : Rat} (h : Sc W k r) (l : k ≤ k') : Sc W k' r := by
  obtain ⟨u, e, b⟩ := h
  exact ⟨u, e, b.mono l⟩
theorem Sc.scale {W V : Int} {k v : Nat} {r : Rat} (h : Sc W k r) (hW : 1 ≤ W) (hV : 1 ≤ V) (bV : Bt v V) : Sc (W * V) (k + v) r := by
  obtain ⟨u, rfl, b⟩ := h
  refine ⟨u * V, ?_, b.mul bV⟩
  exact (Rat.divInt_mul_right (by omega)).symm
theorem Sc.add {W : Int} {k l : Nat} {r s : Rat} (h : Sc W k r) (h2 : Sc W l s) (hW : 1 ≤ W) : Sc W (max k l + 1) (r + s) := by
  obtain ⟨u, rfl, b⟩ := h
  obtain ⟨v, rfl, c⟩ := h2
  refine ⟨u + v, ?_, (b.mono (Nat.le_max_left _ _)).add (c.mono (Nat.le_max_right _ _))⟩
  rw [Rat.divInt_add_divInt _ _ (by omega) (by omega), ← Int.add_mul, Rat.divInt_mul_right (by omega)]
theorem Sc.mul {W V : Int} {k l : Nat} {r s : Rat} (h : Sc W k r) (h2 : Sc V l s) : Sc (W * V) (k + l) (r * s) := by
  obtain ⟨u, rfl, b⟩ := h
  obtain ⟨v, rfl, c⟩ := h2
  exact ⟨u * v, Rat.divInt_mul_divInt _ _, b.mul c⟩
theorem mul_ge1 {a b : Int} (ha : 1 ≤ a) (hb : 1 ≤ b) : 1 ≤ a * b := Int.le_trans (by decide) (Int.mul_le_mul ha hb (by decide) (by omega))
/-- all numbers of a list with one down -/
theorem sc_of {n : Nat} : ∀ {rs : List Rat}, RbL n rs → ∃ W : Int, 1 ≤ W ∧ Bt (rs.length * n + 1) W ∧ ∀ i, Sc W (rs.length * n + n + 1) (co rs i)
  | [], _ => ⟨1, by decide, by show (1 : Int).natAbs < 2 ^ (0 * n + 1); rw [Nat.zero_mul]; decide, fun i => by rw [co_nil]; exact Sc.zero⟩
  | r :: rs, h => by
    obtain ⟨W, h1, h2, h3⟩ := sc_of (rs := rs) fun x hx => h x (List.mem_cons_of_mem _ hx)
    have hr := h r List.mem_cons_self
    have e : r = Rat.divInt r.num r.den := (Rat.num_divInt_den r).symm
    refine ⟨W * r.den, mul_ge1 h1 (den1 r), (h2.mul hr.2).mono (by rw [List.length_cons, Nat.succ_mul]; omega), fun i => ?_⟩
    cases i with
    | zero =>
      have z : Sc (r.den : Int) n r := ⟨r.num, e, hr.1⟩
      have z2 := z.scale (den1 r) h1 h2
      rw [Int.mul_comm] at z2
      exact z2.mono (by rw [List.length_cons, Nat.succ_mul]; omega)
    | succ i =>
      have z := (h3 i).scale h1 (den1 r) hr.2
      exact z.mono (by rw [List.length_cons, Nat.succ_mul]; omega)
theorem sc_pc {a b : Nat → Rat} {W V : Int} {k l : Nat} (hW : 1 ≤ W) (hV : 1 ≤ V) (ha : ∀ i, Sc W k (a i)) (hb : ∀ i, Sc V l (b i)) : ∀ i n, Sc (W * V) (k + l + i) (cs a b i n)
  | 0, n => Sc.zero
  | i + 1, n => by
    rw [cs_succ]
    split
    · exact ((sc_pc hW hV ha hb i n).add ((ha i).mul (hb (n - i))) (mul_ge1 hW hV)).mono (by omega)
    · rw [Rat.add_zero]
      exact (sc_pc hW hV ha hb i n).mono (by omega)
theorem sc_low {W l D u v c : Int} (hW : 1 ≤ W) (hD : 1 ≤ D) (hl : l ≠ 0) :
    Rat.divInt v W - Rat.divInt u W / Rat.divInt l D * Rat.divInt c D = Rat.divInt ((v * l - u * c) * (if 0 < l then 1 else -1)) (W * (l.natAbs : Int)) := by
  have e1 : Rat.divInt u W / Rat.divInt l D = Rat.divInt (u * D) (W * l) := by
    rw [Rat.div_def, Rat.inv_divInt, Rat.divInt_mul_divInt]
  have n1 : W * l ≠ 0 := Int.mul_ne_zero (by omega) hl
  rw [e1, Rat.divInt_mul_divInt]
  have e2 : Rat.divInt (u * D * c) (W * l * D) = Rat.divInt (u * c) (W * l) := by
    rw [show u * D * c = u * c * D by grind, Rat.divInt_mul_right (by omega)]
  have e3 : Rat.divInt v W = Rat.divInt (v * l) (W * l) := (Rat.divInt_mul_right hl).symm
  rw [e2, e3, Rat.divInt_sub_divInt _ _ n1 n1, ← Int.sub_mul, Rat.divInt_mul_right n1]
  by_cases h : 0 < l
  · rw [if_pos h, Int.mul_one, show (l.natAbs : Int) = l by omega]
  · rw [if_neg h, show (l.natAbs : Int) = -l by omega, ← Rat.neg_divInt_neg, Int.mul_neg, Int.mul_one, Int.mul_neg]
/-- so the numbers stay small -/
theorem dfits_of {g : List Rat} (hg : g ≠ []) (hl : co g (g.length - 1) ≠ 0) {D : Int} {d kg B : Nat} (hD : 1 ≤ D) (bD : Bt d D) (sg : ∀ i, Sc D kg (co g i)) :
    ∀ (s : Nat) (rest : List Rat) (W : Int) (w k : Nat), (s = 0 ∨ rest.length + 1 = s + g.length) → 1 ≤ W → Bt w W → (∀ i, Sc W k (co rest i)) → k + s * (kg + 1) + d ≤ B → w + s * kg + kg ≤ B → dfits B g s rest := by
  intro s
  have g0 : 0 < g.length := List.length_pos_iff.mpr hg
  obtain ⟨l, el, bl⟩ := sg (g.length - 1)
  have hl0 : l ≠ 0 := fun z => hl (by rw [el, z, Rat.zero_divInt])
  induction s with
  | zero =>
    intro rest W w k hr hW bW sr h1 h2
    refine RbL.of_co fun i _ => ?_
    exact (sr i).rb hW bW (by omega) (by omega)
  | succ s ih =>
    intro rest W w k hr hW bW sr h1 h2
    have hr' : rest.length = s + g.length := by omega
    rw [Nat.succ_mul] at h1 h2
    have bl' : Bt kg (l.natAbs : Int) := by
      show (l.natAbs : Int).natAbs < 2 ^ kg
      rw [Int.natAbs_natCast]
      exact bl
    have hW' : 1 ≤ W * (l.natAbs : Int) := mul_ge1 hW (by omega)
    obtain ⟨u, eu, bu⟩ := sr (rest.length - 1)
    refine ⟨RbL.of_co fun i _ => (sr i).rb hW bW (by omega) (by omega), ?_, ?_⟩
    · unfold dsh
      rw [eu, el, Rat.div_def, Rat.inv_divInt, Rat.divInt_mul_divInt]
      by_cases z : 0 < l
      · exact Rb.of (mul_ge1 hW (by omega)) ((bu.mul bD).mono (by omega)) ((bW.mul bl).mono (by omega))
      · rw [← Rat.neg_divInt_neg, show -(W * l) = W * -l from (Int.mul_neg _ _).symm]
        exact Rb.of (mul_ge1 hW (by omega)) ((bu.mul bD).neg.mono (by omega)) ((bW.mul bl.neg).mono (by omega))
    · refine ih (dnext g rest s) (W * (l.natAbs : Int)) (w + kg) (k + kg + 1) (.inr (by rw [len_dnext (by omega)]; omega)) hW' (bW.mul bl') (fun i => ?_) (by omega) (by omega)
      rw [co_dnext hg hl hr']
      by_cases z : s ≤ i
      · rw [if_pos z]
        obtain ⟨v, ev, bv⟩ := sr i
        obtain ⟨c, ec, bc⟩ := sg (i - s)
        unfold dsh
        rw [eu, el, ev, ec, sc_low hW hD hl0]
        refine ⟨_, rfl, ?_⟩
        have b1 : Bt (k + kg + 1) (v * l - u * c) := (bv.mul bl).sub (bu.mul bc)
        split
        · rw [Int.mul_one]
          exact b1
        · rw [Int.mul_neg, Int.mul_one]
          exact b1.neg
      · rw [if_neg z, show co rest i - 0 = co rest i by grind]
        exact ((sr i).scale hW (by omega) bl').mono (by omega)
/-- sizes of the sums of a product -/
theorem cs_rb {a b : List Rat} {A B : Nat} (ha : RbL A a) (hb : RbL B b) (hA : 1 ≤ A) (hB : 1 ≤ B) (i n : Nat) : Rb (1 + b.length * (A + B + 1)) (cs (co a) (co b) i n) := by
  have key : ∀ i, Rb (1 + (min i (n + 1) - (n + 1 - b.length)) * (A + B + 1)) (cs (co a) (co b) i n) := by
    intro i
    induction i with
    | zero => exact Rb0.mono (by omega)
    | succ i ih =>
      rw [cs_succ]
      by_cases z : i ≤ n
      · rw [if_pos z]
        by_cases z2 : n - i < b.length
        · have e : min (i + 1) (n + 1) - (n + 1 - b.length) = (min i (n + 1) - (n + 1 - b.length)) + 1 := by omega
          rw [e, Nat.succ_mul]
          exact (ih.add ((ha.co hA i).mul (hb.co hB (n - i)))).mono (by omega)
        · rw [co_ge (l := b) (by omega), Rat.mul_zero, Rat.add_zero]
          exact ih.mono (Nat.add_le_add_left (Nat.mul_le_mul_right _ (by omega)) 1)
      · rw [if_neg z, Rat.add_zero]
        exact ih.mono (Nat.add_le_add_left (Nat.mul_le_mul_right _ (by omega)) 1)
  exact (key i).mono (Nat.add_le_add_left (Nat.mul_le_mul_right _ (by omega)) 1)
theorem rbl_conv {a b : List Rat} {A B : Nat} (ha : RbL A a) (hb : RbL B b) (hA : 1 ≤ A) (hB : 1 ≤ B) : RbL (1 + b.length * (A + B + 1)) (conv a b) :=
  RbL.of_co fun i _ => by
    rw [co_conv]
    exact cs_rb ha hb hA hB _ _
theorem rbl_padd {a b : List Rat} {A B : Nat} (ha : RbL A a) (hb : RbL B b) (hA : 1 ≤ A) (hB : 1 ≤ B) : RbL (A + B + 1) (padd a b) :=
  RbL.of_co fun i _ => by
    rw [co_padd]
    exact (ha.co hA i).add (hb.co hB i)
theorem num_nat (n : Nat) : (n : Rat).num = (n : Int) := rfl
theorem den_nat (n : Nat) : ((n : Rat).den : Int) = 1 := rfl
theorem tr_slope {l : List Rat} (h : Tr l) : Tr (slope l) := by
  intro hne
  have hl : 0 < (slope l).length := List.length_pos_iff.mpr hne
  rw [len_slope] at hl
  rw [co_slope, len_slope]
  unfold slp
  rw [show l.length - 1 - 1 + 1 = l.length - 1 by omega]
  have h1 := h (fun z => by rw [z] at hl; simp at hl)
  intro z
  rcases Rat.mul_eq_zero.mp z with e | e
  · have := congrArg Rat.num e
    rw [num_nat] at this
    simp at this
    omega
  · exact h1 e
end Mf
namespace Mf
open PySem PySem.Spec PyProof.Rows L2
abbrev g2 (K : PySem.W.Frag) (i j : Nat) : TG := gTup K 2 (gCons (gName i) (gCons (gName j) gNil))
section
variable {K : PySem.W.Frag} {σ : L2.St} {H H1 : Hp} {Q : VK} {v x y : V} {te : TE} {tt : TT} {vs : List Nat} {D : Ends} {tb : TS}
theorem g_pair {i j : Nat} {a : Addr} {R : L2.St → Hp → Prop} (h : SqT K H a [x, y]) (q : R ((σ.set i (some x)).set j (some y)) H) : g2 K i j (.ref a) σ H R :=
  ⟨a, [x, y], rfl, h, rfl, x, [y], rfl, y, [], rfl, rfl, q⟩
def iEnumS (K : PySem.W.Frag) (ta : TA) : TI := fun σ H R => iEnum K ta σ H R ∨ iEnumT K ta σ H R
/-- for i, x in enumerate(a), a a list or a tuple that stays -/
theorem g_forE {i0 i j : Nat} {a : Addr} {xs : List V} {H0 : Hp} (e : σ[i0]? = some (some (.ref a))) (hs : Sq K H0 a xs) (Pv : Nat → L2.St → Hp → Prop) (h0 : Pv 0 σ H) (hx : ∀ n σ' H', Pv n σ' H' → Same H0 H')
    (hb : ∀ n x σ' H' T, xs[n]? = some x → Pv n σ' H' → H' T = none → tb ⟨Pv (n + 1), D.rt, D.nx, Pv (n + 1)⟩ ((σ'.set i (some (.int (n : Nat)))).set j (some x)) (upd H' T (.tup [.int (n : Nat), x])))
    (hd : ∀ σ' H', Pv xs.length σ' H' → D.nx σ' H') : tFor (iEnumS K (tCons (tVar i0) tNil)) (g2 K i j) tb D σ H := by
  have sH := hx _ _ _ h0
  rcases hs with hs | hs
  · refine .inl (g_cons (g_var e (g_nil ⟨a, xs, rfl, sH.seq hs, fun i m σ H => m = xs.length - i ∧ i ≤ xs.length ∧ Pv i σ H, ⟨xs.length, by omega, Nat.zero_le _, h0⟩, ?_⟩)))
    rintro n m σ H ⟨rfl, hi, p⟩
    have q := (hx _ _ _ p).seq hs
    by_cases hlt : n < xs.length
    · refine .inr ⟨⟨xs, xs[n], q, by simp [hlt]⟩, Pv (n + 1), fun σ' H' p' => ⟨xs.length - (n + 1), by omega, rfl, hlt, p'⟩, fun x H' yl => ?_⟩
      obtain ⟨T, z, rfl, nT, rfl, ez⟩ := yl
      exact g_pair (tupU upd_same) (hb n z σ H T (ez xs q) p nT)
    · have e2 : n = xs.length := by omega
      subst e2
      exact .inl ⟨⟨xs, q, Nat.le_refl _⟩, hd σ H p⟩
  · have st : ∀ {H' : Hp}, Same H0 H' → SqT K H' a xs := fun s => (Same.x (q := a + 1) s).tup (Nat.ne_of_lt (Nat.lt_succ_self a)) hs
    refine .inr (g_cons (g_var e (g_nil ⟨a, xs, rfl, st sH, fun i m σ H => m = xs.length - i ∧ i ≤ xs.length ∧ Pv i σ H, ⟨xs.length, by omega, Nat.zero_le _, h0⟩, ?_⟩)))
    rintro n m σ H ⟨rfl, hi, p⟩
    have q := st (hx _ _ _ p)
    by_cases hlt : n < xs.length
    · refine .inr ⟨⟨xs, xs[n], q, by simp [hlt]⟩, Pv (n + 1), fun σ' H' p' => ⟨xs.length - (n + 1), by omega, rfl, hlt, p'⟩, fun x H' yl => ?_⟩
      obtain ⟨T, z, rfl, nT, rfl, ez⟩ := yl
      exact g_pair (tupU upd_same) (hb n z σ H T (ez xs q) p nT)
    · have e2 : n = xs.length := by omega
      subst e2
      exact .inl ⟨⟨xs, q, Nat.le_refl _⟩, hd σ H p⟩
/-- a comprehension over enumerate(a), a a tuple -/
theorem lcgo_enumT {a : Addr} {xs : List V} {i j : Nat} (Pv : Addr → Nat → Hp → Prop) (hw : ∀ x y, wipe (((wipe σ vs).set i (some x)).set j (some y)) vs = wipe σ vs)
    (h0 : ∀ D, H1 D = none → Pv D 0 (upd H1 D (.lst []))) (hl : ∀ D n H, n ≤ xs.length → Pv D n H → SqT K H a xs)
    (hs : ∀ D n x T H, H1 D = none → xs[n]? = some x → Pv D n H → H T = none → tt (((wipe σ vs).set i (some (.int (n : Nat)))).set j (some x)) (upd H T (.tup [.int (n : Nat), x])) fun b H3 =>
      if b = true then te (((wipe σ vs).set i (some (.int (n : Nat)))).set j (some x)) H3 fun y H4 => ∃ acc, H4 D = some (.lst acc) ∧ acc.length < sizeLine ∧ Pv D (n + 1) (upd H4 D (.lst (acc ++ [y]))) else Pv D (n + 1) H3)
    (hd : ∀ D H, H1 D = none → Pv D xs.length H → Q (.ref D) H) : LcGo (IteT K a) (g2 K i j) tt te vs σ H1 Q := by
  intro D hD
  refine ⟨fun n m H => m = xs.length - n ∧ n ≤ xs.length ∧ Pv D n H, ⟨xs.length, by omega, Nat.zero_le _, h0 D hD⟩, ?_⟩
  rintro n m H ⟨rfl, hi, p⟩
  have q := hl D n H hi p
  by_cases hlt : n < xs.length
  · refine .inr ⟨⟨xs, xs[n], q, by simp [hlt]⟩, Pv D (n + 1), fun H' p' => ⟨xs.length - (n + 1), by omega, rfl, hlt, p'⟩, fun x H' yl => ?_⟩
    obtain ⟨T, z, rfl, nT, rfl, ez⟩ := yl
    exact g_pair (tupU upd_same) ⟨hw _ _, hs D n z T H hD (ez xs q) p nT⟩
  · have e2 : n = xs.length := by omega
    subst e2
    exact .inl ⟨⟨xs, q, Nat.le_refl _⟩, hd D H hD p⟩
theorem g_lcE {ta : TA} {g : TG} (q : ta σ H fun us H1 => ∃ a xs, us = [.ref a] ∧ SqT K H1 a xs ∧ LcGo (IteT K a) g tt te vs σ H1 Q) : tLc (iEnumT K ta) g tt te vs σ H Q := q
/-- max of two, list of .., a part of a tuple -/
def rMax2 : List V → Hp → VK → Prop := fun xs H Q => ∃ i j, xs = [.int i, .int j] ∧ Q (.int (if j > i then j else i)) H
theorem call_max2R {X : Cx} (hc : X.calm = true) : CallR X (.builtin "max") rMax2 := call_max2 hc
theorem g_max2 {i j : Int} (q : Q (.int (if j > i then j else i)) H) : rMax2 [.int i, .int j] H Q := ⟨i, j, rfl, q⟩
def rLstOf (K : PySem.W.Frag) : List V → Hp → VK → Prop := fun xs H Q => ∃ p ys, xs = [.ref p] ∧ (SqL K H p ys ∨ SqT K H p ys) ∧ ∀ l, H l = none → Q (.ref l) (upd H l (.lst ys))
theorem call_lstOf {X : Cx} : CallR X (.type "list") (rLstOf X.K) := call_list_of
theorem g_lstOf {a : Addr} {xs : List V} (h : Sq K H a xs) (q : ∀ p H2, H p = none → Same H H2 → H2 p = some (.lst xs) → Q (.ref p) H2) : rLstOf K [.ref a] H Q :=
  ⟨a, xs, rfl, h, fun p hp => q p _ hp (same_new hp) upd_same⟩
theorem sIx_def (n : Nat) (d : Nat) (k : Int) : HT.sIx n d (some k) = HT.sIx n 0 (some k) := rfl
theorem cut_hi {xs : List V} {k : Nat} (h : k ≤ xs.length) : cutV xs none (some (k : Int)) = xs.take k := by
  have e : HT.sIx xs.length xs.length (some (k : Int)) = k := by
    simp only [HT.sIx]
    rw [if_neg (by omega)]
    omega
  unfold cutV
  rw [e]
  show (xs.drop 0).take (k - 0) = _
  rw [List.drop_zero, Nat.sub_zero]
theorem cut_m1 {xs : List V} (h : xs ≠ []) : HT.sIx xs.length xs.length (some (-1)) = xs.length - 1 := by
  have : 0 < xs.length := List.length_pos_iff.mpr h
  simp only [HT.sIx]
  rw [if_pos (by decide)]
  omega
theorem cut_lo1 {xs : List V} : cutV xs (some 1) none = xs.drop 1 := by
  have e2 : HT.sIx xs.length xs.length none = xs.length := rfl
  have e : HT.sIx xs.length 0 (some 1) = min 1 xs.length := by
    simp only [HT.sIx]
    rw [if_neg (by decide)]
    omega
  unfold cutV
  rw [e, e2]
  cases xs with
  | nil => rfl
  | cons z r =>
    rw [show min 1 (z :: r).length = 1 by simp only [List.length_cons]; omega]
    show r.take ((z :: r).length - 1) = r
    simp
theorem g_slTm1 {a : Addr} {xs : List V} (h : SqT K H a xs) (hne : xs ≠ []) (q : ∀ p H2, H p = none → Same H H2 → H2 p = some (.tup (xs.take (xs.length - 1))) → Q (.ref p) H2) : rSlT K (.ref a) none (some (-1)) H Q := by
  have hl : 0 < xs.length := List.length_pos_iff.mpr hne
  have e := cut_m1 hne
  refine ⟨a, xs, rfl, h, fun z => ?_, fun p hp => ?_⟩
  · rw [e] at z
    omega
  · have e2 : cutV xs none (some (-1)) = xs.take (xs.length - 1) := by
      unfold cutV
      rw [e]
      show (xs.drop 0).take (xs.length - 1 - 0) = _
      rw [List.drop_zero, Nat.sub_zero]
    rw [e2]
    exact q p _ hp (same_new hp) upd_same
/-- a place from behind -/
theorem at_m1 {xs : List V} {x : V} (h : xs[xs.length - 1]? = some x) : atI xs (-1) = some x := by
  have hl : xs.length - 1 < xs.length := (List.getElem?_eq_some_iff.mp h).1
  have e : ixN xs.length (-1) = some (xs.length - 1) := by
    unfold ixN
    rw [if_neg (by decide), if_pos (by omega)]
    congr 1
    omega
  unfold atI
  rw [e]
  exact h
theorem g_star {t : TA} {R : List V → Hp → Prop} (q : te σ H fun x H1 => ∃ p xs, x = V.ref p ∧ (SqT K H1 p xs ∨ SqL K H1 p xs) ∧ t σ H1 fun ys H2 => R (xs ++ ys) H2) : StX.tStar K te t σ H R := q
end
theorem pe_globI {X : Cx} {x : Str} {i : Int} {pos : Pos} (hg : Gl X x) (hm : ∃ t, X.mg x = some (.int i t)) (hd : (x == ("__debug__" : Str)) = false := by decide) : PE X (.Name x pos) (tC (.int i)) := by
  obtain ⟨t, e⟩ := hm
  exact pe_glob hg e ⟨t, rfl⟩ hd
/-- f(e, .., k = e, ..): n by place, the rest by names -/
def Pm (x : Str) (st : Stmt) (ps ks : List Str) (n : Nat) : Prop := ∀ (kV doc pm : Value) (an : Option Addr) (cdv ct : Value) (us ws : List Value), us.length = n → ws.length = ks.length →
  bindArgs (PySem.W.fnOf x x (defArgs st) (defBody st) (defScope st) .none kV doc pm an cdv ct) ⟨us, ks.zip ws⟩ = pure (ps.zip (us ++ ws))
section
variable {X : Cx} {k j n : Nat} {ps ks : List Str} {sp : Sp} {x : Str} {p pos : Pos} {e : Expr} {es : List Expr} {t tk : TA} {st : Stmt} {kws : List Keyword}
def tClM (sp : Sp) (n m : Nat) (t tk : TA) : TE := fun σ H Q => t σ H fun vs H1 => tk σ H1 fun zs H2 => vs.length = n ∧ zs.length = m ∧ sp (vs ++ zs) H2 Q E0
theorem pe_fm (c : Cl (cnOf X) k x st ps sp) (hA : X.A.guards = some []) (hr : Room j X.A) (hk : k ≤ j) (hp : Pm x st ps ks n) (hg : Gl X x) (ha : PA X (e :: es) t) (hkw : PK X kws tk)
    (hall : (backToKw pos (keywordEach kws X.env)).all (·.1.isSome) = true := by rfl) (hks : (backToKw pos (keywordEach kws X.env)).filterMap (·.1) = ks := by rfl)
    (hdb : (x == ("__debug__" : Str)) = false := by decide)
    (hpl : ((backTo pos (starEach (e :: es) X.env)).any (·.1) || (backToKw pos (keywordEach kws X.env)).any (·.1.isNone)) = false := by rfl)
    (he : starEach (e :: es) X.env = (false, eval e X.env) :: starEach es X.env := by rfl) :
    PE X (.Call (.Name x p) (e :: es) kws pos) (tClM sp n ks.length t tk) := by
  obtain ⟨f, fd, F, hm, W⟩ := c.ex
  refine ⟨fun pins s σ H Q I h => ?_⟩
  refine wpAny_Call_Name_kw (ld_glob I hg hm ?_ hdb)
  refine PySem.W.callWith_KW (h₀ := X.base) I.ok.mod.kin W.kp hall (thn (ha.run pos pins s σ H _ I h) fun us s1 ⟨vs, H1, I1, rv1, q1⟩ => thn (hkw.run pos pins s1 σ H1 _ I1 q1) ?_) hpl he
  intro ws s2 ⟨zs, H2, I2, rz, l1, l2, q2⟩
  refine ⟨I2.kIn, ?_⟩
  rw [hks]
  have e1 : us.length = n := by rw [← rv1.length]; exact l1
  have e2 : ws.length = ks.length := by rw [← rz.length]; exact l2
  have hb : BindsTo s2 fd ⟨us, ks.zip ws⟩ (ps.zip (us ++ ws)) := by
    obtain ⟨oc, od, kV, doc, pm, an, cdv, ct, osl, rfl, lk, hcd⟩ := W.ex
    exact .of_eq (hp kV doc pm an cdv ct us ws e1 e2)
  have r2 : Vals (vs ++ zs) (us ++ ws) := rv1.append rz
  refine wpAny_call (codeAny_mono (F.go X.A hA X.stack s2 H2 ⟨us, ks.zip ws⟩ (us ++ ws) (vs ++ zs) Q E0 (hr.mono hk) I2.env0 hb r2 q2) ?_)
  intro r s' hq
  cases r with
  | error e => exact pass0 pins σ H2 s2 e s' I2 hq
  | ok fl => cases fl with
    | ret u => exact I2.after hq
    | next => exact hq.elim
    | brk => exact hq.elim
    | cont => exact hq.elim
theorem g_clm {K : PySem.W.Frag} {σ : L2.St} {H : Hp} {Q : VK} {m : Nat} (q : t σ H fun vs H1 => tk σ H1 fun zs H2 => vs.length = n ∧ zs.length = m ∧ sp (vs ++ zs) H2 Q E0) : tClM sp n m t tk σ H Q := q
end
/-! ### promises -/
def RetL (rs : List Rat) (H : Hp) (Q : VK) : Prop := ∀ p H' vs, Same H H' → H p = none → H' p = some (.tup vs) → TL H' vs rs → Q (.ref p) H'
def sp_low (K : PySem.W.Frag) : Sp := fun vs H Q _ => ∃ (u d : Int), vs = [.int u, .int d] ∧ 1 ≤ d ∧ Bt 8000 d ∧ RetT (Rat.divInt u d) H Q
def sp_lbin (f : Rat → Rat → Rat) (K : PySem.W.Frag) : Sp := fun vs H Q _ => ∃ a b r s m n, vs = [.ref a, .ref b] ∧ H a = some (.tup (rv r)) ∧ H b = some (.tup (rv s)) ∧ Rb m r ∧ Rb n s ∧ m + n ≤ 7000 ∧ RetT (f r s) H Q
def sp_lrat (K : PySem.W.Frag) : Sp := fun vs H Q _ => ∃ (q : Addr) (t : Int), vs = [.ref q] ∧ Qy K q t H ∧ t ≤ 999990 ∧
  ∀ t' H' p r, SameX q H H' → Qy K q t' H' → t ≤ t' → t' ≤ t + 5 → H p = none → H' p = some (.tup (rv r)) → Rb 12 r → Q (.ref p) H'
/-- a list at H -/
def isL (H : Hp) (b : Addr) : Prop := ∃ acc, H b = some (.lst acc)
def sp_las (K : PySem.W.Frag) : Sp := fun vs H Q _ => ∃ (q p : Addr) (t : Int) (r : Rat), vs = [.ref q, .ref p] ∧ Qy K q t H ∧ t ≤ 999990 ∧ H p = some (.tup (rv r)) ∧ Rb 100 r ∧
  ∀ t' H' v x y, SameX q H H' → Qy K q t' H' → t ≤ t' → t' ≤ t + 2 → Fz (isL H) H' v x y → 1 ≤ y → Rat.divInt x y = r → Bt 140 x → Bt 140 y → Q v H'
def sp_row (K : PySem.W.Frag) : Sp := fun vs H Q _ => ∃ (q : Addr) (t m : Int), vs = [.ref q, .int m] ∧ Qy K q t H ∧ t ≤ 999000 ∧ 0 ≤ m ∧ m ≤ 100 ∧
  ∀ t' H' p vs' rs, SameX q H H' → Qy K q t' H' → t ≤ t' → t' ≤ t + 1 + 5 * m → H p = none → Qn q p H' → H' p = some (.lst vs') → TL H' vs' rs → RbL 12 rs → (rs.length : Int) ≤ m → Q (.ref p) H'
def sp_trim (K : PySem.W.Frag) : Sp := fun vs H Q _ => ∃ a xs rs, vs = [.ref a] ∧ SqL K H a xs ∧ TL H xs rs ∧ xs.length ≤ 1000 ∧ RetL (trimR rs) H Q
def sp_rpoly (K : PySem.W.Frag) : Sp := fun vs H Q _ => ∃ q a xs ds n part, vs = [.ref a, part] ∧ a ≠ q ∧ Sq K H a xs ∧ DqAll q K H xs ds ∧ (∀ d ∈ ds, isFrD d = true ∧ Bt n (upD d) ∧ Bt n (dnD d)) ∧ n ≤ 7000 ∧ ds.length ≤ 80 ∧ RetL (trimR (ds.map valQ)) H Q
def sp_lprod (K : PySem.W.Frag) : Sp := fun vs H Q _ => ∃ a b xs ys f g A B C, vs = [.ref a, .ref b] ∧ Sq K H a xs ∧ Sq K H b ys ∧ TL H xs f ∧ TL H ys g ∧ RbL A f ∧ RbL B g ∧ (∀ i n, Rb C (cs (co f) (co g) i n)) ∧ 1 ≤ A ∧ 1 ≤ B ∧ A + B + C ≤ 7000 ∧ xs.length ≤ 200 ∧ ys.length ≤ 200 ∧ RetL (trimR (conv f g)) H Q
def sp_lsum (K : PySem.W.Frag) : Sp := fun vs H Q _ => ∃ a b xs ys f g A B, vs = [.ref a, .ref b] ∧ Sq K H a xs ∧ Sq K H b ys ∧ TL H xs f ∧ TL H ys g ∧ RbL A f ∧ RbL B g ∧ 1 ≤ A ∧ 1 ≤ B ∧ A + B ≤ 7000 ∧ xs.length ≤ 200 ∧ ys.length ≤ 200 ∧ RetL (trimR (padd f g)) H Q
end Mf
namespace Mf
open PySem PySem.Spec PyProof.Rows L2
section
variable {K : PySem.W.Frag} {σ : L2.St} {H : Hp} {Q : VK}
theorem for_itc {lo c : Int} {n : Nat} {g : TG} {tb : TS} {D : Ends} (Pv : Nat → L2.St → Hp → Prop) (h0 : Pv 0 σ H)
    (hs : ∀ i σ H, i < n → Pv i σ H → g (.int (lo + (i : Nat) * c)) σ H fun σ2 H2 => tb { D with nx := Pv (i + 1), ct := Pv (i + 1), bk := D.nx } σ2 H2) (hd : ∀ σ H, Pv n σ H → D.nx σ H) :
    ∃ W : Nat → Nat → L2.St → Hp → Prop, (∃ m, W 0 m σ H) ∧ ∀ i m σ H, W i m σ H →
      ((Itc lo c n).stop i H ∧ D.nx σ H) ∨ ((Itc lo c n).go i H ∧ ∃ N : L2.St → Hp → Prop, (∀ σ' H', N σ' H' → ∃ m', m' < m ∧ W (i + 1) m' σ' H') ∧ ∀ x H', (Itc lo c n).yld i H x H' → g x σ H' fun σ2 H2 => tb { D with nx := N, ct := N, bk := D.nx } σ2 H2) := by
  refine ⟨fun i m σ H => m = n - i ∧ i ≤ n ∧ Pv i σ H, ⟨n, by omega, Nat.zero_le _, h0⟩, ?_⟩
  rintro i m σ H ⟨rfl, hi, p⟩
  by_cases hlt : i < n
  · refine .inr ⟨hlt, Pv (i + 1), fun σ' H' p' => ⟨n - (i + 1), by omega, rfl, hlt, p'⟩, fun x H' y => ?_⟩
    obtain ⟨rfl, rfl⟩ := y
    exact hs i σ H' hlt p
  · have e : i = n := by omega
    subst e
    exact .inl ⟨Nat.le_refl _, hd σ H p⟩
theorem fr_at {q a : Addr} {acc : List V} {r : Rat} {n : Nat} (hq : H q = some (.lst acc)) (e : H a = some (.tup (rv r))) (b : Rb n r) : Fr q K H (.ref a) r n :=
  .tup (tupU e) (fun z => by rw [z, hq] at e; cases e) b
end
theorem div_nat (n : Nat) : Rat.divInt (n : Int) 1 = (n : Rat) := by
  have e : Rat.divInt (n : Int) 1 = Rat.divInt (n : Rat).num (n : Rat).den := rfl
  rw [e, Rat.num_divInt_den]
theorem rv_nat (n : Nat) : rv (n : Rat) = [.int (n : Int), .int 1] := rfl
def fullS (l : List Rat) : List Rat := (List.range l.length).map fun (n : Nat) => (n : Rat) * co l n
theorem len_full (l : List Rat) : (fullS l).length = l.length := by simp [fullS]
theorem get_full {l : List Rat} {n : Nat} (h : n < l.length) : (fullS l)[n]? = some ((n : Rat) * co l n) := by
  unfold fullS
  rw [List.getElem?_map, List.getElem?_range h]
  rfl
theorem get_slope {l : List Rat} {n : Nat} (h : n + 1 < l.length) : (slope l)[n]? = some (((n + 1 : Nat) : Rat) * co l (n + 1)) := by
  unfold slope
  rw [List.getElem?_map, List.getElem?_range (by omega)]
  rfl
theorem drop_full (l : List Rat) (j : Nat) : co ((fullS l).drop 1) j = co (slope l) j := by
  by_cases h : j + 1 < l.length
  · rw [co_some (get_slope h), co_some (r := ((j + 1 : Nat) : Rat) * co l (j + 1))]
    rw [List.getElem?_drop, show 1 + j = j + 1 by omega]
    exact get_full h
  · rw [co_ge (by rw [List.length_drop, len_full]; omega), co_ge (l := slope l) (by rw [len_slope]; omega)]
theorem get_dlow {g rest : List Rat} {s n : Nat} (h : n < g.length - 1) : (dlow g rest s)[n]? = some (co rest (s + n) - dsh g rest * co g n) := by
  unfold dlow
  rw [List.getElem?_map, List.getElem?_range h]
  rfl
theorem Rb_nat {n : Nat} (h : n < 2 ^ 10) : Rb 10 (n : Rat) := ⟨by show (n : Int).natAbs < _; rw [Int.natAbs_natCast]; exact h, by show (1 : Int).natAbs < 2 ^ 10; decide⟩
/-- what a division hands back -/
def RetP (f g : List Rat) (H : Hp) (Q : VK) : Prop := ∀ p H' p1 p2 vs1 vs2, Same H H' → H p = none → H' p = some (.tup [.ref p1, .ref p2]) → H' p1 = some (.tup vs1) → H' p2 = some (.tup vs2) →
  TL H' vs1 (trimR (drun g (f.length + 1 - g.length) (List.replicate (f.length + 1 - g.length) 0) f).1) → TL H' vs2 (trimR (drun g (f.length + 1 - g.length) (List.replicate (f.length + 1 - g.length) 0) f).2) → Q (.ref p) H'
def sp_parted (K : PySem.W.Frag) : Sp := fun vs H Q _ => ∃ a b xs ys f g B, vs = [.ref a, .ref b] ∧ H a = some (.tup xs) ∧ H b = some (.tup ys) ∧ TL H xs f ∧ TL H ys g ∧ g ≠ [] ∧ co g (g.length - 1) ≠ 0 ∧ 1 ≤ B ∧ B ≤ 2300 ∧ RbL B g ∧
  dfits B g (f.length + 1 - g.length) f ∧ f.length ≤ 100 ∧ g.length ≤ 100 ∧ RetP f g H Q
def sp_pparted (K : PySem.W.Frag) : Sp := fun vs H Q _ => ∃ q a b xs ys ds es n f g B, vs = [.ref a, .ref b] ∧ a ≠ q ∧ b ≠ q ∧ Sq K H a xs ∧ Sq K H b ys ∧ DqAll q K H xs ds ∧ DqAll q K H ys es ∧
  (∀ d ∈ ds, isFrD d = true ∧ Bt n (upD d) ∧ Bt n (dnD d)) ∧ (∀ d ∈ es, isFrD d = true ∧ Bt n (upD d) ∧ Bt n (dnD d)) ∧ n ≤ 7000 ∧ ds.length ≤ 80 ∧ es.length ≤ 80 ∧ f = trimR (ds.map valQ) ∧ g = trimR (es.map valQ) ∧ g ≠ [] ∧ 1 ≤ B ∧ B ≤ 2300 ∧ RbL B g ∧
  dfits B g (f.length + 1 - g.length) f ∧ RetP f g H Q
def sp_slope (K : PySem.W.Frag) : Sp := fun vs H Q _ => ∃ q a xs ds n, vs = [.ref a] ∧ a ≠ q ∧ Sq K H a xs ∧ DqAll q K H xs ds ∧ (∀ d ∈ ds, isFrD d = true ∧ Bt n (upD d) ∧ Bt n (dnD d)) ∧ 1 ≤ n ∧ n ≤ 6000 ∧ ds.length ≤ 80 ∧ RetL (slope (trimR (ds.map valQ))) H Q
def sp_lslope (K : PySem.W.Frag) : Sp := fun vs H Q _ => ∃ a xs rs n, vs = [.ref a] ∧ H a = some (.tup xs) ∧ TL H xs rs ∧ RbL n rs ∧ 1 ≤ n ∧ n ≤ 6000 ∧ xs.length ≤ 100 ∧ RetL (trimR (slope rs)) H Q
end Mf
namespace Mf
open PySem PySem.Spec PyProof.Rows L2
/-! ### what the laws say of polynomials -/
theorem co_rep (N n : Nat) : co (List.replicate N 0) n = 0 := by
  by_cases z : n < N
  · rw [co_get (by rw [List.length_replicate]; exact z), List.getElem_replicate]
  · exact co_ge (by rw [List.length_replicate]; omega)
theorem pc_rep (N : Nat) (b : Nat → Rat) (n : Nat) : pc (co (List.replicate N 0)) b n = 0 := by
  rw [← cs_pc _ b n 0 fun k _ => co_rep N k]
  rfl
abbrev dQ (f g : List Rat) : List Rat := trimR (drun g (f.length + 1 - g.length) (List.replicate (f.length + 1 - g.length) 0) f).1
abbrev dR (f g : List Rat) : List Rat := trimR (drun g (f.length + 1 - g.length) (List.replicate (f.length + 1 - g.length) 0) f).2
theorem d_spec {f g : List Rat} (hg : g ≠ []) (hl : co g (g.length - 1) ≠ 0) : (dQ f g).length ≤ f.length + 1 - g.length ∧ (dR f g).length < g.length ∧ ∀ n, pc (co (dQ f g)) (co g) n + co (dR f g) n = co f n := by
  have g0 : 0 < g.length := List.length_pos_iff.mpr hg
  obtain ⟨h1, h2, h3⟩ := drun_spec hg hl (f.length + 1 - g.length) (List.replicate (f.length + 1 - g.length) 0) f (by rw [List.length_replicate]; exact Nat.le_refl _) (by omega) (fun k _ => co_rep _ k)
  refine ⟨?_, ?_, fun n => ?_⟩
  · have := len_trim_le (drun g (f.length + 1 - g.length) (List.replicate (f.length + 1 - g.length) 0) f).1
    rw [h1, List.length_replicate] at this
    exact this
  · exact Nat.lt_of_le_of_lt (len_trim_le _) h2
  · rw [co_trim, pc_congr (co_trim _) (fun _ => rfl), h3 n, pc_rep, Rat.zero_add]
theorem d_back {f g : List Rat} (hf : Tr f) (hg : g ≠ []) (hl : co g (g.length - 1) ≠ 0) : trimR (padd (trimR (conv (dQ f g) g)) (dR f g)) = f := by
  refine (tr_trim _).ext hf fun n => ?_
  rw [co_trim, co_padd, co_trim, co_conv]
  exact (d_spec hg hl).2.2 n
theorem d_of {f g a r : List Rat} (hg : g ≠ []) (hl : co g (g.length - 1) ≠ 0) (ha : Tr a) (hr : Tr r) (lr : r.length < g.length) (h : ∀ n, pc (co a) (co g) n + co r n = co f n) : dQ f g = a ∧ dR f g = r := by
  obtain ⟨h1, h2, h3⟩ := d_spec (f := f) hg hl
  obtain ⟨u1, u2⟩ := div_uniq hg hl (d := fun k => co (dQ f g) k - co a k) (e := fun k => co (dR f g) k - co r k) (N := max (dQ f g).length a.length)
    (fun k hk => by rw [co_ge (l := dQ f g) (by omega), co_ge (l := a) (by omega)]; grind) (fun k hk => by rw [co_ge (l := dR f g) (by omega), co_ge (l := r) (by omega)]; grind)
    (fun n => by
      rw [pc_sub_left]
      have e1 := h3 n
      have e2 := h n
      grind)
  refine ⟨(tr_trim _).ext ha fun k => ?_, (tr_trim _).ext hr fun k => ?_⟩
  · have := u1 k
    grind
  · have := u2 k
    grind
theorem slope_prod (a b : List Rat) : slope (trimR (conv a b)) = trimR (padd (trimR (conv (trimR (slope a)) b)) (trimR (conv a (trimR (slope b))))) := by
  refine (tr_slope (tr_trim _)).ext (tr_trim _) fun n => ?_
  rw [co_slope, co_trim, co_padd, co_trim, co_trim, co_conv, co_conv]
  unfold slp
  rw [co_trim, co_conv, slp_cs]
  rw [pc_congr (a := co (trimR (slope a))) (a' := slp (co a)) (fun i => by rw [co_trim, co_slope]) (fun _ => rfl), pc_congr (a := co a) (b := co (trimR (slope b))) (b' := slp (co b)) (fun _ => rfl) (fun i => by rw [co_trim, co_slope])]
theorem trim_snoc0 (l : List Rat) : trimR (l ++ [0]) = trimR l := trim_eq fun n => by
  rw [co_append]
  by_cases z : n < l.length
  · rw [if_pos z]
  · rw [if_neg z, co_ge (l := l) (by omega)]
    by_cases z2 : n - l.length = 0
    · rw [z2]
      rfl
    · exact co_ge (by simp; omega)
/-- sizes of drawn ones -/
theorem fits1 {f g : List Rat} (bf : RbL 12 f) (bg : RbL 12 g) (lf : f.length ≤ 9) (lg : g.length ≤ 4) (hg : g ≠ []) (hl : co g (g.length - 1) ≠ 0) : dfits 800 g (f.length + 1 - g.length) f := by
  have g0 : 0 < g.length := List.length_pos_iff.mpr hg
  obtain ⟨W, w1, w2, w3⟩ := sc_of bf
  obtain ⟨D, d1, d2, d3⟩ := sc_of bg
  refine dfits_of hg hl (d := 49) (kg := 61) d1 (d2.mono (by omega)) (fun i => (d3 i).mono (by omega)) _ f W 109 121 (by omega) w1 (w2.mono (by omega)) (fun i => (w3 i).mono (by omega)) ?_ ?_ <;> omega
theorem fits2 {f g r h : List Rat} (bf : RbL 12 f) (bg : RbL 12 g) (br : RbL 12 r) (lf : f.length ≤ 9) (lg : g.length ≤ 4) (lr : r.length ≤ 3) (hg : g ≠ []) (hl : co g (g.length - 1) ≠ 0) (lh : h.length + 1 - g.length ≤ 9) (e : ∀ n, pc (co f) (co g) n + co r n = co h n) :
    dfits 1000 g (h.length + 1 - g.length) h := by
  have g0 : 0 < g.length := List.length_pos_iff.mpr hg
  obtain ⟨W, w1, w2, w3⟩ := sc_of bf
  obtain ⟨D, d1, d2, d3⟩ := sc_of bg
  obtain ⟨V, v1, v2, v3⟩ := sc_of br
  have bW : Bt 109 W := w2.mono (by omega)
  have bD : Bt 49 D := d2.mono (by omega)
  have bV : Bt 37 V := v2.mono (by omega)
  have WD := mul_ge1 w1 d1
  refine dfits_of hg hl (d := 49) (kg := 61) d1 bD (fun i => (d3 i).mono (by omega)) _ h (W * D * V) 195 229 (by omega) (mul_ge1 WD v1) (((bW.mul bD).mul bV).mono (by omega)) (fun i => ?_) (by omega) (by omega)
  rw [← e i, ← cs_co]
  have s1 := (sc_pc w1 d1 (fun i => (w3 i).mono (show _ ≤ 121 by omega)) (fun i => (d3 i).mono (show _ ≤ 61 by omega)) f.length i).scale WD v1 bV
  have s2 := (v3 i).scale v1 WD (bW.mul bD)
  rw [Int.mul_comm] at s2
  exact ((s1.mono (show _ ≤ 228 by omega)).add (s2.mono (show _ ≤ 228 by omega)) (mul_ge1 WD v1)).mono (by omega)
theorem len_whole {f g r : List Rat} (lf : f.length ≤ 9) (g0 : 0 < g.length) (lr : r.length < g.length) : (trimR (padd (trimR (conv f g)) r)).length + 1 - g.length ≤ 9 := by
  have h1 := len_trim_le (padd (trimR (conv f g)) r)
  rw [len_padd] at h1
  have h2 := len_trim_le (conv f g)
  rw [len_conv] at h2
  omega
theorem rds_val : ∀ rs : List Rat, (rs.map rd).map valQ = rs
  | [] => rfl
  | r :: rs => by
    rw [List.map_cons, List.map_cons, rd_val, rds_val rs]
theorem rds_ok {n : Nat} {rs : List Rat} (h : RbL n rs) : ∀ d ∈ rs.map rd, isFrD d = true ∧ Bt n (upD d) ∧ Bt n (dnD d) := by
  intro d hd
  obtain ⟨r, hr, rfl⟩ := List.mem_map.mp hd
  exact ⟨rd_fr r, (h r hr).1, (h r hr).2⟩
theorem RbL.of_val {n : Nat} {ds : List PyData} {rs : List Rat} (h : ∀ d ∈ ds, isFrD d = true ∧ Bt n (upD d) ∧ Bt n (dnD d)) (e : ds.map valQ = rs) : RbL n rs := by
  intro r hr
  rw [← e] at hr
  obtain ⟨d, hd, rfl⟩ := List.mem_map.mp hr
  obtain ⟨f1, f2, f3⟩ := h d hd
  exact Rb.of (fr_dn f1) f2 f3
/-! ### steps -/
section
variable {K : PySem.W.Frag} {σ : L2.St} {H H1 : Hp} {Q : VK} {te : TE} {tt : TT} {vs : List Nat} {q p : Addr}
theorem cut_P (P : V → Hp → Prop) (h1 : ∀ Q' : VK, (∀ v H', P v H' → Q' v H') → te σ H Q') (h2 : ∀ v H', P v H' → Q v H') : te σ H Q := h1 Q h2
theorem g_lcTu {g : TG} {tl : TE} (h : tl σ H fun x H1 => ∃ a, x = .ref a ∧ (∃ xs, SqT K H1 a xs) ∧ LcGo (Itt K a) g tt te vs σ H1 Q) : tLc (iTup K tl) g tt te vs σ H Q := h
theorem dq_poly {acc ws : List V} {rs : List Rat} (hq : H q = some (.lst acc)) (e : H p = some (.tup ws)) (t : TL H ws rs) : Dq q K H (.ref p) (.tuple (rs.map rd)) :=
  .tup (fun z => by rw [z, hq] at e; cases e) (tupU e) (TL.data hq t)
/-- a comprehension of fractions told in some way -/
theorem lc_as {i1 j : Nat} {t : Int} {ws : List V} {rs : List Rat} (hq : Qy K q t H) (ht : t ≤ 900000) (ep : H p = some (.tup ws)) (tl : TL H ws rs) (b : RbL 100 rs) (l : rs.length ≤ 200)
    (hw : ∀ x, wipe ((wipe σ vs).set j (some x)) vs = wipe σ vs) (h1 : ∀ x, ((wipe σ vs).set j (some x))[i1]? = some (some (.ref q))) (h2 : ∀ x, ((wipe σ vs).set j (some x))[j]? = some (some x))
    (k : ∀ D H' t' xs ds, SameX q H H' → Qy K q t' H' → t ≤ t' → t' ≤ t + 2 * (rs.length : Int) → H D = none → D ≠ q → H' D = some (.lst xs) → DqAll q K H' xs ds → (∀ d ∈ ds, isFrD d = true ∧ Bt 140 (upD d) ∧ Bt 140 (dnD d)) → ds.map valQ = rs → Q (.ref D) H') :
    LcGo (Itt K p) (gName j) tYes (tCl (sp_las K) (tCons (tVar i1) (tCons (tVar j) tNil))) vs σ H Q := by
  have lw := tl.len
  refine lcgo_tupF (xs := ws) (fun D i H' => ∃ t' xs fs, Qy K q t' H' ∧ t ≤ t' ∧ t' ≤ t + 2 * (i : Int) ∧ Qn q D H' ∧ SameX q H H' ∧ H' D = some (.lst xs) ∧ xs.length = i ∧ FzAll (fun b => b = q ∨ b = D) H' xs fs ∧ fs.map Fq.q = rs.take i) hw
    (fun D hD => ⟨t, [], [], hq.upd (Qn.new hq hD) (hq.ne hD), by omega, by omega, Qn.upd hq (Qn.new hq hD) (hq.ne hD), Same.x (same_new hD), upd_same, rfl, .nil, rfl⟩)
    (fun D i H' _ h => ?_) (fun D i x H' hD ex h => ?_) (fun D H' hD h => ?_)
  · obtain ⟨t', xs, fs, hq', _, _, _, sx, _⟩ := h
    exact tupU (sx.kt hq _ _ ep)
  · obtain ⟨t', xs, fs, hq', lt', ut', hn', sx, eD, lv, hall, ev⟩ := h
    have hi := (List.getElem?_eq_some_iff.mp ex).1
    have kx := sx.kt hq
    obtain ⟨pi, rfl, ei, gi⟩ := (tl.go kx).get ex
    have nD : D ≠ q := hq.ne hD
    refine g_yes ?_
    refine g_iteT ?_
    refine g_cl (g_cons (g_var (h1 _) (g_cons (g_var (h2 _) (g_nil ?_)))))
    refine ⟨q, pi, t', co rs i, rfl, hq', by omega, ei, b.co (by decide) i, fun t6 H6 v x y sx6 hq6 l6 u6 hz hy er bx by_ => ?_⟩
    have hn6 := hn'.go hq' sx6
    have eD6 := sx6 _ _ nD eD
    refine ⟨xs, eD6, small1000 (by omega), t6, xs ++ [v], fs ++ [⟨x, y, hy, bx, by_⟩], hq6.upd hn6 nD, by omega, by omega, Qn.upd hq6 hn6 nD, ?_, upd_same, by rw [List.length_append, lv]; rfl,
      FzAll.app (f := ⟨x, y, hy, bx, by_⟩) (hz.go fun b o nb eb => ?_) (hall.go fun b o nb eb => ⟨?_, nb⟩), ?_⟩
    · refine ⟨fun b o nb e => ?_, fun c w z e => ?_⟩
      · rw [upd_ne (ne_of_none e hD)]
        exact (sx.trans sx6).kept b o nb e
      · obtain ⟨w', z', e'⟩ := (sx.trans sx6).cell c w z e
        exact ⟨w', z', by rw [upd_ne nD.symm]; exact e'⟩
    · have nbq : b ≠ q := fun z => nb (by obtain ⟨c, ns, r, e1, _⟩ := hq'; rw [z]; exact ⟨_, e1⟩)
      have nbD : b ≠ D := fun z => nb (by rw [z]; exact ⟨_, eD⟩)
      refine ⟨by rw [upd_ne nbD]; exact eb, fun z => ?_⟩
      rcases z with z | z
      · exact nbq z
      · exact nbD z
    · rw [upd_ne (fun z => nb (.inr z))]
      exact sx6 _ _ (fun z => nb (.inl z)) eb
    · rw [List.map_append, ev, take_snoc gi]
      show rs.take i ++ [Fq.q ⟨x, y, hy, bx, by_⟩] = _
      unfold Fq.q
      rw [er]
  · obtain ⟨t', xs, fs, hq', lt', ut', hn', sx, eD, lv, hall, ev⟩ := h
    obtain ⟨ds, hds, hok, eds⟩ := hall.dq (K := K) (q := q) (.inl rfl)
    rw [lw, List.take_length] at ev
    exact k D H' t' xs ds sx hq' lt' (by rw [← lw]; exact ut') hD (hq.ne hD) eD hds hok (eds.trans ev)
/-- lists of polynomials -/
inductive PL (H : Hp) : List V → List (List Rat) → Prop
  | nil : PL H [] []
  | cons {a : Addr} {ws vs : List V} {r : List Rat} {rs : List (List Rat)} : H a = some (.tup ws) → TL H ws r → PL H vs rs → PL H (.ref a :: vs) (r :: rs)
theorem PL.go {H H' : Hp} (s : KeepT H H') : ∀ {vs : List V} {rs : List (List Rat)}, PL H vs rs → PL H' vs rs
  | _, _, .nil => .nil
  | _, _, .cons e t r => .cons (s _ _ e) (t.go s) (PL.go s r)
theorem PL.snoc {a : Addr} {ws : List V} {r : List Rat} (e : H a = some (.tup ws)) (t : TL H ws r) : ∀ {vs : List V} {rs : List (List Rat)}, PL H vs rs → PL H (vs ++ [.ref a]) (rs ++ [r])
  | _, _, .nil => .cons e t .nil
  | _, _, .cons e2 t2 l => .cons e2 t2 (PL.snoc e t l)
theorem PL.get {H : Hp} : ∀ {vs : List V} {rs : List (List Rat)} {i : Nat} {v : V}, PL H vs rs → vs[i]? = some v → ∃ a ws r, v = .ref a ∧ H a = some (.tup ws) ∧ TL H ws r ∧ rs[i]? = some r
  | _, _, _, _, .nil, h => by cases h
  | _, _, 0, _, .cons e t _, h => by
    cases h
    exact ⟨_, _, _, rfl, e, t, rfl⟩
  | _, _, i + 1, v, .cons _ _ l, h => by
    obtain ⟨a, ws, r, h1, h2, h3, h4⟩ := PL.get (i := i) (v := v) l h
    exact ⟨a, ws, r, h1, h2, h3, h4⟩
theorem PL.len {H : Hp} : ∀ {vs : List V} {rs : List (List Rat)}, PL H vs rs → vs.length = rs.length
  | _, _, .nil => rfl
  | _, _, .cons _ _ l => congrArg Nat.succ (PL.len l)
def pd (r : List Rat) : PyData := .tuple (r.map rd)
theorem PL.dp {H : Hp} : ∀ {vs : List V} {rs : List (List Rat)}, PL H vs rs → DpAll K H vs (rs.map pd)
  | _, _, .nil => .nil
  | _, _, .cons e t l => .cons (.tup (tupU e) t.dp) (PL.dp l)
theorem PL.data {H : Hp} {acc : List V} (hq : H q = some (.lst acc)) : ∀ {vs : List V} {rs : List (List Rat)}, PL H vs rs → DqAll q K H vs (rs.map pd)
  | _, _, .nil => .nil
  | _, _, .cons e t l => .cons (dq_poly hq e t) (PL.data hq l)
theorem pl2 {a b : Addr} {wa wb : List V} {ra rb : List Rat} (ea : H a = some (.tup wa)) (ta : TL H wa ra) (eb : H b = some (.tup wb)) (tb : TL H wb rb) : PL H [.ref a, .ref b] [ra, rb] := .cons ea ta (.cons eb tb .nil)
end
/-- two polynomials, shown -/
theorem sha_two {n L1 L2 : Nat} (hn : 1 ≤ n) (l : n ≤ 1900) {a b : List Rat} (ha : RbL n a) (hb : RbL n b) (la : a.length ≤ L1) (lb : b.length ≤ L2) :
    ShA (n + 1) (L1 * (2 * n + 4) + 1 + 1 + (L2 * (2 * n + 4) + 1 + 1 + 0)) 3 [pd a, pd b] := sha_cons (shn_poly hn l ha la) (sha_cons (shn_poly hn l hb lb) (sha_nil (W := 0)))
end Mf
namespace Mf
open PySem PySem.Spec PyProof.Rows L2
theorem rbl_slope {n : Nat} {l : List Rat} (h : RbL n l) (hn : 1 ≤ n) (hl : l.length ≤ 1000) : RbL (10 + n) (slope l) := RbL.of_co fun i hi => by
  rw [len_slope] at hi
  rw [co_slope]
  exact (Rb_nat (by omega)).mul (h.co hn _)
theorem ne_tl {H : Hp} {p q : Addr} {acc ws : List V} (hq : H q = some (.lst acc)) (e : H p = some (.tup ws)) : p ≠ q := fun z => by
  rw [z, hq] at e
  cases e
theorem ne_new {H : Hp} {p q : Addr} {acc : List V} (hq : H q = some (.lst acc)) (e : H p = none) : p ≠ q := fun z => by
  rw [z, hq] at e
  cases e
theorem tr_one {r : Rat} (h : r ≠ 0) : Tr [r] := fun _ => h
theorem tr_two {a r : Rat} (h : r ≠ 0) : Tr [a, r] := fun _ => h
theorem bt_lit {n : Nat} {i : Int} (h : i.natAbs < 8) (hn : 3 ≤ n) : Bt n i := Bt.mono (m := 3) h hn
end Mf
namespace Mf
open PySem PySem.Spec PyProof.Rows L2
local macro_rules | `(tactic| walk_at "mf1") => `(tactic| first
  | ((with_reducible apply g_var); exact rfl)
  | with_reducible first
    | refine g_c ?_ | refine g_op ?_ | refine g_un ?_ | refine g_cb ?_ | refine g_cl ?_ | refine g_clk ?_ | refine g_nil ?_ | refine g_cons ?_
    | refine g_tB ?_ | refine g_test ?_ | refine g_bl ?_ | refine g_and ?_ | refine g_or ?_ | refine g_not ?_ | refine g_andV ?_ | refine g_orV ?_ | refine g_notV ?_
    | refine g_if ?_ | refine g_ifS ?_ | refine g_seq ?_ | refine g_next ?_ | refine g_ret ?_ | refine g_drop ?_ | refine g_asg ?_ | refine g_name ?_ | refine g_sub ?_
    | refine g_int ?_ | refine g_intB ?_ | refine g_abs ?_ | refine g_I0 ?_ | refine g_addI ?_ | refine g_U ?_ | refine g_isNn ?_ | refine g_isNi ?_ | refine g_notN ?_ | refine g_notT1 ?_ | refine g_notT2 ?_ | refine g_notT3 ?_ | refine g_notT4 ?_ | refine g_notTb ?_ | refine g_notTi ?_ | refine g_eqI ?_ | refine g_neI ?_ | refine g_neSs ?_ | refine g_neS ?_ | refine g_eqS ?_
    | refine g_iteT ?_ | refine g_iteF ?_ | refine g_iteNT ?_ | refine g_iteNF ?_ | refine g_lst ?_ | refine g_tup ?_ | refine g_seqP ?_ | refine g_sl ?_ | refine g_noPart ?_ | refine g_part ?_ | refine g_yes ?_ | refine g_thenT ?_ | refine g_consG ?_ | refine g_nilG ?_ | refine g_ii ?_ | refine g_par ?_ | refine g_par3 ?_ | refine g_vv ?_ | refine g_vvv ?_ | refine g_reprB ?_ | refine g_lcL ?_ | refine g_lcR ?_
  | ((with_reducible refine g_mod ?_ ?_); (first | omega | decide))
  | ((with_reducible refine g_div ?_ ?_ ?_); (first | omega | decide); (first | assumption | decide))
  | ((with_reducible refine g_mulL ?_ ?_ ?_); (first | omega | decide); (first | omega | decide))
  | ((with_reducible refine g_mulR ?_ ?_ ?_); (first | omega | decide); (first | omega | decide))
  | ((with_reducible refine g_pow ?_ ?_ ?_ ?_); decide; decide; (first | omega | decide))
  | dsimp only)
local macro_rules | `(tactic| walk_at "mf1s") => `(tactic| first
  | ((with_reducible apply g_var); exact rfl)
  | with_reducible first
    | refine g_c ?_ | refine g_op ?_ | refine g_un ?_ | refine g_cb ?_ | refine g_cl ?_ | refine g_clk ?_ | refine g_nil ?_ | refine g_cons ?_
    | refine g_tB ?_ | refine g_test ?_ | refine g_bl ?_ | refine g_and ?_ | refine g_or ?_ | refine g_not ?_ | refine g_andV ?_ | refine g_orV ?_ | refine g_notV ?_
    | refine g_if ?_ | refine g_ifS ?_ | refine g_next ?_ | refine g_ret ?_ | refine g_drop ?_ | refine g_asg ?_ | refine g_name ?_ | refine g_sub ?_
    | refine g_int ?_ | refine g_intB ?_ | refine g_abs ?_ | refine g_I0 ?_ | refine g_addI ?_ | refine g_U ?_ | refine g_isNn ?_ | refine g_isNi ?_ | refine g_notN ?_ | refine g_notT1 ?_ | refine g_notT2 ?_ | refine g_notT3 ?_ | refine g_notT4 ?_ | refine g_notTb ?_ | refine g_notTi ?_ | refine g_eqI ?_ | refine g_neI ?_ | refine g_neSs ?_ | refine g_neS ?_ | refine g_eqS ?_
    | refine g_iteT ?_ | refine g_iteF ?_ | refine g_iteNT ?_ | refine g_iteNF ?_ | refine g_lst ?_ | refine g_tup ?_ | refine g_seqP ?_ | refine g_sl ?_ | refine g_noPart ?_ | refine g_part ?_ | refine g_yes ?_ | refine g_thenT ?_ | refine g_consG ?_ | refine g_nilG ?_ | refine g_ii ?_ | refine g_par ?_ | refine g_par3 ?_ | refine g_vv ?_ | refine g_vvv ?_ | refine g_reprB ?_ | refine g_lcL ?_ | refine g_lcR ?_
  | ((with_reducible refine g_mod ?_ ?_); (first | omega | decide))
  | ((with_reducible refine g_div ?_ ?_ ?_); (first | omega | decide); (first | assumption | decide))
  | ((with_reducible refine g_mulL ?_ ?_ ?_); (first | omega | decide); (first | omega | decide))
  | ((with_reducible refine g_mulR ?_ ?_ ?_); (first | omega | decide); (first | omega | decide))
  | ((with_reducible refine g_pow ?_ ?_ ?_ ?_); decide; decide; (first | omega | decide))
  | dsimp only)
local macro_rules | `(tactic| walk_at "mfs") => `(tactic| repeat walk_at "mf1s")
local macro_rules | `(tactic| walk_at "mf") => `(tactic| repeat walk_at "mf1")
local macro_rules | `(tactic| walk_at "ed") => `(tactic| repeat (first
  | with_reducible first
    | exact eds_nil | apply eds_cons | exact ed_int | exact ed_bl | exact ed_non | apply ed_neg
  | ((with_reducible apply ed_str); decide)
  | ((with_reducible apply ed_var); (exact rfl); (first | assumption | exact Dq.int _))
  | ((with_reducible apply ed_dict0); assumption)
  | ((with_reducible apply ed_dict2); assumption)
  | ((with_reducible apply ed_tup); assumption)
  | ((with_reducible apply ed_lst); assumption)
  | (with_reducible apply ed_pow)
  | (with_reducible apply ed_mul)
  | assumption
  | (exact Dq.int _)
  | (exact ⟨by decide, by decide, by decide⟩)
  | (show List.length _ ≤ 1000; simp only [List.length_cons, List.length_nil]; decide)))
def topS (i : Nat) : Stmt := PySem.Challenge.pw_mapflow_k41_polynomials_divided.main.body.getD i (.Pass ⟨0, 0, 0, 0⟩)
abbrev s_is_integer : Stmt := topS 2
theorem sc_is_integer : FnScope ["value"] ["value"] (defScope s_is_integer) := ⟨rfl, rfl, rfl, by decide +kernel, rfl, by decide +kernel, by decide +kernel⟩
theorem pl_is_integer : Pl "is_integer" s_is_integer ["value"] := fun _ _ _ _ _ _ us hl => match us, hl with | [_], _ => rfl
abbrev s_is_within : Stmt := topS 3
theorem sc_is_within : FnScope ["value", "least", "most"] ["value", "least", "most"] (defScope s_is_within) := ⟨rfl, rfl, rfl, by decide +kernel, rfl, by decide +kernel, by decide +kernel⟩
theorem pl_is_within : Pl "is_within" s_is_within ["value", "least", "most"] := fun _ _ _ _ _ _ us hl => match us, hl with | [_, _, _], _ => rfl
abbrev s_is_list : Stmt := topS 4
theorem sc_is_list : FnScope ["value"] ["value"] (defScope s_is_list) := ⟨rfl, rfl, rfl, by decide +kernel, rfl, by decide +kernel, by decide +kernel⟩
theorem pl_is_list : Pl "is_list" s_is_list ["value"] := fun _ _ _ _ _ _ us hl => match us, hl with | [_], _ => rfl
abbrev s_is_fraction : Stmt := topS 5
theorem sc_is_fraction : FnScope ["value"] ["value"] (defScope s_is_fraction) := ⟨rfl, rfl, rfl, by decide +kernel, rfl, by decide +kernel, by decide +kernel⟩
theorem pl_is_fraction : Pl "is_fraction" s_is_fraction ["value"] := fun _ _ _ _ _ _ us hl => match us, hl with | [_], _ => rfl
abbrev s_reduced : Stmt := topS 12
theorem sc_reduced : FnScope ["up", "down", "common"] ["up", "down"] (defScope s_reduced) := ⟨rfl, rfl, rfl, by decide +kernel, rfl, by decide +kernel, by decide +kernel⟩
theorem pl_reduced : Pl "reduced" s_reduced ["up", "down"] := fun _ _ _ _ _ _ us hl => match us, hl with | [_, _], _ => rfl
abbrev s_read_fraction : Stmt := topS 13
theorem sc_read_fraction : FnScope ["value", "part", "up", "down"] ["value", "part"] (defScope s_read_fraction) := ⟨rfl, rfl, rfl, by decide +kernel, rfl, by decide +kernel, by decide +kernel⟩
theorem pl_read_fraction : Pl "read_fraction" s_read_fraction ["value", "part"] := fun _ _ _ _ _ _ us hl => match us, hl with | [_, _], _ => rfl
abbrev s_fraction_of : Stmt := topS 14
theorem sc_fraction_of : FnScope ["value"] ["value"] (defScope s_fraction_of) := ⟨rfl, rfl, rfl, by decide +kernel, rfl, by decide +kernel, by decide +kernel⟩
theorem pl_fraction_of : Pl "fraction_of" s_fraction_of ["value"] := fun _ _ _ _ _ _ us hl => match us, hl with | [_], _ => rfl
abbrev s_taken : Stmt := topS 15
theorem sc_taken : FnScope ["one", "other", "up", "down", "less", "below"] ["one", "other"] (defScope s_taken) := ⟨rfl, rfl, rfl, by decide +kernel, rfl, by decide +kernel, by decide +kernel⟩
theorem pl_taken : Pl "taken" s_taken ["one", "other"] := fun _ _ _ _ _ _ us hl => match us, hl with | [_, _], _ => rfl
abbrev s_multiplied : Stmt := topS 16
theorem sc_multiplied : FnScope ["one", "other", "up", "down", "times", "below"] ["one", "other"] (defScope s_multiplied) := ⟨rfl, rfl, rfl, by decide +kernel, rfl, by decide +kernel, by decide +kernel⟩
theorem pl_multiplied : Pl "multiplied" s_multiplied ["one", "other"] := fun _ _ _ _ _ _ us hl => match us, hl with | [_, _], _ => rfl
abbrev s_divided : Stmt := topS 17
theorem sc_divided : FnScope ["one", "other", "up", "down", "times", "below"] ["one", "other"] (defScope s_divided) := ⟨rfl, rfl, rfl, by decide +kernel, rfl, by decide +kernel, by decide +kernel⟩
theorem pl_divided : Pl "divided" s_divided ["one", "other"] := fun _ _ _ _ _ _ us hl => match us, hl with | [_, _], _ => rfl
abbrev s_trimmed : Stmt := topS 20
theorem sc_trimmed : FnScope ["numbers", "length"] ["numbers"] (defScope s_trimmed) := ⟨rfl, rfl, rfl, by decide +kernel, rfl, by decide +kernel, by decide +kernel⟩
theorem pl_trimmed : Pl "trimmed" s_trimmed ["numbers"] := fun _ _ _ _ _ _ us hl => match us, hl with | [_], _ => rfl
abbrev s_is_poly : Stmt := topS 21
theorem sc_is_poly : FnScope ["value", "number"] ["value"] (defScope s_is_poly) := ⟨rfl, rfl, rfl, by decide +kernel, rfl, by decide +kernel, by decide +kernel⟩
theorem pl_is_poly : Pl "is_poly" s_is_poly ["value"] := fun _ _ _ _ _ _ us hl => match us, hl with | [_], _ => rfl
abbrev s_read_poly : Stmt := topS 22
theorem sc_read_poly : FnScope ["value", "part", "number"] ["value", "part"] (defScope s_read_poly) := ⟨rfl, rfl, rfl, by decide +kernel, rfl, by decide +kernel, by decide +kernel⟩
theorem pl_read_poly : Pl "read_poly" s_read_poly ["value", "part"] := fun _ _ _ _ _ _ us hl => match us, hl with | [_, _], _ => rfl
abbrev s_parted : Stmt := topS 23
theorem sc_parted : FnScope ["first", "second", "rest", "quotient", "shift", "share", "lower", "_", "k", "number"] ["first", "second"] (defScope s_parted) := ⟨rfl, rfl, rfl, by decide +kernel, rfl, by decide +kernel, by decide +kernel⟩
theorem pl_parted : Pl "parted" s_parted ["first", "second"] := fun _ _ _ _ _ _ us hl => match us, hl with | [_, _], _ => rfl
abbrev s_poly_parted : Stmt := topS 24
theorem sc_poly_parted : FnScope ["one", "other", "first", "second"] ["one", "other"] (defScope s_poly_parted) := ⟨rfl, rfl, rfl, by decide +kernel, rfl, by decide +kernel, by decide +kernel⟩
theorem pl_poly_parted : Pl "poly_parted" s_poly_parted ["one", "other"] := fun _ _ _ _ _ _ us hl => match us, hl with | [_, _], _ => rfl
abbrev s_slope_of : Stmt := topS 25
theorem sc_slope_of : FnScope ["poly", "numbers", "k", "number"] ["poly"] (defScope s_slope_of) := ⟨rfl, rfl, rfl, by decide +kernel, rfl, by decide +kernel, by decide +kernel⟩
theorem pl_slope_of : Pl "slope_of" s_slope_of ["poly"] := fun _ _ _ _ _ _ us hl => match us, hl with | [_], _ => rfl
abbrev s__law_cellar : Stmt := topS 27
theorem sc__law_cellar : FnScope ["script", "cell"] ["script"] (defScope s__law_cellar) := ⟨rfl, rfl, rfl, by decide +kernel, rfl, by decide +kernel, by decide +kernel⟩
theorem pl__law_cellar : Pl "_law_cellar" s__law_cellar ["script"] := fun _ _ _ _ _ _ us hl => match us, hl with | [_], _ => rfl
abbrev s__law_barrel : Stmt := topS 28
theorem sc__law_barrel : FnScope ["cellar", "many", "left", "turn", "cell", "mixed"] ["cellar", "many"] (defScope s__law_barrel) := ⟨rfl, rfl, rfl, by decide +kernel, rfl, by decide +kernel, by decide +kernel⟩
theorem pl__law_barrel : Pl "_law_barrel" s__law_barrel ["cellar", "many"] := fun _ _ _ _ _ _ us hl => match us, hl with | [_, _], _ => rfl
abbrev s__law_pick : Stmt := topS 29
theorem sc__law_pick : FnScope ["cellar", "some"] ["cellar", "some"] (defScope s__law_pick) := ⟨rfl, rfl, rfl, by decide +kernel, rfl, by decide +kernel, by decide +kernel⟩
theorem pl__law_pick : Pl "_law_pick" s__law_pick ["cellar", "some"] := fun _ _ _ _ _ _ us hl => match us, hl with | [_, _], _ => rfl
abbrev s__law_low : Stmt := topS 30
theorem sc__law_low : FnScope ["up", "down", "one", "other", "part"] ["up", "down"] (defScope s__law_low) := ⟨rfl, rfl, rfl, by decide +kernel, rfl, by decide +kernel, by decide +kernel⟩
theorem pl__law_low : Pl "_law_low" s__law_low ["up", "down"] := fun _ _ _ _ _ _ us hl => match us, hl with | [_, _], _ => rfl
abbrev s__law_plus : Stmt := topS 31
theorem sc__law_plus : FnScope ["one", "other"] ["one", "other"] (defScope s__law_plus) := ⟨rfl, rfl, rfl, by decide +kernel, rfl, by decide +kernel, by decide +kernel⟩
theorem pl__law_plus : Pl "_law_plus" s__law_plus ["one", "other"] := fun _ _ _ _ _ _ us hl => match us, hl with | [_, _], _ => rfl
abbrev s__law_times : Stmt := topS 32
theorem sc__law_times : FnScope ["one", "other"] ["one", "other"] (defScope s__law_times) := ⟨rfl, rfl, rfl, by decide +kernel, rfl, by decide +kernel, by decide +kernel⟩
theorem pl__law_times : Pl "_law_times" s__law_times ["one", "other"] := fun _ _ _ _ _ _ us hl => match us, hl with | [_, _], _ => rfl
abbrev s__law_fraction : Stmt := topS 33
theorem sc__law_fraction : FnScope ["cellar", "up", "down"] ["cellar"] (defScope s__law_fraction) := ⟨rfl, rfl, rfl, by decide +kernel, rfl, by decide +kernel, by decide +kernel⟩
theorem pl__law_fraction : Pl "_law_fraction" s__law_fraction ["cellar"] := fun _ _ _ _ _ _ us hl => match us, hl with | [_], _ => rfl
abbrev s__law_as : Stmt := topS 34
theorem sc__law_as : FnScope ["cellar", "number", "by"] ["cellar", "number"] (defScope s__law_as) := ⟨rfl, rfl, rfl, by decide +kernel, rfl, by decide +kernel, by decide +kernel⟩
theorem pl__law_as : Pl "_law_as" s__law_as ["cellar", "number"] := fun _ _ _ _ _ _ us hl => match us, hl with | [_, _], _ => rfl
abbrev s__law_trimmed : Stmt := topS 35
theorem sc__law_trimmed : FnScope ["row", "many"] ["row"] (defScope s__law_trimmed) := ⟨rfl, rfl, rfl, by decide +kernel, rfl, by decide +kernel, by decide +kernel⟩
theorem pl__law_trimmed : Pl "_law_trimmed" s__law_trimmed ["row"] := fun _ _ _ _ _ _ us hl => match us, hl with | [_], _ => rfl
abbrev s__law_product : Stmt := topS 36
theorem sc__law_product : FnScope ["one", "other", "found", "at", "mine", "spot", "its"] ["one", "other"] (defScope s__law_product) := ⟨rfl, rfl, rfl, by decide +kernel, rfl, by decide +kernel, by decide +kernel⟩
theorem pl__law_product : Pl "_law_product" s__law_product ["one", "other"] := fun _ _ _ _ _ _ us hl => match us, hl with | [_, _], _ => rfl
abbrev s__law_sum : Stmt := topS 37
theorem sc__law_sum : FnScope ["one", "other", "found", "at", "its"] ["one", "other"] (defScope s__law_sum) := ⟨rfl, rfl, rfl, by decide +kernel, rfl, by decide +kernel, by decide +kernel⟩
theorem pl__law_sum : Pl "_law_sum" s__law_sum ["one", "other"] := fun _ _ _ _ _ _ us hl => match us, hl with | [_, _], _ => rfl
abbrev s__law_row : Stmt := topS 38
theorem sc__law_row : FnScope ["cellar", "most", "at"] ["cellar", "most"] (defScope s__law_row) := ⟨rfl, rfl, rfl, by decide +kernel, rfl, by decide +kernel, by decide +kernel⟩
theorem pl__law_row : Pl "_law_row" s__law_row ["cellar", "most"] := fun _ _ _ _ _ _ us hl => match us, hl with | [_, _], _ => rfl
abbrev s__law_slope : Stmt := topS 39
theorem sc__law_slope : FnScope ["row", "at", "number"] ["row"] (defScope s__law_slope) := ⟨rfl, rfl, rfl, by decide +kernel, rfl, by decide +kernel, by decide +kernel⟩
theorem pl__law_slope : Pl "_law_slope" s__law_slope ["row"] := fun _ _ _ _ _ _ us hl => match us, hl with | [_], _ => rfl
abbrev s_law : Stmt := topS 40
theorem sc_law : FnScope ["script", "cellar", "turn", "one", "other", "told", "rest", "whole", "both", "number", "part"] ["script"] (defScope s_law) := ⟨rfl, rfl, rfl, by decide +kernel, rfl, by decide +kernel, by decide +kernel⟩
theorem pl_law : Pl "law" s_law ["script"] := fun _ _ _ _ _ _ us hl => match us, hl with | [_], _ => rfl
theorem pk_slope_of : Pk "slope_of" s_slope_of ["poly"] ["poly"] List.reverse := fun _ _ _ _ _ _ us hl => match us, hl with | [_], _ => rfl
theorem pki_poly_parted : Pk "poly_parted" s_poly_parted ["one", "other"] ["one", "other"] id := fun _ _ _ _ _ _ us hl => match us, hl with | [_, _], _ => rfl
theorem pm_poly_parted : Pm "poly_parted" s_poly_parted ["one", "other"] ["other"] 1 := fun _ _ _ _ _ _ us ws h1 h2 => match us, ws, h1, h2 with | [_], [_], _, _ => rfl
structure Tx (c : Cn) : Prop where
  n_abs : c.mg "abs" = none
  n_all : c.mg "all" = none
  n_bool : c.mg "bool" = none
  n_enumerate : c.mg "enumerate" = none
  n_int : c.mg "int" = none
  n_isinstance : c.mg "isinstance" = none
  n_len : c.mg "len" = none
  n_list : c.mg "list" = none
  n_max : c.mg "max" = none
  n_range : c.mg "range" = none
  n_repr : c.mg "repr" = none
  n_reversed : c.mg "reversed" = none
  n_tuple : c.mg "tuple" = none
  d_is_integer : De c "is_integer" s_is_integer
  d_is_within : De c "is_within" s_is_within
  d_is_list : De c "is_list" s_is_list
  d_is_fraction : De c "is_fraction" s_is_fraction
  d_reduced : De c "reduced" s_reduced
  d_read_fraction : De c "read_fraction" s_read_fraction
  d_fraction_of : De c "fraction_of" s_fraction_of
  d_taken : De c "taken" s_taken
  d_multiplied : De c "multiplied" s_multiplied
  d_divided : De c "divided" s_divided
  d_trimmed : De c "trimmed" s_trimmed
  d_is_poly : De c "is_poly" s_is_poly
  d_read_poly : De c "read_poly" s_read_poly
  d_parted : De c "parted" s_parted
  d_poly_parted : De c "poly_parted" s_poly_parted
  d_slope_of : De c "slope_of" s_slope_of
  d__law_cellar : De c "_law_cellar" s__law_cellar
  d__law_barrel : De c "_law_barrel" s__law_barrel
  d__law_pick : De c "_law_pick" s__law_pick
  d__law_low : De c "_law_low" s__law_low
  d__law_plus : De c "_law_plus" s__law_plus
  d__law_times : De c "_law_times" s__law_times
  d__law_fraction : De c "_law_fraction" s__law_fraction
  d__law_as : De c "_law_as" s__law_as
  d__law_trimmed : De c "_law_trimmed" s__law_trimmed
  d__law_product : De c "_law_product" s__law_product
  d__law_sum : De c "_law_sum" s__law_sum
  d__law_row : De c "_law_row" s__law_row
  d__law_slope : De c "_law_slope" s__law_slope
  d_law : De c "law" s_law
  c_MOST_NUMBERS : ∃ t, c.mg "MOST_NUMBERS" = some (.int 80 t)
  m_gcd : c.mg "gcd" = some (.builtin "math.gcd")

def sp_iswth (K : PySem.W.Frag) : Sp := fun vs H Q _ => ∃ q v d l m, vs = [v, bdV l, bdV m] ∧ Dq q K H v d ∧ Q (.bl (wthD d l m)) H
def sp_islist (K : PySem.W.Frag) : Sp := fun vs H Q _ => ∃ q v d, vs = [v] ∧ Dq q K H v d ∧ Q (.bl (isSeqD d)) H
def sp_isfr (K : PySem.W.Frag) : Sp := fun vs H Q _ => ∃ q v d, vs = [v] ∧ Dq q K H v d ∧ Q (.bl (isFrD d)) H
def sp_ispl (K : PySem.W.Frag) : Sp := fun vs H Q _ => ∃ q v d, vs = [v] ∧ Dq q K H v d ∧ Q (.bl (isPlD d)) H
def sp_isint (K : PySem.W.Frag) : Sp := fun vs H Q _ => ∃ q v d, vs = [v] ∧ Dq q K H v d ∧ Q (.bl (isIntD d)) H
theorem ok_is_integer (c : Cn) (T : Tx c) : Cl c 1 "is_integer" s_is_integer ["value"] (sp_isint c.K) := by
  obtain ⟨P, w, K, mg, base⟩ := c
  refine De.cl (N := ["value"]) T.d_is_integer sc_is_integer (fun vs H Q E h => ?_) (fun f0 cdv A outer s H vs Q E hA hr h => ?_)
  · obtain ⟨q, v, d, rfl, _⟩ := h; rfl
  · have S := sc_is_integer
    obtain ⟨q, v, d, rfl, hd, k⟩ := h
    refine ⟨_, (pss_one (ps_ret (pe_and (pe_callB call_isi (by rfl) T.n_isinstance (show bootBuiltins "isinstance" = some (.builtin "isinstance") by decide +kernel) (pa_cons (pv 0) (pa_cons (pe_bltn (v := .ty "int") (by rfl) T.n_int (show bootBuiltins "int" = some (.type "int") by decide +kernel) rfl) pa_nil))) (pe_one (pe_not (pe_callB call_isi (by rfl) T.n_isinstance (show bootBuiltins "isinstance" = some (.builtin "isinstance") by decide +kernel) (pa_cons (pv 0) (pa_cons (pe_bltn (v := .ty "bool") (by rfl) T.n_bool (show bootBuiltins "bool" = some (.type "bool") by decide +kernel) rfl) pa_nil)))))))), ?_⟩
    walk_at "mf"
    refine g_isiI hd ?_
    walk_at "mf"
    refine g_ite (fun h => ?_) (fun h => ?_)
    · walk_at "mf"
      refine g_isiB hd ?_
      walk_at "mf"
      rw [show isIntD d = !isBoolD d by cases d <;> first | rfl | cases h] at k
      exact k
    · rw [show isIntD d = false by cases d <;> first | rfl | cases h] at k
      exact k
theorem ok_is_within (c : Cn) (T : Tx c) : Cl c 2 "is_within" s_is_within ["value", "least", "most"] (sp_iswth c.K) := by
  obtain ⟨P, w, K, mg, base⟩ := c
  have C_is_integer := ok_is_integer _ T
  refine De.cl (N := ["value", "least", "most"]) T.d_is_within sc_is_within (fun vs H Q E h => ?_) (fun f0 cdv A outer s H vs Q E hA hr h => ?_)
  · obtain ⟨q, v, d, l, m, rfl, _⟩ := h; rfl
  · have S := sc_is_within
    obtain ⟨q, v, d, l, m, rfl, hd, k⟩ := h
    refine ⟨_, (pss_cons (ps_if (pt_not (pt_val (pe_f C_is_integer hA hr (by decide) pl_is_integer (by rfl) (pa_cons (pv 0) pa_nil)))) (pss_one (ps_ret pe_bl)) pss_nil)
      (pss_one (ps_ret (pe_and (pe_or (pe_cmpR op_isNU (pv 1) pe_non (nomark _)) (pe_one (pe_cmpR op_ge (pv 0) (pv 1) (nomark _)))) (pe_one (pe_or (pe_cmpR op_isNU (pv 2) pe_non (nomark _)) (pe_one (pe_cmpR op_le (pv 0) (pv 2) (nomark _))))))))), ?_⟩
    walk_at "mf"
    refine ⟨q, v, d, rfl, hd, ?_⟩
    walk_at "mf"
    refine g_ite (fun h => ?_) (fun h => ?_)
    · have e : isIntD d = false := by simpa using h
      walk_at "mf"
      rw [show wthD d l m = false by unfold wthD; rw [e]; rfl] at k
      exact k
    · have e : isIntD d = true := by simpa using h
      obtain ⟨rfl, hv⟩ := hd.int_of e
      rw [show wthD d l m = (loB l (valD d) && hiB m (valD d)) by unfold wthD; rw [e]; rfl] at k
      cases l with
      | none => cases m with
        | none =>
          dsimp only [bdV]
          walk_at "mf"
          exact k
        | some m =>
          dsimp only [bdV]
          walk_at "mf"
          exact k
      | some l => cases m with
        | none =>
          dsimp only [bdV]
          walk_at "mf"
          refine g_ite (fun h1 => ?_) (fun h1 => ?_)
          · walk_at "mf"
            rw [show loB (some l) (valD d) = true from h1] at k
            exact k
          · rw [show loB (some l) (valD d) = false from h1] at k
            exact k
        | some m =>
          dsimp only [bdV]
          walk_at "mf"
          refine g_ite (fun h1 => ?_) (fun h1 => ?_)
          · walk_at "mf"
            rw [show loB (some l) (valD d) = true from h1] at k
            exact k
          · rw [show loB (some l) (valD d) = false from h1] at k
            exact k
theorem ok_is_list (c : Cn) (T : Tx c) : Cl c 1 "is_list" s_is_list ["value"] (sp_islist c.K) := by
  obtain ⟨P, w, K, mg, base⟩ := c
  refine De.cl (N := ["value"]) T.d_is_list sc_is_list (fun vs H Q E h => ?_) (fun f0 cdv A outer s H vs Q E hA hr h => ?_)
  · obtain ⟨q, v, d, rfl, _⟩ := h; rfl
  · have S := sc_is_list
    obtain ⟨q, v, d, rfl, hd, k⟩ := h
    refine ⟨_, (pss_one (ps_ret (pe_isSeq (by rfl) T.n_isinstance (by rfl) T.n_list (by rfl) T.n_tuple (pv 0)))), ?_⟩
    walk_at "mf"
    exact g_seqQ hd k
theorem ok_is_fraction (c : Cn) (T : Tx c) : Cl c 3 "is_fraction" s_is_fraction ["value"] (sp_isfr c.K) := by
  obtain ⟨P, w, K, mg, base⟩ := c
  have C_is_integer := ok_is_integer _ T
  have C_is_list := ok_is_list _ T
  have C_is_within := ok_is_within _ T
  refine De.cl (N := ["value"]) T.d_is_fraction sc_is_fraction (fun vs H Q E h => ?_) (fun f0 cdv A outer s H vs Q E hA hr h => ?_)
  · obtain ⟨q, v, d, rfl, _⟩ := h; rfl
  · have S := sc_is_fraction
    obtain ⟨q, v, d, rfl, hd, k⟩ := h
    refine ⟨_, (pss_cons (ps_if (pt_val (pe_f C_is_integer hA hr (by decide) pl_is_integer (by rfl) (pa_cons (pv 0) pa_nil))) (pss_one (ps_ret pe_bl)) pss_nil)
      (pss_cons (ps_if (PW.pt (pw_or (pt_not (pt_val (pe_f C_is_list hA hr (by decide) pl_is_list (by rfl) (pa_cons (pv 0) pa_nil)))) (pw_or1 (pt_cmpR (op_neU hr.units) (pe_callB call_lenU (by rfl) T.n_len PySem.boot_len (pa_cons (pv 0) pa_nil)) pe_int (nomark _))))) (pss_one (ps_ret pe_bl)) pss_nil)
      (pss_one (ps_ret (pe_and (pe_f C_is_integer hA hr (by decide) pl_is_integer (by rfl) (pa_cons (pe_ix ix_seq (pv 0) pe_int (fun _ _ => rfl)) pa_nil)) (pe_one (pe_f C_is_within hA hr (by decide) pl_is_within (by rfl) (pa_cons (pe_ix ix_seq (pv 0) pe_int (fun _ _ => rfl)) (pa_cons pe_int (pa_cons pe_non pa_nil)))))))))), ?_⟩
    walk_at "mf"
    refine ⟨q, v, d, rfl, hd, ?_⟩
    walk_at "mf"
    refine g_ite (fun h1 => ?_) (fun h1 => ?_)
    · walk_at "mf"
      rw [frD_int h1] at k
      exact k
    · walk_at "mf"
      refine ⟨q, v, d, rfl, hd, ?_⟩
      walk_at "mf"
      refine g_ite (fun h2 => ?_) (fun h2 => ?_)
      · walk_at "mf"
        rw [frD_no h1 (by simpa using h2)] at k
        exact k
      · obtain ⟨a, xs, ds, rfl, na, hs, hall, ed⟩ := hd.seq (by simpa using h2)
        walk_at "mf"
        refine g_len hs ?_
        walk_at "mf"
        refine g_ite (fun h3 => ?_) (fun h3 => ?_)
        · walk_at "mf"
          rw [(frD_two ed (by rw [← hall.len]; simp at h3; omega)).1] at k
          exact k
        · obtain ⟨x, y, dx, dy, rfl, rfl, hx, hy⟩ := two_of hall (by simp at h3; omega)
          rw [(frD_of ed).1] at k
          walk_at "mf"
          refine g_ix hs rfl ?_
          walk_at "mf"
          refine ⟨q, x, dx, rfl, hx, ?_⟩
          walk_at "mf"
          refine g_ite (fun h4 => ?_) (fun h4 => ?_)
          · walk_at "mf"
            refine g_ix hs rfl ?_
            walk_at "mf"
            refine ⟨q, y, dy, some 1, none, rfl, hy, ?_⟩
            rw [h4, Bool.true_and, posD_eq] at k
            exact k
          · rw [h4] at k
            exact k
end Mf
namespace Mf
open PySem PySem.Spec PyProof.Rows L2
local macro_rules | `(tactic| walk_at "mf1") => `(tactic| first
  | ((with_reducible apply g_var); exact rfl)
  | with_reducible first
    | refine g_c ?_ | refine g_op ?_ | refine g_un ?_ | refine g_cb ?_ | refine g_cl ?_ | refine g_clk ?_ | refine g_nil ?_ | refine g_cons ?_
    | refine g_tB ?_ | refine g_test ?_ | refine g_bl ?_ | refine g_and ?_ | refine g_or ?_ | refine g_not ?_ | refine g_andV ?_ | refine g_orV ?_ | refine g_notV ?_
    | refine g_if ?_ | refine g_ifS ?_ | refine g_seq ?_ | refine g_next ?_ | refine g_ret ?_ | refine g_drop ?_ | refine g_asg ?_ | refine g_name ?_ | refine g_sub ?_
    | refine g_int ?_ | refine g_intB ?_ | refine g_abs ?_ | refine g_I0 ?_ | refine g_addI ?_ | refine g_U ?_ | refine g_isNn ?_ | refine g_isNi ?_ | refine g_notN ?_ | refine g_notT1 ?_ | refine g_notT2 ?_ | refine g_notT3 ?_ | refine g_notT4 ?_ | refine g_notTb ?_ | refine g_notTi ?_ | refine g_eqI ?_ | refine g_neI ?_ | refine g_neSs ?_ | refine g_neS ?_ | refine g_eqS ?_
    | refine g_iteT ?_ | refine g_iteF ?_ | refine g_iteNT ?_ | refine g_iteNF ?_ | refine g_lst ?_ | refine g_tup ?_ | refine g_seqP ?_ | refine g_sl ?_ | refine g_noPart ?_ | refine g_part ?_ | refine g_yes ?_ | refine g_thenT ?_ | refine g_consG ?_ | refine g_nilG ?_ | refine g_ii ?_ | refine g_par ?_ | refine g_par3 ?_ | refine g_vv ?_ | refine g_vvv ?_ | refine g_reprB ?_ | refine g_lcL ?_ | refine g_lcR ?_
  | ((with_reducible refine g_mod ?_ ?_); (first | omega | decide))
  | ((with_reducible refine g_div ?_ ?_ ?_); (first | omega | decide); (first | assumption | decide))
  | ((with_reducible refine g_mulL ?_ ?_ ?_); (first | omega | decide); (first | omega | decide))
  | ((with_reducible refine g_mulR ?_ ?_ ?_); (first | omega | decide); (first | omega | decide))
  | ((with_reducible refine g_pow ?_ ?_ ?_ ?_); decide; decide; (first | omega | decide))
  | dsimp only)
local macro_rules | `(tactic| walk_at "mf1s") => `(tactic| first
  | ((with_reducible apply g_var); exact rfl)
  | with_reducible first
    | refine g_c ?_ | refine g_op ?_ | refine g_un ?_ | refine g_cb ?_ | refine g_cl ?_ | refine g_clk ?_ | refine g_nil ?_ | refine g_cons ?_
    | refine g_tB ?_ | refine g_test ?_ | refine g_bl ?_ | refine g_and ?_ | refine g_or ?_ | refine g_not ?_ | refine g_andV ?_ | refine g_orV ?_ | refine g_notV ?_
    | refine g_if ?_ | refine g_ifS ?_ | refine g_next ?_ | refine g_ret ?_ | refine g_drop ?_ | refine g_asg ?_ | refine g_name ?_ | refine g_sub ?_
    | refine g_int ?_ | refine g_intB ?_ | refine g_abs ?_ | refine g_I0 ?_ | refine g_addI ?_ | refine g_U ?_ | refine g_isNn ?_ | refine g_isNi ?_ | refine g_notN ?_ | refine g_notT1 ?_ | refine g_notT2 ?_ | refine g_notT3 ?_ | refine g_notT4 ?_ | refine g_notTb ?_ | refine g_notTi ?_ | refine g_eqI ?_ | refine g_neI ?_ | refine g_neSs ?_ | refine g_neS ?_ | refine g_eqS ?_
    | refine g_iteT ?_ | refine g_iteF ?_ | refine g_iteNT ?_ | refine g_iteNF ?_ | refine g_lst ?_ | refine g_tup ?_ | refine g_seqP ?_ | refine g_sl ?_ | refine g_noPart ?_ | refine g_part ?_ | refine g_yes ?_ | refine g_thenT ?_ | refine g_consG ?_ | refine g_nilG ?_ | refine g_ii ?_ | refine g_par ?_ | refine g_par3 ?_ | refine g_vv ?_ | refine g_vvv ?_ | refine g_reprB ?_ | refine g_lcL ?_ | refine g_lcR ?_
  | ((with_reducible refine g_mod ?_ ?_); (first | omega | decide))
  | ((with_reducible refine g_div ?_ ?_ ?_); (first | omega | decide); (first | assumption | decide))
  | ((with_reducible refine g_mulL ?_ ?_ ?_); (first | omega | decide); (first | omega | decide))
  | ((with_reducible refine g_mulR ?_ ?_ ?_); (first | omega | decide); (first | omega | decide))
  | ((with_reducible refine g_pow ?_ ?_ ?_ ?_); decide; decide; (first | omega | decide))
  | dsimp only)
local macro_rules | `(tactic| walk_at "mfs") => `(tactic| repeat walk_at "mf1s")
local macro_rules | `(tactic| walk_at "mf") => `(tactic| repeat walk_at "mf1")
local macro_rules | `(tactic| walk_at "ed") => `(tactic| repeat (first
  | with_reducible first
    | exact eds_nil | apply eds_cons | exact ed_int | exact ed_bl | exact ed_non | apply ed_neg
  | ((with_reducible apply ed_str); decide)
  | ((with_reducible apply ed_var); (exact rfl); (first | assumption | exact Dq.int _))
  | ((with_reducible apply ed_dict0); assumption)
  | ((with_reducible apply ed_dict2); assumption)
  | ((with_reducible apply ed_tup); assumption)
  | ((with_reducible apply ed_lst); assumption)
  | (with_reducible apply ed_pow)
  | (with_reducible apply ed_mul)
  | assumption
  | (exact Dq.int _)
  | (exact ⟨by decide, by decide, by decide⟩)
  | (show List.length _ ≤ 1000; simp only [List.length_cons, List.length_nil]; decide)))
theorem ok__law_cellar (c : Cn) (T : Tx c) : Cl c 1 "_law_cellar" s__law_cellar ["script"] (sp_quay c.K) := by
  obtain ⟨P, w, K, mg, base⟩ := c
  refine De.cl (N := ["script", "cell"]) T.d__law_cellar sc__law_cellar (fun vs H Q E h => ?_) (fun f0 cdv A outer s H vs Q E hA hr h => ?_)
  · obtain ⟨a, ns, rfl, _⟩ := h; rfl
  · have S := sc__law_cellar
    obtain ⟨a, ns, rfl, hS, hlen, k⟩ := h
    refine ⟨_, (pss_one (ps_ret (pe_lst (pa_cons (pe_lc (own := [("cell", 1)]) (g := gName 1) (tt := tYes) rfl S.nd (pi_list (pe_slice sl_list (pv 0) po_none (po_some pe_int))) (blkOk_by (N := ["script", "cell"]) (sc := defScope s__law_cellar) (by decide +kernel)) (fun _ _ _ _ _ => pg_name (i := 1) S.nd rfl (Or.inl rfl)) (fun _ _ _ _ _ => pts_nil) (fun _ _ _ _ _ => (pe_callTy call_intU (by rfl) T.n_int PyProof.Rows.boot_int (pa_cons (pv 1) pa_nil)))) (pa_cons pe_int (pa_cons pe_int pa_nil)))))), ?_⟩
    walk_at "mf"
    refine g_slL hS fun p H1 hp s1 e1 => ?_
    obtain ⟨ms, em, lm⟩ := cut_ints ns none (some 60)
    walk_at "mf"
    rw [em] at e1
    refine ⟨p, rfl, ⟨_, seqU e1⟩, ?_⟩
    refine lcgo_list (xs := ms.map V.int) (fun D i H' => Same H1 H' ∧ H' D = some (.lst ((ms.take i).map V.int))) (fun x => rfl) (fun D hD => ⟨same_new hD, upd_same⟩) (fun D i H' _ h => seqU (h.1 _ _ e1)) (fun D i x H' hD ex h => ?_) (fun D H' hD h => ?_)
    · obtain ⟨h1, h2⟩ := h
      rw [List.getElem?_map] at ex
      obtain ⟨z, ez, rfl⟩ := Option.map_eq_some_iff.mp ex
      walk_at "mf"
      have hi := (List.getElem?_eq_some_iff.mp ez).1
      refine ⟨_, h2, ?_, ?_, ?_⟩
      · rw [List.length_map, List.length_take]
        exact small1000 (by omega)
      · intro b o e
        rw [upd_ne (ne_of_none e hD)]
        exact h1 b o e
      · rw [upd_same, List.take_add_one, ez, List.map_append]
        rfl
    · obtain ⟨h1, h2⟩ := h
      rw [List.length_map, List.take_length] at h2
      walk_at "mf"
      refine g_newL (by show 3 ≤ sizeLine; decide) fun q H2 hq s2 e2 => ?_
      have hDq : D ≠ q := ne_of_none h2 hq
      refine k q H2 ((s1.trans h1).trans s2) ((s1.trans h1).free hq) ⟨D, ms, 0, e2, s2 _ _ h2, hDq, by omega, by omega, by omega⟩
theorem ok__law_barrel (c : Cn) (T : Tx c) : Cl c 1 "_law_barrel" s__law_barrel ["cellar", "many"] (sp_moor c.K) := by
  obtain ⟨P, w, K, mg, base⟩ := c
  refine De.cl (N := ["cellar", "many", "left", "turn", "cell", "mixed"]) T.d__law_barrel sc__law_barrel (fun vs H Q E h => ?_) (fun f0 cdv A outer s H vs Q E hA hr h => ?_)
  · obtain ⟨q, t, n, rfl, _⟩ := h; rfl
  · have S := sc__law_barrel
    obtain ⟨q, t, n, rfl, hq, ht, hn, hn9, k⟩ := h
    refine ⟨_, (pss_cons (ps_if (pt_cmpR op_gt (pe_ix ix_seq (pv 0) pe_int (fun _ _ => rfl)) pe_int (nomark _)) (pss_cons (ps_set (i := 2) S.nd rfl (by first | exact .inl rfl | exact .inr rfl) (pe_callTy call_intU (by rfl) T.n_int PyProof.Rows.boot_int (pa_cons (pe_ix ix_seq (pv 0) pe_int (fun _ _ => rfl)) pa_nil)))
      (pss_cons (ps_asg (pe_op op_fdivW (pv 2) (pv 1)) (pg_sub (pv 0) pe_int set_list))
      (pss_one (ps_ret (pe_op op_mod (pe_callTy call_intU (by rfl) T.n_int PyProof.Rows.boot_int (pa_cons (pv 2) pa_nil)) (pv 1)))))) pss_nil)
      (pss_cons (ps_set (i := 3) S.nd rfl (by first | exact .inl rfl | exact .inr rfl) (pe_ix ix_seq (pv 0) pe_int (fun _ _ => rfl)))
      (pss_cons (ps_asg (pe_op op_addU (pv 3) pe_int) (pg_sub (pv 0) pe_int set_list))
      (pss_cons (ps_set (i := 4) S.nd rfl (by first | exact .inl rfl | exact .inr rfl) (pe_op op_addU (pe_op op_mulU pe_int (pv 3)) pe_int))
      (pss_cons (ps_if (pt_cmpR (op_neU hr.units) (pe_ix ix_seq (pv 0) pe_int (fun _ _ => rfl)) (pe_lst pa_nil) (nomark _)) (pss_one (ps_set (i := 4) S.nd rfl (by first | exact .inl rfl | exact .inr rfl) (pe_ix ix_seq (pe_ix ix_seq (pv 0) pe_int (fun _ _ => rfl)) (pe_op op_mod (pe_callTy call_intU (by rfl) T.n_int PyProof.Rows.boot_int (pa_cons (pv 3) pa_nil)) (pe_callB call_lenU (by rfl) T.n_len PySem.boot_len (pa_cons (pe_ix ix_seq (pv 0) pe_int (fun _ _ => rfl)) pa_nil))) (fun _ _ => rfl)))) pss_nil)
      (pss_cons (ps_if (PW.pt (pw_and (pt_cmpR op_lt (pv 3) (pe_callB call_lenU (by rfl) T.n_len PySem.boot_len (pa_cons (pe_ix ix_seq (pv 0) pe_int (fun _ _ => rfl)) pa_nil)) (nomark _)) (pw_and1 (pt_cmpR op_ge (pe_callB call_absU (by rfl) T.n_abs (show bootBuiltins "abs" = some (.builtin "abs") by decide +kernel) (pa_cons (pv 4) pa_nil)) (pe_op op_pow pe_int pe_int) (nomark _))))) (pss_cons (ps_set (i := 2) S.nd rfl (by first | exact .inl rfl | exact .inr rfl) (pe_op op_addU (pe_op op_mulU pe_int (pe_op op_sub (pe_callB call_absU (by rfl) T.n_abs (show bootBuiltins "abs" = some (.builtin "abs") by decide +kernel) (pa_cons (pe_callTy call_intU (by rfl) T.n_int PyProof.Rows.boot_int (pa_cons (pv 4) pa_nil)) pa_nil)) (pe_op op_pow pe_int pe_int))) (pe_callTy call_intU (by rfl) T.n_int PyProof.Rows.boot_int (pa_cons (pe_cmpR op_lt (pv 4) pe_int (nomark _)) pa_nil))))
      (pss_cons (ps_asg (pe_op op_fdivW (pv 2) (pv 1)) (pg_sub (pv 0) pe_int set_list))
      (pss_one (ps_ret (pe_op op_mod (pe_callTy call_intU (by rfl) T.n_int PyProof.Rows.boot_int (pa_cons (pv 2) pa_nil)) (pv 1)))))) pss_nil)
      (pss_cons (ps_set (i := 5) S.nd rfl (by first | exact .inl rfl | exact .inr rfl) (pe_op op_mod (pe_callTy call_intU (by rfl) T.n_int PyProof.Rows.boot_int (pa_cons (pe_op op_pow (pe_op op_addU (pe_op op_addU (pe_op op_mod (pe_callTy call_intU (by rfl) T.n_int PyProof.Rows.boot_int (pa_cons (pv 4) pa_nil)) pe_int) (pe_op op_mulU pe_int (pv 3))) pe_int) pe_int) pa_nil)) pe_int))
      (pss_cons (ps_set (i := 5) S.nd rfl (by first | exact .inl rfl | exact .inr rfl) (pe_op op_mod (pe_callTy call_intU (by rfl) T.n_int PyProof.Rows.boot_int (pa_cons (pe_op op_pow (pe_op op_addU (pe_op op_addU (pe_op op_mulU (pv 5) (pe_op op_addU (pe_op op_mulU pe_int (pv 3)) pe_int)) (pe_op op_mulU (pe_op op_mulU pe_int (pv 3)) (pv 3))) pe_int) pe_int) pa_nil)) pe_int))
      (pss_one (ps_ret (pe_op op_mod (pe_callTy call_intU (by rfl) T.n_int PyProof.Rows.boot_int (pa_cons (pe_op op_fdivW (pv 5) pe_int) pa_nil)) (pv 1)))))))))))), ?_⟩
    obtain ⟨c, ns, r, eq, hc, ncq, hns, hr0, ht0⟩ := hq
    walk_at "mf"
    refine g_ix (.inl (seqU eq)) (v := .int r) rfl ?_
    walk_at "mf"
    refine g_ite (fun h => ?_) (fun h => ?_)
    · walk_at "mf"
      refine g_ix (.inl (seqU eq)) (v := .int r) rfl ?_
      walk_at "mf"
      refine g_setL eq (j := 2) rfl ?_
      walk_at "mf"
      exact k t _ _ (upd_x eq) ⟨c, ns, _, upd_same, (upd_x eq).kept _ _ ncq hc, ncq, hns, Int.ediv_nonneg hr0 (by omega), ht0⟩ (by omega) (by omega) (Int.emod_nonneg _ (by omega)) (Int.emod_lt_of_pos _ hn)
    · walk_at "mf"
      refine g_ix (.inl (seqU eq)) (v := .int t) rfl ?_
      walk_at "mf"
      refine g_setL eq (j := 1) rfl ?_
      have eq1 : (upd H q (.lst [.ref c, .int (t + 1), .int r])) q = some (.lst [.ref c, .int (t + 1), .int r]) := upd_same
      have hc1 : (upd H q (.lst [.ref c, .int (t + 1), .int r])) c = some (.lst (ns.map V.int)) := (upd_x eq).kept _ _ ncq hc
      have sx1 : SameX q H (upd H q (.lst [.ref c, .int (t + 1), .int r])) := upd_x eq
      have es : [V.ref c, .int t, .int r].set 1 (.int (t + 1)) = [.ref c, .int (t + 1), .int r] := rfl
      rw [es]
      generalize upd H q (.lst [.ref c, .int (t + 1), .int r]) = Hb at *
      walk_at "mf"
      refine g_ix (.inl (seqU eq1)) (v := .ref c) rfl ?_
      walk_at "mf"
      refine g_newL (by show 0 ≤ sizeLine; decide) fun p H2 hp s2 e2 => ?_
      have eq2 := s2 _ _ eq1
      have hc2 := s2 _ _ hc1
      have sx := sx1.trans (Same.x s2)
      walk_at "mf"
      refine g_neNil (seqU hc2) (seqU e2) ?_
      walk_at "mf"
      refine g_ite (fun h2 => ?_) (fun h2 => ?_)
      · walk_at "mf"
        refine g_ix (.inl (seqU eq2)) (v := .ref c) rfl ?_
        walk_at "mf"
        refine g_ix (.inl (seqU eq2)) (v := .ref c) rfl ?_
        walk_at "mf"
        refine g_len (.inl (seqU hc2)) ?_
        have hpos : 0 < ((ns.map V.int).length : Int) := by
          cases ns with
          | nil => cases h2
          | cons z l => rw [List.map_cons, List.length_cons]; omega
        walk_at "mf"
        obtain ⟨z, ez⟩ : ∃ z, atI (ns.map V.int) (t % ((ns.map V.int).length : Int)) = some (.int z) := by
          have b1 := Int.emod_nonneg t (Int.ne_of_gt hpos)
          have b2 := Int.emod_lt_of_pos t hpos
          have b3 : (t % ((ns.map V.int).length : Int)).toNat < ns.length := by
            rw [List.length_map] at b1 b2 ⊢
            omega
          refine ⟨ns[(t % ((ns.map V.int).length : Int)).toNat], ?_⟩
          refine at_of (j := (t % ((ns.map V.int).length : Int)).toNat) (by omega) ?_
          rw [List.getElem?_map, List.getElem?_eq_getElem b3]
          rfl
        refine g_ix (.inl (seqU hc2)) ez ?_
        walk_at "mf"
        refine g_ix (.inl (seqU eq2)) (v := .ref c) rfl ?_
        walk_at "mf"
        refine g_len (.inl (seqU hc2)) ?_
        walk_at "mf"
        refine g_ite (fun h3 => ?_) (fun h3 => ?_)
        · walk_at "mf"
          refine g_ite (fun h4 => ?_) (fun h4 => ?_)
          · have h5 := of_decide_eq_true h4
            rw [show (10 : Int) ^ (18 : Int).toNat = 1000000000000000000 by decide] at h5
            walk_at "mf"
            refine g_setL eq2 (j := 2) rfl ?_
            walk_at "mf"
            rw [show (10 : Int) ^ (18 : Int).toNat = 1000000000000000000 by decide]
            exact k (t + 1) _ _ (sx.trans (upd_x eq2)) ⟨c, ns, _, upd_same, (upd_x eq2).kept _ _ ncq hc2, ncq, hns, Int.ediv_nonneg (by split <;> omega) (by omega), by omega⟩ (by omega) (by omega) (Int.emod_nonneg _ (by omega)) (Int.emod_lt_of_pos _ hn)
          · walk_at "mf"
            walk_at "mf"
            refine g_pow (by decide) (by decide) (stir_bd (Int.emod_nonneg _ (by decide)) (Int.lt_of_lt_of_le (Int.emod_lt_of_pos _ (by decide)) (by decide)) ht0 ht (by decide) (by decide) (by decide) (by decide) (by decide) (by decide)) ?_
            walk_at "mf"
            exact k (t + 1) _ _ sx ⟨c, ns, r, eq2, hc2, ncq, hns, hr0, by omega⟩ (by omega) (by omega) (Int.emod_nonneg _ (by omega)) (Int.emod_lt_of_pos _ hn)
        · walk_at "mf"
          walk_at "mf"
          refine g_pow (by decide) (by decide) (stir_bd (Int.emod_nonneg _ (by decide)) (Int.lt_of_lt_of_le (Int.emod_lt_of_pos _ (by decide)) (by decide)) ht0 ht (by decide) (by decide) (by decide) (by decide) (by decide) (by decide)) ?_
          walk_at "mf"
          exact k (t + 1) _ _ sx ⟨c, ns, r, eq2, hc2, ncq, hns, hr0, by omega⟩ (by omega) (by omega) (Int.emod_nonneg _ (by omega)) (Int.emod_lt_of_pos _ hn)
      · walk_at "mf"
        walk_at "mf"
        refine g_ix (.inl (seqU eq2)) (v := .ref c) rfl ?_
        walk_at "mf"
        refine g_len (.inl (seqU hc2)) ?_
        walk_at "mf"
        refine g_ite (fun h3 => ?_) (fun h3 => ?_)
        · walk_at "mf"
          refine g_ite (fun h4 => ?_) (fun h4 => ?_)
          · have h5 := of_decide_eq_true h4
            rw [show (10 : Int) ^ (18 : Int).toNat = 1000000000000000000 by decide] at h5
            walk_at "mf"
            refine g_setL eq2 (j := 2) rfl ?_
            walk_at "mf"
            rw [show (10 : Int) ^ (18 : Int).toNat = 1000000000000000000 by decide]
            exact k (t + 1) _ _ (sx.trans (upd_x eq2)) ⟨c, ns, _, upd_same, (upd_x eq2).kept _ _ ncq hc2, ncq, hns, Int.ediv_nonneg (by split <;> omega) (by omega), by omega⟩ (by omega) (by omega) (Int.emod_nonneg _ (by omega)) (Int.emod_lt_of_pos _ hn)
          · walk_at "mf"
            walk_at "mf"
            refine g_pow (by decide) (by decide) (stir_bd (Int.emod_nonneg _ (by decide)) (Int.lt_of_lt_of_le (Int.emod_lt_of_pos _ (by decide)) (by decide)) ht0 ht (by decide) (by decide) (by decide) (by decide) (by decide) (by decide)) ?_
            walk_at "mf"
            exact k (t + 1) _ _ sx ⟨c, ns, r, eq2, hc2, ncq, hns, hr0, by omega⟩ (by omega) (by omega) (Int.emod_nonneg _ (by omega)) (Int.emod_lt_of_pos _ hn)
        · walk_at "mf"
          walk_at "mf"
          refine g_pow (by decide) (by decide) (stir_bd (Int.emod_nonneg _ (by decide)) (Int.lt_of_lt_of_le (Int.emod_lt_of_pos _ (by decide)) (by decide)) ht0 ht (by decide) (by decide) (by decide) (by decide) (by decide) (by decide)) ?_
          walk_at "mf"
          exact k (t + 1) _ _ sx ⟨c, ns, r, eq2, hc2, ncq, hns, hr0, by omega⟩ (by omega) (by omega) (Int.emod_nonneg _ (by omega)) (Int.emod_lt_of_pos _ hn)
theorem ok__law_pick (c : Cn) (T : Tx c) : Cl c 2 "_law_pick" s__law_pick ["cellar", "some"] (sp_pick c.K) := by
  obtain ⟨P, w, K, mg, base⟩ := c
  have C__law_barrel := ok__law_barrel _ T
  refine De.cl (N := ["cellar", "some"]) T.d__law_pick sc__law_pick (fun vs H Q E h => ?_) (fun f0 cdv A outer s H vs Q E hA hr h => ?_)
  · obtain ⟨q, a, t, xs, rfl, _⟩ := h; rfl
  · have S := sc__law_pick
    obtain ⟨q, a, t, xs, rfl, hq, ht, na, hs, hne, hl, k⟩ := h
    refine ⟨_, (pss_one (ps_ret (pe_ix ix_seq (pv 1) (pe_f C__law_barrel hA hr (by decide) pl__law_barrel (by rfl) (pa_cons (pv 0) (pa_cons (pe_callB call_lenU (by rfl) T.n_len PySem.boot_len (pa_cons (pv 1) pa_nil)) pa_nil))) (fun _ _ => rfl)))), ?_⟩
    have hp : 0 < xs.length := by
      cases xs with
      | nil => exact absurd rfl hne
      | cons z r => exact Nat.succ_pos _
    walk_at "mf"
    refine g_len hs ?_
    walk_at "mf"
    refine ⟨q, t, _, rfl, hq, ht, by omega, ?_, fun t' H' i sx hq' h1 h2 h3 h4 => ?_⟩
    · rw [Int.natAbs_natCast]
      exact Nat.lt_of_lt_of_le ((Nat.log2_lt (by omega)).mpr (show xs.length < 2 ^ 10 by omega)) (by decide)
    · walk_at "mf"
      have hi : i.toNat < xs.length := by omega
      refine g_ix (hs.go sx na) (at_of (j := i.toNat) (by omega) (List.getElem?_eq_getElem hi)) ?_
      exact k t' H' _ sx hq' h1 h2 (List.getElem_mem hi)
end Mf
namespace Mf
open PySem PySem.Spec PyProof.Rows L2
local macro_rules | `(tactic| walk_at "mf1") => `(tactic| first
  | ((with_reducible apply g_var); exact rfl)
  | with_reducible first
    | refine g_c ?_ | refine g_op ?_ | refine g_un ?_ | refine g_cb ?_ | refine g_cl ?_ | refine g_clk ?_ | refine g_nil ?_ | refine g_cons ?_
    | refine g_tB ?_ | refine g_test ?_ | refine g_bl ?_ | refine g_and ?_ | refine g_or ?_ | refine g_not ?_ | refine g_andV ?_ | refine g_orV ?_ | refine g_notV ?_
    | refine g_if ?_ | refine g_ifS ?_ | refine g_seq ?_ | refine g_next ?_ | refine g_ret ?_ | refine g_drop ?_ | refine g_asg ?_ | refine g_name ?_ | refine g_sub ?_
    | refine g_int ?_ | refine g_intB ?_ | refine g_abs ?_ | refine g_I0 ?_ | refine g_addI ?_ | refine g_U ?_ | refine g_isNn ?_ | refine g_isNi ?_ | refine g_notN ?_ | refine g_notT1 ?_ | refine g_notT2 ?_ | refine g_notT3 ?_ | refine g_notT4 ?_ | refine g_notTb ?_ | refine g_notTi ?_ | refine g_eqI ?_ | refine g_neI ?_ | refine g_neSs ?_ | refine g_neS ?_ | refine g_eqS ?_
    | refine g_iteT ?_ | refine g_iteF ?_ | refine g_iteNT ?_ | refine g_iteNF ?_ | refine g_lst ?_ | refine g_tup ?_ | refine g_seqP ?_ | refine g_sl ?_ | refine g_noPart ?_ | refine g_part ?_ | refine g_yes ?_ | refine g_thenT ?_ | refine g_consG ?_ | refine g_nilG ?_ | refine g_ii ?_ | refine g_par ?_ | refine g_par3 ?_ | refine g_vv ?_ | refine g_vvv ?_ | refine g_reprB ?_ | refine g_lcL ?_ | refine g_lcR ?_
  | ((with_reducible refine g_mod ?_ ?_); (first | omega | decide))
  | ((with_reducible refine g_div ?_ ?_ ?_); (first | omega | decide); (first | assumption | decide))
  | ((with_reducible refine g_mulL ?_ ?_ ?_); (first | omega | decide); (first | omega | decide))
  | ((with_reducible refine g_mulR ?_ ?_ ?_); (first | omega | decide); (first | omega | decide))
  | ((with_reducible refine g_pow ?_ ?_ ?_ ?_); decide; decide; (first | omega | decide))
  | dsimp only)
local macro_rules | `(tactic| walk_at "mf1s") => `(tactic| first
  | ((with_reducible apply g_var); exact rfl)
  | with_reducible first
    | refine g_c ?_ | refine g_op ?_ | refine g_un ?_ | refine g_cb ?_ | refine g_cl ?_ | refine g_clk ?_ | refine g_nil ?_ | refine g_cons ?_
    | refine g_tB ?_ | refine g_test ?_ | refine g_bl ?_ | refine g_and ?_ | refine g_or ?_ | refine g_not ?_ | refine g_andV ?_ | refine g_orV ?_ | refine g_notV ?_
    | refine g_if ?_ | refine g_ifS ?_ | refine g_next ?_ | refine g_ret ?_ | refine g_drop ?_ | refine g_asg ?_ | refine g_name ?_ | refine g_sub ?_
    | refine g_int ?_ | refine g_intB ?_ | refine g_abs ?_ | refine g_I0 ?_ | refine g_addI ?_ | refine g_U ?_ | refine g_isNn ?_ | refine g_isNi ?_ | refine g_notN ?_ | refine g_notT1 ?_ | refine g_notT2 ?_ | refine g_notT3 ?_ | refine g_notT4 ?_ | refine g_notTb ?_ | refine g_notTi ?_ | refine g_eqI ?_ | refine g_neI ?_ | refine g_neSs ?_ | refine g_neS ?_ | refine g_eqS ?_
    | refine g_iteT ?_ | refine g_iteF ?_ | refine g_iteNT ?_ | refine g_iteNF ?_ | refine g_lst ?_ | refine g_tup ?_ | refine g_seqP ?_ | refine g_sl ?_ | refine g_noPart ?_ | refine g_part ?_ | refine g_yes ?_ | refine g_thenT ?_ | refine g_consG ?_ | refine g_nilG ?_ | refine g_ii ?_ | refine g_par ?_ | refine g_par3 ?_ | refine g_vv ?_ | refine g_vvv ?_ | refine g_reprB ?_ | refine g_lcL ?_ | refine g_lcR ?_
  | ((with_reducible refine g_mod ?_ ?_); (first | omega | decide))
  | ((with_reducible refine g_div ?_ ?_ ?_); (first | omega | decide); (first | assumption | decide))
  | ((with_reducible refine g_mulL ?_ ?_ ?_); (first | omega | decide); (first | omega | decide))
  | ((with_reducible refine g_mulR ?_ ?_ ?_); (first | omega | decide); (first | omega | decide))
  | ((with_reducible refine g_pow ?_ ?_ ?_ ?_); decide; decide; (first | omega | decide))
  | dsimp only)
local macro_rules | `(tactic| walk_at "mfs") => `(tactic| repeat walk_at "mf1s")
local macro_rules | `(tactic| walk_at "mf") => `(tactic| repeat walk_at "mf1")
local macro_rules | `(tactic| walk_at "ed") => `(tactic| repeat (first
  | with_reducible first
    | exact eds_nil | apply eds_cons | exact ed_int | exact ed_bl | exact ed_non | apply ed_neg
  | ((with_reducible apply ed_str); decide)
  | ((with_reducible apply ed_var); (exact rfl); (first | assumption | exact Dq.int _))
  | ((with_reducible apply ed_dict0); assumption)
  | ((with_reducible apply ed_dict2); assumption)
  | ((with_reducible apply ed_tup); assumption)
  | ((with_reducible apply ed_lst); assumption)
  | (with_reducible apply ed_pow)
  | (with_reducible apply ed_mul)
  | assumption
  | (exact Dq.int _)
  | (exact ⟨by decide, by decide, by decide⟩)
  | (show List.length _ ≤ 1000; simp only [List.length_cons, List.length_nil]; decide)))
theorem ok_reduced (c : Cn) (T : Tx c) : Cl c 1 "reduced" s_reduced ["up", "down"] (sp_reduced c.K) := by
  obtain ⟨P, w, K, mg, base⟩ := c
  refine De.cl (N := ["up", "down", "common"]) T.d_reduced sc_reduced (fun vs H Q E h => ?_) (fun f0 cdv A outer s H vs Q E hA hr h => ?_)
  · obtain ⟨u, d, rfl, _⟩ := h; rfl
  · have S := sc_reduced
    obtain ⟨u, d, rfl, hd, hb, k⟩ := h
    refine ⟨_, (pss_cons (ps_set (i := 2) S.nd rfl (by first | exact .inl rfl | exact .inr rfl) (pe_callBfun cr_gcd (by rfl) T.m_gcd (pa_cons (pv 0) (pa_cons (pv 1) pa_nil))))
      (pss_one (ps_ret (pe_tup (pa_cons (pe_op op_fdivW (pv 0) (pv 2)) (pa_cons (pe_op op_fdivW (pv 1) (pv 2)) pa_nil)))))), ?_⟩
    walk_at "mf"
    have hpos : 0 < ((Nat.gcd u.natAbs d.natAbs : Nat) : Int) := by
      have := Nat.gcd_pos_of_pos_right u.natAbs (show 0 < d.natAbs by omega)
      omega
    have hlog : ((Nat.gcd u.natAbs d.natAbs : Nat) : Int).natAbs.log2 < 9000 := by
      refine Bt.log (n := 8000) ?_ (by decide)
      show ((Nat.gcd u.natAbs d.natAbs : Nat) : Int).natAbs < _
      rw [Int.natAbs_natCast]
      exact Nat.lt_of_le_of_lt (Nat.gcd_le_right _ (by omega)) hb
    refine g_gcd ?_
    walk_at "mf"
    refine g_newT (by show 2 ≤ sizeLine; decide) fun p H1 hp s1 e1 => ?_
    rw [red_num u d hd, red_den u d hd] at e1
    exact k p H1 s1 hp e1
theorem ok_read_fraction (c : Cn) (T : Tx c) : Cl c 4 "read_fraction" s_read_fraction ["value", "part"] (sp_read c.K) := by
  obtain ⟨P, w, K, mg, base⟩ := c
  have C_is_fraction := ok_is_fraction _ T
  have C_is_integer := ok_is_integer _ T
  have C_reduced := ok_reduced _ T
  refine De.cl (N := ["value", "part", "up", "down"]) T.d_read_fraction sc_read_fraction (fun vs H Q E h => ?_) (fun f0 cdv A outer s H vs Q E hA hr h => ?_)
  · obtain ⟨q, v, part, r, n, rfl, _⟩ := h; rfl
  · have S := sc_read_fraction
    obtain ⟨q, v, part, r, n, rfl, hf, hn, k⟩ := h
    refine ⟨_, (pss_cons (ps_if (pt_not (pt_val (pe_f C_is_fraction hA hr (by decide) pl_is_fraction (by rfl) (pa_cons (pv 0) pa_nil)))) (pss_one ps_never) pss_nil)
      (pss_cons (ps_if (pt_val (pe_f C_is_integer hA hr (by decide) pl_is_integer (by rfl) (pa_cons (pv 0) pa_nil))) (pss_one (ps_ret (pe_f C_reduced hA hr (by decide) pl_reduced (by rfl) (pa_cons (pv 0) (pa_cons pe_int pa_nil))))) pss_nil)
      (pss_cons (ps_asg (pv 0) (pg_or (pg_tup rfl (pgs_cons (pg_name (i := 2) S.nd rfl (by first | exact .inl rfl | exact .inr rfl)) (pgs_cons (pg_name (i := 3) S.nd rfl (by first | exact .inl rfl | exact .inr rfl)) pgs_nil))) (pg_unl rfl (pgs_cons (pg_name (i := 2) S.nd rfl (by first | exact .inl rfl | exact .inr rfl)) (pgs_cons (pg_name (i := 3) S.nd rfl (by first | exact .inl rfl | exact .inr rfl)) pgs_nil)))))
      (pss_one (ps_ret (pe_f C_reduced hA hr (by decide) pl_reduced (by rfl) (pa_cons (pv 2) (pa_cons (pv 3) pa_nil)))))))), ?_⟩
    rcases hf.cases with ⟨i, rfl, hd, rfl, hb⟩ | ⟨a, d, x, y, rfl, na, hd, e1, e2, hs, hy, rfl, hbx, hby⟩
    · walk_at "mf"
      refine ⟨q, _, _, rfl, hd, ?_⟩
      walk_at "mf"
      refine g_iteF ?_
      walk_at "mf"
      refine ⟨q, _, _, rfl, hd, ?_⟩
      walk_at "mf"
      refine g_iteT ?_
      walk_at "mf"
      exact ⟨i, 1, rfl, by decide, Bt.mono (m := 1) (by show 1 < 2 ^ 1; decide) (by decide), k⟩
    · walk_at "mf"
      refine ⟨q, _, _, rfl, hd, ?_⟩
      rw [e2]
      walk_at "mf"
      refine ⟨q, _, _, rfl, hd, ?_⟩
      rw [e1]
      walk_at "mf"
      refine g_seqG hs rfl ?_
      walk_at "mf"
      exact ⟨x, y, rfl, hy, hby.mono hn, k⟩
theorem ok_fraction_of (c : Cn) (T : Tx c) : Cl c 5 "fraction_of" s_fraction_of ["value"] (sp_frof c.K) := by
  obtain ⟨P, w, K, mg, base⟩ := c
  have C_read_fraction := ok_read_fraction _ T
  refine De.cl (N := ["value"]) T.d_fraction_of sc_fraction_of (fun vs H Q E h => ?_) (fun f0 cdv A outer s H vs Q E hA hr h => ?_)
  · obtain ⟨q, v, r, n, rfl, _⟩ := h; rfl
  · have S := sc_fraction_of
    obtain ⟨q, v, r, n, rfl, hf, hn, k⟩ := h
    refine ⟨_, (pss_one (ps_ret (pe_f C_read_fraction hA hr (by decide) pl_read_fraction (by rfl) (pa_cons (pv 0) (pa_cons pe_str pa_nil))))), ?_⟩
    walk_at "mf"
    exact ⟨q, v, _, r, n, rfl, hf, hn, k⟩
theorem ok_taken (c : Cn) (T : Tx c) : Cl c 5 "taken" s_taken ["one", "other"] (sp_bin (· - ·) c.K) := by
  obtain ⟨P, w, K, mg, base⟩ := c
  have C_read_fraction := ok_read_fraction _ T
  have C_reduced := ok_reduced _ T
  refine De.cl (N := ["one", "other", "up", "down", "less", "below"]) T.d_taken sc_taken (fun vs H Q E h => ?_) (fun f0 cdv A outer s H vs Q E hA hr h => ?_)
  · obtain ⟨q, v1, v2, r1, r2, m, n, rfl, _⟩ := h; rfl
  · have S := sc_taken
    obtain ⟨q, v1, v2, r1, r2, m, n, rfl, h1, h2, hmn, k⟩ := h
    refine ⟨_, (pss_cons (ps_asg (pe_f C_read_fraction hA hr (by decide) pl_read_fraction (by rfl) (pa_cons (pv 0) (pa_cons pe_str pa_nil))) (pg_tup rfl (pgs_cons (pg_name (i := 2) S.nd rfl (by first | exact .inl rfl | exact .inr rfl)) (pgs_cons (pg_name (i := 3) S.nd rfl (by first | exact .inl rfl | exact .inr rfl)) pgs_nil))))
      (pss_cons (ps_asg (pe_f C_read_fraction hA hr (by decide) pl_read_fraction (by rfl) (pa_cons (pv 1) (pa_cons pe_str pa_nil))) (pg_tup rfl (pgs_cons (pg_name (i := 4) S.nd rfl (by first | exact .inl rfl | exact .inr rfl)) (pgs_cons (pg_name (i := 5) S.nd rfl (by first | exact .inl rfl | exact .inr rfl)) pgs_nil))))
      (pss_one (ps_ret (pe_f C_reduced hA hr (by decide) pl_reduced (by rfl) (pa_cons (pe_op op_sub (pe_op op_mulU (pv 2) (pv 5)) (pe_op op_mulU (pv 4) (pv 3))) (pa_cons (pe_op op_mulU (pv 3) (pv 5)) pa_nil))))))), ?_⟩
    walk_at "mf"
    refine ⟨q, v1, _, r1, m, rfl, h1, by omega, fun p1 H1 s1 n1 e1 => ?_⟩
    refine g_tupG (tupU e1) rfl ?_
    walk_at "mf"
    refine ⟨q, v2, _, r2, n, rfl, h2.go (Same.x s1), by omega, fun p2 H2 s2 n2 e2 => ?_⟩
    refine g_tupG (tupU e2) rfl ?_
    have b1 := h1.rb
    have b2 := h2.rb
    have c1 := b1.1.cm b2.2 (by omega)
    have c2 := b2.1.cm b1.2 (by omega)
    have c3 := b1.2.cm b2.2 (by omega)
    have c4 := b1.1.cm b2.1 (by omega)
    walk_at "mf"
    refine g_mulU c1 ?_
    walk_at "mf"
    refine g_mulU c2 ?_
    walk_at "mf"
    refine g_mulU c3 ?_
    walk_at "mf"
    refine ⟨_, _, rfl, dd1 r1 r2, (b1.2.mul b2.2).mono (by omega), ?_⟩
    rw [sub_div]
    exact (RetT.same k s1).same s2
theorem ok_multiplied (c : Cn) (T : Tx c) : Cl c 5 "multiplied" s_multiplied ["one", "other"] (sp_bin (· * ·) c.K) := by
  obtain ⟨P, w, K, mg, base⟩ := c
  have C_read_fraction := ok_read_fraction _ T
  have C_reduced := ok_reduced _ T
  refine De.cl (N := ["one", "other", "up", "down", "times", "below"]) T.d_multiplied sc_multiplied (fun vs H Q E h => ?_) (fun f0 cdv A outer s H vs Q E hA hr h => ?_)
  · obtain ⟨q, v1, v2, r1, r2, m, n, rfl, _⟩ := h; rfl
  · have S := sc_multiplied
    obtain ⟨q, v1, v2, r1, r2, m, n, rfl, h1, h2, hmn, k⟩ := h
    refine ⟨_, (pss_cons (ps_asg (pe_f C_read_fraction hA hr (by decide) pl_read_fraction (by rfl) (pa_cons (pv 0) (pa_cons pe_str pa_nil))) (pg_tup rfl (pgs_cons (pg_name (i := 2) S.nd rfl (by first | exact .inl rfl | exact .inr rfl)) (pgs_cons (pg_name (i := 3) S.nd rfl (by first | exact .inl rfl | exact .inr rfl)) pgs_nil))))
      (pss_cons (ps_asg (pe_f C_read_fraction hA hr (by decide) pl_read_fraction (by rfl) (pa_cons (pv 1) (pa_cons pe_str pa_nil))) (pg_tup rfl (pgs_cons (pg_name (i := 4) S.nd rfl (by first | exact .inl rfl | exact .inr rfl)) (pgs_cons (pg_name (i := 5) S.nd rfl (by first | exact .inl rfl | exact .inr rfl)) pgs_nil))))
      (pss_one (ps_ret (pe_f C_reduced hA hr (by decide) pl_reduced (by rfl) (pa_cons (pe_op op_mulU (pv 2) (pv 4)) (pa_cons (pe_op op_mulU (pv 3) (pv 5)) pa_nil))))))), ?_⟩
    walk_at "mf"
    refine ⟨q, v1, _, r1, m, rfl, h1, by omega, fun p1 H1 s1 n1 e1 => ?_⟩
    refine g_tupG (tupU e1) rfl ?_
    walk_at "mf"
    refine ⟨q, v2, _, r2, n, rfl, h2.go (Same.x s1), by omega, fun p2 H2 s2 n2 e2 => ?_⟩
    refine g_tupG (tupU e2) rfl ?_
    have b1 := h1.rb
    have b2 := h2.rb
    have c1 := b1.1.cm b2.2 (by omega)
    have c2 := b2.1.cm b1.2 (by omega)
    have c3 := b1.2.cm b2.2 (by omega)
    have c4 := b1.1.cm b2.1 (by omega)
    walk_at "mf"
    refine g_mulU c4 ?_
    walk_at "mf"
    refine g_mulU c3 ?_
    walk_at "mf"
    refine ⟨_, _, rfl, dd1 r1 r2, (b1.2.mul b2.2).mono (by omega), ?_⟩
    rw [mul_div]
    exact (RetT.same k s1).same s2
theorem ok_divided (c : Cn) (T : Tx c) : Cl c 5 "divided" s_divided ["one", "other"] (sp_divd c.K) := by
  obtain ⟨P, w, K, mg, base⟩ := c
  have C_read_fraction := ok_read_fraction _ T
  have C_reduced := ok_reduced _ T
  refine De.cl (N := ["one", "other", "up", "down", "times", "below"]) T.d_divided sc_divided (fun vs H Q E h => ?_) (fun f0 cdv A outer s H vs Q E hA hr h => ?_)
  · obtain ⟨q, v1, v2, r1, r2, m, n, rfl, _⟩ := h; rfl
  · have S := sc_divided
    obtain ⟨q, v1, v2, r1, r2, m, n, rfl, h1, h2, hmn, hr0, k⟩ := h
    refine ⟨_, (pss_cons (ps_asg (pe_f C_read_fraction hA hr (by decide) pl_read_fraction (by rfl) (pa_cons (pv 0) (pa_cons pe_str pa_nil))) (pg_tup rfl (pgs_cons (pg_name (i := 2) S.nd rfl (by first | exact .inl rfl | exact .inr rfl)) (pgs_cons (pg_name (i := 3) S.nd rfl (by first | exact .inl rfl | exact .inr rfl)) pgs_nil))))
      (pss_cons (ps_asg (pe_f C_read_fraction hA hr (by decide) pl_read_fraction (by rfl) (pa_cons (pv 1) (pa_cons pe_str pa_nil))) (pg_tup rfl (pgs_cons (pg_name (i := 4) S.nd rfl (by first | exact .inl rfl | exact .inr rfl)) (pgs_cons (pg_name (i := 5) S.nd rfl (by first | exact .inl rfl | exact .inr rfl)) pgs_nil))))
      (pss_cons (ps_if (pt_cmpR (op_eqU hr.units) (pv 4) pe_int (nomark _)) (pss_one ps_never) pss_nil)
      (pss_cons (ps_if (pt_cmpR op_lt (pv 4) pe_int (nomark _)) (pss_one (ps_ret (pe_f C_reduced hA hr (by decide) pl_reduced (by rfl) (pa_cons (pe_op op_mulU (pe_un un_neg (pv 2)) (pv 5)) (pa_cons (pe_op op_mulU (pe_un un_neg (pv 4)) (pv 3)) pa_nil))))) pss_nil)
      (pss_one (ps_ret (pe_f C_reduced hA hr (by decide) pl_reduced (by rfl) (pa_cons (pe_op op_mulU (pv 2) (pv 5)) (pa_cons (pe_op op_mulU (pv 4) (pv 3)) pa_nil))))))))), ?_⟩
    walk_at "mf"
    refine ⟨q, v1, _, r1, m, rfl, h1, by omega, fun p1 H1 s1 n1 e1 => ?_⟩
    refine g_tupG (tupU e1) rfl ?_
    walk_at "mf"
    refine ⟨q, v2, _, r2, n, rfl, h2.go (Same.x s1), by omega, fun p2 H2 s2 n2 e2 => ?_⟩
    refine g_tupG (tupU e2) rfl ?_
    have b1 := h1.rb
    have b2 := h2.rb
    have c1 := b1.1.cm b2.2 (by omega)
    have c2 := b2.1.cm b1.2 (by omega)
    have c3 := b1.2.cm b2.2 (by omega)
    have c4 := b1.1.cm b2.1 (by omega)
    walk_at "mf"
    have hnz : r2.num ≠ 0 := fun e => hr0 (Rat.num_eq_zero.mp e)
    refine g_ite (fun h => absurd (of_decide_eq_true h) hnz) (fun _ => ?_)
    walk_at "mf"
    have d1 := den1 r1
    refine g_ite (fun h => ?_) (fun h => ?_)
    · have h := of_decide_eq_true h
      have c5 := b1.1.neg.cm b2.2 (by omega)
      have c6 := b2.1.neg.cm b1.2 (by omega)
      walk_at "mf"
      refine g_mulU c5 ?_
      walk_at "mf"
      refine g_mulU c6 ?_
      walk_at "mf"
      refine ⟨_, _, rfl, Int.le_trans (by decide) (Int.mul_le_mul (show 1 ≤ -r2.num by omega) d1 (by decide) (by omega)), (b2.1.neg.mul b1.2).mono (by omega), ?_⟩
      rw [div_neg]
      exact (RetT.same k s1).same s2
    · have h := of_decide_eq_false h
      walk_at "mf"
      refine g_mulU c1 ?_
      walk_at "mf"
      refine g_mulU c2 ?_
      walk_at "mf"
      refine ⟨_, _, rfl, Int.le_trans (by decide) (Int.mul_le_mul (show 1 ≤ r2.num by omega) d1 (by decide) (by omega)), (b2.1.mul b1.2).mono (by omega), ?_⟩
      rw [div_div]
      exact (RetT.same k s1).same s2
end Mf
namespace Mf
open PySem PySem.Spec PyProof.Rows L2
local macro_rules | `(tactic| walk_at "mf1") => `(tactic| first
  | ((with_reducible apply g_var); exact rfl)
  | with_reducible first
    | refine g_c ?_ | refine g_op ?_ | refine g_un ?_ | refine g_cb ?_ | refine g_cl ?_ | refine g_clk ?_ | refine g_nil ?_ | refine g_cons ?_
    | refine g_tB ?_ | refine g_test ?_ | refine g_bl ?_ | refine g_and ?_ | refine g_or ?_ | refine g_not ?_ | refine g_andV ?_ | refine g_orV ?_ | refine g_notV ?_
    | refine g_if ?_ | refine g_ifS ?_ | refine g_seq ?_ | refine g_next ?_ | refine g_ret ?_ | refine g_drop ?_ | refine g_asg ?_ | refine g_name ?_ | refine g_sub ?_
    | refine g_int ?_ | refine g_intB ?_ | refine g_abs ?_ | refine g_I0 ?_ | refine g_addI ?_ | refine g_U ?_ | refine g_isNn ?_ | refine g_isNi ?_ | refine g_notN ?_ | refine g_notT1 ?_ | refine g_notT2 ?_ | refine g_notT3 ?_ | refine g_notT4 ?_ | refine g_notTb ?_ | refine g_notTi ?_ | refine g_eqI ?_ | refine g_neI ?_ | refine g_neSs ?_ | refine g_neS ?_ | refine g_eqS ?_
    | refine g_iteT ?_ | refine g_iteF ?_ | refine g_iteNT ?_ | refine g_iteNF ?_ | refine g_lst ?_ | refine g_tup ?_ | refine g_seqP ?_ | refine g_sl ?_ | refine g_noPart ?_ | refine g_part ?_ | refine g_yes ?_ | refine g_thenT ?_ | refine g_consG ?_ | refine g_nilG ?_ | refine g_ii ?_ | refine g_par ?_ | refine g_par3 ?_ | refine g_vv ?_ | refine g_vvv ?_ | refine g_reprB ?_ | refine g_lcL ?_ | refine g_lcR ?_
  | ((with_reducible refine g_mod ?_ ?_); (first | omega | decide))
  | ((with_reducible refine g_div ?_ ?_ ?_); (first | omega | decide); (first | assumption | decide))
  | ((with_reducible refine g_mulL ?_ ?_ ?_); (first | omega | decide); (first | omega | decide))
  | ((with_reducible refine g_mulR ?_ ?_ ?_); (first | omega | decide); (first | omega | decide))
  | ((with_reducible refine g_pow ?_ ?_ ?_ ?_); decide; decide; (first | omega | decide))
  | dsimp only)
local macro_rules | `(tactic| walk_at "mf1s") => `(tactic| first
  | ((with_reducible apply g_var); exact rfl)
  | with_reducible first
    | refine g_c ?_ | refine g_op ?_ | refine g_un ?_ | refine g_cb ?_ | refine g_cl ?_ | refine g_clk ?_ | refine g_nil ?_ | refine g_cons ?_
    | refine g_tB ?_ | refine g_test ?_ | refine g_bl ?_ | refine g_and ?_ | refine g_or ?_ | refine g_not ?_ | refine g_andV ?_ | refine g_orV ?_ | refine g_notV ?_
    | refine g_if ?_ | refine g_ifS ?_ | refine g_next ?_ | refine g_ret ?_ | refine g_drop ?_ | refine g_asg ?_ | refine g_name ?_ | refine g_sub ?_
    | refine g_int ?_ | refine g_intB ?_ | refine g_abs ?_ | refine g_I0 ?_ | refine g_addI ?_ | refine g_U ?_ | refine g_isNn ?_ | refine g_isNi ?_ | refine g_notN ?_ | refine g_notT1 ?_ | refine g_notT2 ?_ | refine g_notT3 ?_ | refine g_notT4 ?_ | refine g_notTb ?_ | refine g_notTi ?_ | refine g_eqI ?_ | refine g_neI ?_ | refine g_neSs ?_ | refine g_neS ?_ | refine g_eqS ?_
    | refine g_iteT ?_ | refine g_iteF ?_ | refine g_iteNT ?_ | refine g_iteNF ?_ | refine g_lst ?_ | refine g_tup ?_ | refine g_seqP ?_ | refine g_sl ?_ | refine g_noPart ?_ | refine g_part ?_ | refine g_yes ?_ | refine g_thenT ?_ | refine g_consG ?_ | refine g_nilG ?_ | refine g_ii ?_ | refine g_par ?_ | refine g_par3 ?_ | refine g_vv ?_ | refine g_vvv ?_ | refine g_reprB ?_ | refine g_lcL ?_ | refine g_lcR ?_
  | ((with_reducible refine g_mod ?_ ?_); (first | omega | decide))
  | ((with_reducible refine g_div ?_ ?_ ?_); (first | omega | decide); (first | assumption | decide))
  | ((with_reducible refine g_mulL ?_ ?_ ?_); (first | omega | decide); (first | omega | decide))
  | ((with_reducible refine g_mulR ?_ ?_ ?_); (first | omega | decide); (first | omega | decide))
  | ((with_reducible refine g_pow ?_ ?_ ?_ ?_); decide; decide; (first | omega | decide))
  | dsimp only)
local macro_rules | `(tactic| walk_at "mfs") => `(tactic| repeat walk_at "mf1s")
local macro_rules | `(tactic| walk_at "mf") => `(tactic| repeat walk_at "mf1")
local macro_rules | `(tactic| walk_at "ed") => `(tactic| repeat (first
  | with_reducible first
    | exact eds_nil | apply eds_cons | exact ed_int | exact ed_bl | exact ed_non | apply ed_neg
  | ((with_reducible apply ed_str); decide)
  | ((with_reducible apply ed_var); (exact rfl); (first | assumption | exact Dq.int _))
  | ((with_reducible apply ed_dict0); assumption)
  | ((with_reducible apply ed_dict2); assumption)
  | ((with_reducible apply ed_tup); assumption)
  | ((with_reducible apply ed_lst); assumption)
  | (with_reducible apply ed_pow)
  | (with_reducible apply ed_mul)
  | assumption
  | (exact Dq.int _)
  | (exact ⟨by decide, by decide, by decide⟩)
  | (show List.length _ ≤ 1000; simp only [List.length_cons, List.length_nil]; decide)))
theorem ok__law_low (c : Cn) (T : Tx c) : Cl c 1 "_law_low" s__law_low ["up", "down"] (sp_low c.K) := by
  obtain ⟨P, w, K, mg, base⟩ := c
  refine De.cl (N := ["up", "down", "one", "other", "part"]) T.d__law_low sc__law_low (fun vs H Q E h => ?_) (fun f0 cdv A outer s H vs Q E hA hr h => ?_)
  · obtain ⟨u, d, rfl, _⟩ := h; rfl
  · have S := sc__law_low
    obtain ⟨u, d, rfl, hd, hb, k⟩ := h
    refine ⟨_, (pss_cons (ps_par (i := 2) (j := 3) (by rfl) S.nd rfl rfl (by decide) rfl rfl (pa_cons (pe_callB call_absU (by rfl) T.n_abs (show bootBuiltins "abs" = some (.builtin "abs") by decide +kernel) (pa_cons (pv 0) pa_nil)) (pa_cons (pe_callB call_absU (by rfl) T.n_abs (show bootBuiltins "abs" = some (.builtin "abs") by decide +kernel) (pa_cons (pv 1) pa_nil)) pa_nil)) (by rfl))
      (pss_cons (ps_while PassesOwn.never (pt_cmpR op_gt (pv 3) pe_int (nomark _)) (pss_one (ps_par (i := 2) (j := 3) (by rfl) S.nd rfl rfl (by decide) rfl rfl (pa_cons (pv 3) (pa_cons (pe_op op_mod (pe_callTy call_intU (by rfl) T.n_int PyProof.Rows.boot_int (pa_cons (pv 2) pa_nil)) (pv 3)) pa_nil)) (by rfl))))
      (pss_cons (ps_set (i := 4) S.nd rfl (by first | exact .inl rfl | exact .inr rfl) (pe_ifExp (pt_cmpR op_gt (pv 1) pe_int (nomark _)) (pv 2) (pe_un un_neg (pv 2))))
      (pss_one (ps_ret (pe_tup (pa_cons (pe_op op_fdivW (pv 0) (pv 4)) (pa_cons (pe_op op_fdivW (pv 1) (pv 4)) pa_nil)))))))), ?_⟩
    have hcpos : 0 < Nat.gcd u.natAbs d.natAbs := Nat.gcd_pos_of_pos_right u.natAbs (show 0 < d.natAbs by omega)
    have hlog0 : ((Nat.gcd u.natAbs d.natAbs : Nat) : Int).natAbs.log2 < 9000 := by
      refine Bt.log (n := 8000) ?_ (by decide)
      show ((Nat.gcd u.natAbs d.natAbs : Nat) : Int).natAbs < _
      rw [Int.natAbs_natCast]
      exact Nat.lt_of_le_of_lt (Nat.gcd_le_right _ (by omega)) hb
    walk_at "mf"
    refine ⟨fun m σ' H' => ∃ x y : Int, σ' = [some (.int u), some (.int d), some (.int x), some (.int y), none] ∧ 0 ≤ x ∧ 0 ≤ y ∧ Nat.gcd x.natAbs y.natAbs = Nat.gcd u.natAbs d.natAbs ∧ m = y.toNat ∧ H' = H,
      ⟨_, _, _, rfl, by split <;> omega, by split <;> omega, ?_, rfl, rfl⟩, ?_⟩
    · have e1 : (if u < 0 then -u else u).natAbs = u.natAbs := by split <;> omega
      have e2 : (if d < 0 then -d else d).natAbs = d.natAbs := by split <;> omega
      rw [e1, e2]
    · intro m σ' H' hW
      obtain ⟨x, y, rfl, x0, y0, hg, rfl, rfl⟩ := hW
      walk_at "mf"
      refine g_ite (fun h => ?_) (fun h => ?_)
      · have h := of_decide_eq_true h
        refine ⟨fun σ2 H2 => ∃ x' y' : Int, σ2 = [some (.int u), some (.int d), some (.int x'), some (.int y'), none] ∧ 0 ≤ x' ∧ 0 ≤ y' ∧ Nat.gcd x'.natAbs y'.natAbs = Nat.gcd u.natAbs d.natAbs ∧ y'.toNat < y.toNat ∧ H2 = H', ?_, ?_⟩
        · intro σ2 H2 hN
          obtain ⟨x', y', rfl, a1, a2, a3, a4, rfl⟩ := hN
          exact ⟨_, a4, x', y', rfl, a1, a2, a3, rfl, rfl⟩
        · walk_at "mf"
          have b1 := Int.emod_nonneg x (show y ≠ 0 by omega)
          have b2 := Int.emod_lt_of_pos x h
          have b3 : (x % y).toNat < y.toNat := by
            generalize x % y = z at b1 b2 ⊢
            omega
          refine ⟨y, x % y, rfl, y0, b1, ?_, b3, rfl⟩
          rw [show (x % y).natAbs = x.natAbs % y.natAbs by
            obtain ⟨a, rfl⟩ := Int.eq_ofNat_of_zero_le x0
            obtain ⟨b, rfl⟩ := Int.eq_ofNat_of_zero_le y0
            rw [← Int.natCast_emod]
            simp only [Int.natAbs_natCast]]
          rw [Nat.gcd_comm, ← Nat.gcd_rec, Nat.gcd_comm]
          exact hg
      · have h := of_decide_eq_false h
        have hy : y = 0 := by omega
        subst hy
        rw [show (0 : Int).natAbs = 0 from rfl, Nat.gcd_zero_right] at hg
        have hx : x = ((Nat.gcd u.natAbs d.natAbs : Nat) : Int) := by omega
        subst hx
        have hpos : 0 < ((Nat.gcd u.natAbs d.natAbs : Nat) : Int) := by omega
        walk_at "mf"
        rw [decide_eq_true (show 0 < d by omega)]
        refine g_iteT ?_
        walk_at "mf"
        refine g_newT (by show 2 ≤ sizeLine; decide) fun p H1 hp s1 e1 => ?_
        rw [red_num u d hd, red_den u d hd] at e1
        exact k p H1 s1 hp e1
theorem ok__law_plus (c : Cn) (T : Tx c) : Cl c 2 "_law_plus" s__law_plus ["one", "other"] (sp_lbin (· + ·) c.K) := by
  obtain ⟨P, w, K, mg, base⟩ := c
  have C__law_low := ok__law_low _ T
  refine De.cl (N := ["one", "other"]) T.d__law_plus sc__law_plus (fun vs H Q E h => ?_) (fun f0 cdv A outer s H vs Q E hA hr h => ?_)
  · obtain ⟨a, b, r, s, m, n, rfl, _⟩ := h; rfl
  · have S := sc__law_plus
    obtain ⟨a, b, r, s, m, n, rfl, ea, eb, br, bs, hmn, k⟩ := h
    refine ⟨_, (pss_one (ps_ret (pe_f C__law_low hA hr (by decide) pl__law_low (by rfl) (pa_cons (pe_op op_addU (pe_op op_mulU (pe_ix ix_seq (pv 0) pe_int (fun _ _ => rfl)) (pe_ix ix_seq (pv 1) pe_int (fun _ _ => rfl))) (pe_op op_mulU (pe_ix ix_seq (pv 1) pe_int (fun _ _ => rfl)) (pe_ix ix_seq (pv 0) pe_int (fun _ _ => rfl)))) (pa_cons (pe_op op_mulU (pe_ix ix_seq (pv 0) pe_int (fun _ _ => rfl)) (pe_ix ix_seq (pv 1) pe_int (fun _ _ => rfl))) pa_nil))))), ?_⟩
    walk_at "mf"
    refine g_ix (.inr (tupU ea)) (v := .int r.num) rfl ?_
    walk_at "mf"
    refine g_ix (.inr (tupU eb)) (v := .int s.den) rfl ?_
    walk_at "mf"
    refine g_mulU (br.1.cm bs.2 (by omega)) ?_
    walk_at "mf"
    refine g_ix (.inr (tupU eb)) (v := .int s.num) rfl ?_
    walk_at "mf"
    refine g_ix (.inr (tupU ea)) (v := .int r.den) rfl ?_
    walk_at "mf"
    refine g_mulU (bs.1.cm br.2 (by omega)) ?_
    walk_at "mf"
    refine g_ix (.inr (tupU ea)) (v := .int r.den) rfl ?_
    walk_at "mf"
    refine g_ix (.inr (tupU eb)) (v := .int s.den) rfl ?_
    walk_at "mf"
    refine g_mulU (br.2.cm bs.2 (by omega)) ?_
    walk_at "mf"
    refine ⟨_, _, rfl, dd1 r s, (br.2.mul bs.2).mono (by omega), ?_⟩
    rw [add_div]
    exact k
theorem ok__law_times (c : Cn) (T : Tx c) : Cl c 2 "_law_times" s__law_times ["one", "other"] (sp_lbin (· * ·) c.K) := by
  obtain ⟨P, w, K, mg, base⟩ := c
  have C__law_low := ok__law_low _ T
  refine De.cl (N := ["one", "other"]) T.d__law_times sc__law_times (fun vs H Q E h => ?_) (fun f0 cdv A outer s H vs Q E hA hr h => ?_)
  · obtain ⟨a, b, r, s, m, n, rfl, _⟩ := h; rfl
  · have S := sc__law_times
    obtain ⟨a, b, r, s, m, n, rfl, ea, eb, br, bs, hmn, k⟩ := h
    refine ⟨_, (pss_one (ps_ret (pe_f C__law_low hA hr (by decide) pl__law_low (by rfl) (pa_cons (pe_op op_mulU (pe_ix ix_seq (pv 0) pe_int (fun _ _ => rfl)) (pe_ix ix_seq (pv 1) pe_int (fun _ _ => rfl))) (pa_cons (pe_op op_mulU (pe_ix ix_seq (pv 0) pe_int (fun _ _ => rfl)) (pe_ix ix_seq (pv 1) pe_int (fun _ _ => rfl))) pa_nil))))), ?_⟩
    walk_at "mf"
    refine g_ix (.inr (tupU ea)) (v := .int r.num) rfl ?_
    walk_at "mf"
    refine g_ix (.inr (tupU eb)) (v := .int s.num) rfl ?_
    walk_at "mf"
    refine g_mulU (br.1.cm bs.1 (by omega)) ?_
    walk_at "mf"
    refine g_ix (.inr (tupU ea)) (v := .int r.den) rfl ?_
    walk_at "mf"
    refine g_ix (.inr (tupU eb)) (v := .int s.den) rfl ?_
    walk_at "mf"
    refine g_mulU (br.2.cm bs.2 (by omega)) ?_
    walk_at "mf"
    refine ⟨_, _, rfl, dd1 r s, (br.2.mul bs.2).mono (by omega), ?_⟩
    rw [mul_div]
    exact k
end Mf
namespace Mf
open PySem PySem.Spec PyProof.Rows L2
local macro_rules | `(tactic| walk_at "mf1") => `(tactic| first
  | ((with_reducible apply g_var); exact rfl)
  | with_reducible first
    | refine g_c ?_ | refine g_op ?_ | refine g_un ?_ | refine g_cb ?_ | refine g_cl ?_ | refine g_clk ?_ | refine g_nil ?_ | refine g_cons ?_
    | refine g_tB ?_ | refine g_test ?_ | refine g_bl ?_ | refine g_and ?_ | refine g_or ?_ | refine g_not ?_ | refine g_andV ?_ | refine g_orV ?_ | refine g_notV ?_
    | refine g_if ?_ | refine g_ifS ?_ | refine g_seq ?_ | refine g_next ?_ | refine g_ret ?_ | refine g_drop ?_ | refine g_asg ?_ | refine g_name ?_ | refine g_sub ?_
    | refine g_int ?_ | refine g_intB ?_ | refine g_abs ?_ | refine g_I0 ?_ | refine g_addI ?_ | refine g_U ?_ | refine g_isNn ?_ | refine g_isNi ?_ | refine g_notN ?_ | refine g_notT1 ?_ | refine g_notT2 ?_ | refine g_notT3 ?_ | refine g_notT4 ?_ | refine g_notTb ?_ | refine g_notTi ?_ | refine g_eqI ?_ | refine g_neI ?_ | refine g_neSs ?_ | refine g_neS ?_ | refine g_eqS ?_
    | refine g_iteT ?_ | refine g_iteF ?_ | refine g_iteNT ?_ | refine g_iteNF ?_ | refine g_lst ?_ | refine g_tup ?_ | refine g_seqP ?_ | refine g_sl ?_ | refine g_noPart ?_ | refine g_part ?_ | refine g_yes ?_ | refine g_thenT ?_ | refine g_consG ?_ | refine g_nilG ?_ | refine g_ii ?_ | refine g_par ?_ | refine g_par3 ?_ | refine g_vv ?_ | refine g_vvv ?_ | refine g_reprB ?_ | refine g_lcL ?_ | refine g_lcR ?_
  | ((with_reducible refine g_mod ?_ ?_); (first | omega | decide))
  | ((with_reducible refine g_div ?_ ?_ ?_); (first | omega | decide); (first | assumption | decide))
  | ((with_reducible refine g_mulL ?_ ?_ ?_); (first | omega | decide); (first | omega | decide))
  | ((with_reducible refine g_mulR ?_ ?_ ?_); (first | omega | decide); (first | omega | decide))
  | ((with_reducible refine g_pow ?_ ?_ ?_ ?_); decide; decide; (first | omega | decide))
  | dsimp only)
local macro_rules | `(tactic| walk_at "mf1s") => `(tactic| first
  | ((with_reducible apply g_var); exact rfl)
  | with_reducible first
    | refine g_c ?_ | refine g_op ?_ | refine g_un ?_ | refine g_cb ?_ | refine g_cl ?_ | refine g_clk ?_ | refine g_nil ?_ | refine g_cons ?_
    | refine g_tB ?_ | refine g_test ?_ | refine g_bl ?_ | refine g_and ?_ | refine g_or ?_ | refine g_not ?_ | refine g_andV ?_ | refine g_orV ?_ | refine g_notV ?_
    | refine g_if ?_ | refine g_ifS ?_ | refine g_next ?_ | refine g_ret ?_ | refine g_drop ?_ | refine g_asg ?_ | refine g_name ?_ | refine g_sub ?_
    | refine g_int ?_ | refine g_intB ?_ | refine g_abs ?_ | refine g_I0 ?_ | refine g_addI ?_ | refine g_U ?_ | refine g_isNn ?_ | refine g_isNi ?_ | refine g_notN ?_ | refine g_notT1 ?_ | refine g_notT2 ?_ | refine g_notT3 ?_ | refine g_notT4 ?_ | refine g_notTb ?_ | refine g_notTi ?_ | refine g_eqI ?_ | refine g_neI ?_ | refine g_neSs ?_ | refine g_neS ?_ | refine g_eqS ?_
    | refine g_iteT ?_ | refine g_iteF ?_ | refine g_iteNT ?_ | refine g_iteNF ?_ | refine g_lst ?_ | refine g_tup ?_ | refine g_seqP ?_ | refine g_sl ?_ | refine g_noPart ?_ | refine g_part ?_ | refine g_yes ?_ | refine g_thenT ?_ | refine g_consG ?_ | refine g_nilG ?_ | refine g_ii ?_ | refine g_par ?_ | refine g_par3 ?_ | refine g_vv ?_ | refine g_vvv ?_ | refine g_reprB ?_ | refine g_lcL ?_ | refine g_lcR ?_
  | ((with_reducible refine g_mod ?_ ?_); (first | omega | decide))
  | ((with_reducible refine g_div ?_ ?_ ?_); (first | omega | decide); (first | assumption | decide))
  | ((with_reducible refine g_mulL ?_ ?_ ?_); (first | omega | decide); (first | omega | decide))
  | ((with_reducible refine g_mulR ?_ ?_ ?_); (first | omega | decide); (first | omega | decide))
  | ((with_reducible refine g_pow ?_ ?_ ?_ ?_); decide; decide; (first | omega | decide))
  | dsimp only)
local macro_rules | `(tactic| walk_at "mfs") => `(tactic| repeat walk_at "mf1s")
local macro_rules | `(tactic| walk_at "mf") => `(tactic| repeat walk_at "mf1")
local macro_rules | `(tactic| walk_at "ed") => `(tactic| repeat (first
  | with_reducible first
    | exact eds_nil | apply eds_cons | exact ed_int | exact ed_bl | exact ed_non | apply ed_neg
  | ((with_reducible apply ed_str); decide)
  | ((with_reducible apply ed_var); (exact rfl); (first | assumption | exact Dq.int _))
  | ((with_reducible apply ed_dict0); assumption)
  | ((with_reducible apply ed_dict2); assumption)
  | ((with_reducible apply ed_tup); assumption)
  | ((with_reducible apply ed_lst); assumption)
  | (with_reducible apply ed_pow)
  | (with_reducible apply ed_mul)
  | assumption
  | (exact Dq.int _)
  | (exact ⟨by decide, by decide, by decide⟩)
  | (show List.length _ ≤ 1000; simp only [List.length_cons, List.length_nil]; decide)))
theorem ok__law_fraction (c : Cn) (T : Tx c) : Cl c 3 "_law_fraction" s__law_fraction ["cellar"] (sp_lrat c.K) := by
  obtain ⟨P, w, K, mg, base⟩ := c
  have C__law_barrel := ok__law_barrel _ T
  have C__law_low := ok__law_low _ T
  have C__law_pick := ok__law_pick _ T
  refine De.cl (N := ["cellar", "up", "down"]) T.d__law_fraction sc__law_fraction (fun vs H Q E h => ?_) (fun f0 cdv A outer s H vs Q E hA hr h => ?_)
  · obtain ⟨q, t, rfl, _⟩ := h; rfl
  · have S := sc__law_fraction
    obtain ⟨q, t, rfl, hq, ht, k⟩ := h
    refine ⟨_, (pss_cons (ps_par (i := 1) (j := 2) (by rfl) S.nd rfl rfl (by decide) rfl rfl (pa_cons (pe_f C__law_pick hA hr (by decide) pl__law_pick (by rfl) (pa_cons (pv 0) (pa_cons (pe_lst (pa_cons pe_int (pa_cons pe_int (pa_cons (pe_un un_neg pe_int) (pa_cons pe_int (pa_cons (pe_un un_neg pe_int) (pa_cons (pe_op op_sub (pe_f C__law_barrel hA hr (by decide) pl__law_barrel (by rfl) (pa_cons (pv 0) (pa_cons pe_int pa_nil))) pe_int) (pa_cons (pe_op op_sub (pe_f C__law_barrel hA hr (by decide) pl__law_barrel (by rfl) (pa_cons (pv 0) (pa_cons pe_int pa_nil))) pe_int) pa_nil)))))))) pa_nil))) (pa_cons (pe_f C__law_pick hA hr (by decide) pl__law_pick (by rfl) (pa_cons (pv 0) (pa_cons (pe_lst (pa_cons pe_int (pa_cons pe_int (pa_cons pe_int (pa_cons pe_int (pa_cons (pe_op op_addU pe_int (pe_f C__law_barrel hA hr (by decide) pl__law_barrel (by rfl) (pa_cons (pv 0) (pa_cons pe_int pa_nil)))) (pa_cons pe_int pa_nil))))))) pa_nil))) pa_nil)) (by rfl))
      (pss_one (ps_ret (pe_f C__law_low hA hr (by decide) pl__law_low (by rfl) (pa_cons (pv 1) (pa_cons (pv 2) pa_nil)))))), ?_⟩
    walk_at "mf"
    refine ⟨q, t, _, rfl, hq, by omega, by decide, by decide, fun t1 H1 i sx1 hq1 l1 u1 i0 i1 => ?_⟩
    walk_at "mf"
    refine ⟨q, t1, _, rfl, hq1, by omega, by decide, by decide, fun t2 H2 j sx2 hq2 l2 u2 j0 j1 => ?_⟩
    walk_at "mf"
    refine g_newL (by show 7 ≤ sizeLine; decide) fun p3 H3 hp3 s3 e3 => ?_
    walk_at "mf"
    refine ⟨q, p3, t2, _, rfl, hq2.same s3, by omega, hq2.ne hp3, .inl (seqU e3), by simp, by simp only [List.length_cons, List.length_nil]; decide, fun t4 H4 z sx4 hq4 l4 u4 m4 => ?_⟩
    obtain ⟨U, rfl, hU⟩ : ∃ y : Int, z = .int y ∧ Bt 11 y := by
      simp only [List.mem_cons, List.not_mem_nil, or_false] at m4
      rcases m4 with rfl | rfl | rfl | rfl | rfl | rfl | rfl <;> refine ⟨_, rfl, ?_⟩
      · show (0 : Int).natAbs < 2 ^ 11; decide
      · show (1 : Int).natAbs < 2 ^ 11; decide
      · show (-1 : Int).natAbs < 2 ^ 11; decide
      · show (2 : Int).natAbs < 2 ^ 11; decide
      · show (-3 : Int).natAbs < 2 ^ 11; decide
      · show (i - 20).natAbs < 2 ^ 11; omega
      · show (j - 2000).natAbs < 2 ^ 11; omega
    walk_at "mf"
    refine ⟨q, t4, _, rfl, hq4, by omega, by decide, by decide, fun t5 H5 l sx5 hq5 l5 u5 k0 k1 => ?_⟩
    walk_at "mf"
    refine g_newL (by show 6 ≤ sizeLine; decide) fun p6 H6 hp6 s6 e6 => ?_
    walk_at "mf"
    refine ⟨q, p6, t5, _, rfl, hq5.same s6, by omega, hq5.ne hp6, .inl (seqU e6), by simp, by simp only [List.length_cons, List.length_nil]; decide, fun t7 H7 z sx7 hq7 l7 u7 m7 => ?_⟩
    obtain ⟨D, rfl, hD, hD1⟩ : ∃ y : Int, z = .int y ∧ Bt 11 y ∧ 1 ≤ y := by
      simp only [List.mem_cons, List.not_mem_nil, or_false] at m7
      rcases m7 with rfl | rfl | rfl | rfl | rfl | rfl <;> refine ⟨_, rfl, ?_, ?_⟩
      · show (1 : Int).natAbs < 2 ^ 11; decide
      · decide
      · show (1 : Int).natAbs < 2 ^ 11; decide
      · decide
      · show (2 : Int).natAbs < 2 ^ 11; decide
      · decide
      · show (3 : Int).natAbs < 2 ^ 11; decide
      · decide
      · show (1 + l).natAbs < 2 ^ 11; omega
      · omega
      · show (720 : Int).natAbs < 2 ^ 11; decide
      · decide
    have sx : SameX q H H7 := ((((sx1.trans sx2).trans (Same.x s3)).trans sx4).trans (sx5.trans (Same.x s6))).trans sx7
    walk_at "mf"
    refine ⟨U, D, rfl, hD1, hD.mono (by decide), fun p H' s n e => ?_⟩
    have np : H p = none := by
      cases z : H p with
      | none => rfl
      | some o => exact absurd (show H p ≠ none by rw [z]; exact Option.some_ne_none _) (fresh_x sx hq7.at n)
    exact k t7 H' p _ (sx.trans (Same.x s)) (hq7.same s) (by omega) (by omega) np e ((Rb.of hD1 hU hD).mono (by decide))
theorem ok__law_as (c : Cn) (T : Tx c) : Cl c 3 "_law_as" s__law_as ["cellar", "number"] (sp_las c.K) := by
  obtain ⟨P, w, K, mg, base⟩ := c
  have C__law_barrel := ok__law_barrel _ T
  have C__law_pick := ok__law_pick _ T
  refine De.cl (N := ["cellar", "number", "by"]) T.d__law_as sc__law_as (fun vs H Q E h => ?_) (fun f0 cdv A outer s H vs Q E hA hr h => ?_)
  · obtain ⟨q, p, t, r, rfl, _⟩ := h; rfl
  · have S := sc__law_as
    obtain ⟨q, p, t, r, rfl, hq, ht, ep, br, k⟩ := h
    refine ⟨_, (pss_cons (ps_set (i := 2) S.nd rfl (by first | exact .inl rfl | exact .inr rfl) (pe_op op_addU pe_int (pe_f C__law_barrel hA hr (by decide) pl__law_barrel (by rfl) (pa_cons (pv 0) (pa_cons pe_int pa_nil)))))
      (pss_one (ps_ret (pe_f C__law_pick hA hr (by decide) pl__law_pick (by rfl) (pa_cons (pv 0) (pa_cons (pe_op op_addU (pe_lst (pa_cons (pv 1) (pa_cons (pe_lst (pa_cons (pe_op op_mulU (pe_ix ix_seq (pv 1) pe_int (fun _ _ => rfl)) (pv 2)) (pa_cons (pe_op op_mulU (pe_ix ix_seq (pv 1) pe_int (fun _ _ => rfl)) (pv 2)) pa_nil))) (pa_cons (pe_tup (pa_cons (pe_op op_mulU (pe_ix ix_seq (pv 1) pe_int (fun _ _ => rfl)) (pv 2)) (pa_cons (pe_op op_mulU (pe_ix ix_seq (pv 1) pe_int (fun _ _ => rfl)) (pv 2)) pa_nil))) pa_nil)))) (pe_op op_mulU (pe_lst (pa_cons (pe_ix ix_seq (pv 1) pe_int (fun _ _ => rfl)) pa_nil)) (pe_callTy call_intU (by rfl) T.n_int PyProof.Rows.boot_int (pa_cons (pe_cmpR (op_eqU hr.units) (pe_ix ix_seq (pv 1) pe_int (fun _ _ => rfl)) pe_int (nomark _)) pa_nil)))) pa_nil)))))), ?_⟩
    have npq : p ≠ q := fun z => by
      obtain ⟨c, ns, w, h1, _⟩ := hq
      rw [z, h1] at ep
      cases ep
    walk_at "mf"
    refine ⟨q, t, _, rfl, hq, by omega, by decide, by decide, fun t1 H1 i sx1 hq1 l1 u1 i0 i1 => ?_⟩
    have ep1 := sx1 _ _ npq ep
    have bb : Bt 3 (1 + i) := by show (1 + i).natAbs < 2 ^ 3; omega
    have b1 : Bt 103 (r.num * (1 + i)) := br.1.mul bb
    have b2 : Bt 103 ((r.den : Int) * (1 + i)) := br.2.mul bb
    have d2 : 1 ≤ (r.den : Int) * (1 + i) := mul_ge1 (den1 r) (by omega)
    have c1 := br.1.cm bb (by decide)
    have c2 := br.2.cm bb (by decide)
    walk_at "mf"
    refine g_ix (.inr (tupU ep1)) (v := .int r.num) rfl ?_
    walk_at "mf"
    refine g_ix (.inr (tupU ep1)) (v := .int r.den) rfl ?_
    walk_at "mf"
    refine g_newL (by show 2 ≤ sizeLine; decide) fun pa Ha na sa ea => ?_
    have epa := sa _ _ ep1
    walk_at "mf"
    refine g_ix (.inr (tupU epa)) (v := .int r.num) rfl ?_
    walk_at "mf"
    refine g_ix (.inr (tupU epa)) (v := .int r.den) rfl ?_
    walk_at "mf"
    refine g_newT (by show 2 ≤ sizeLine; decide) fun pb Hb nb sb eb => ?_
    walk_at "mf"
    refine g_newL (by show 3 ≤ sizeLine; decide) fun pc Hc nc sc ec => ?_
    have epc := sc _ _ (sb _ _ epa)
    walk_at "mf"
    refine g_ix (.inr (tupU epc)) (v := .int r.num) rfl ?_
    walk_at "mf"
    refine g_newL (by show 1 ≤ sizeLine; decide) fun pd Hd nd sd ed => ?_
    walk_at "mf"
    refine g_ix (.inr (tupU (sd _ _ epc))) (v := .int r.den) rfl ?_
    walk_at "mf"
    refine g_rep ed (by split <;> decide) (by split <;> decide) (by show 1 * _ ≤ sizeLine; split <;> decide) fun pe He ne se ee => ?_
    walk_at "mf"
    refine g_cat (se _ _ (sd _ _ ec)) ee ?_ fun pf Hf nf sf ef => ?_
    · show 3 + _ ≤ sizeLine
      by_cases z : (r.den : Int) = 1
      · rw [decide_eq_true z]
        show 4 ≤ sizeLine
        decide
      · rw [decide_eq_false z]
        show 3 ≤ sizeLine
        decide
    walk_at "mf"
    have sA : Same H1 Hf := ((((sa.trans sb).trans sc).trans sd).trans se).trans sf
    have hqf := hq1.same sA
    have nq : pf ≠ q := (hq1.same ((((sa.trans sb).trans sc).trans sd).trans se)).ne nf
    refine ⟨q, pf, t1, _, rfl, hqf, by omega, nq, .inl (seqU ef), by simp, ?_, fun t7 H7 x sx7 hq7 l7 u7 mx => ?_⟩
    · by_cases z : (r.den : Int) = 1
      · rw [decide_eq_true z]
        show 4 ≤ 1000
        decide
      · rw [decide_eq_false z]
        show 3 ≤ 1000
        decide
    have fin : SameX q H H7 := (sx1.trans (Same.x sA)).trans sx7
    have kk : ∀ x' y', Fz (isL H) H7 x x' y' → 1 ≤ y' → Rat.divInt x' y' = r → Bt 140 x' → Bt 140 y' → Q x H7 := fun x' y' => k t7 H7 x x' y' fin hq7 (by omega) (by omega)
    have nlf : ∀ {a : Addr}, H a = none → ¬ isL H a := fun h z => by
      obtain ⟨acc, z⟩ := z
      rw [h] at z
      cases z
    have n0 : ∀ {a : Addr} {Hz : Hp}, SameX q H Hz → (∃ o, Hz q = some o) → Hz a = none → H a = none := fun {a Hz} s hz n => by
      cases z : H a with
      | none => rfl
      | some o => exact absurd (show H a ≠ none by rw [z]; exact Option.some_ne_none _) (fresh_x s hz n)
    have er : Rat.divInt (r.num * (1 + i)) ((r.den : Int) * (1 + i)) = r := by
      rw [Rat.divInt_mul_right (by omega), Rat.num_divInt_den]
    have mx' : (x = .ref p ∨ x = .ref pa ∨ x = .ref pb) ∨ (x = .int r.num ∧ (r.den : Int) = 1) := by
      rcases List.mem_append.mp mx with mx | mx
      · simp only [List.mem_cons, List.not_mem_nil, or_false] at mx
        exact .inl mx
      · by_cases z : (r.den : Int) = 1
        · rw [decide_eq_true z] at mx
          have mx : x ∈ [V.int r.num] := mx
          exact .inr ⟨List.mem_singleton.mp mx, z⟩
        · rw [decide_eq_false z] at mx
          have mx : x ∈ ([] : List V) := mx
          exact absurd mx List.not_mem_nil
    rcases mx' with (rfl | rfl | rfl) | ⟨rfl, z⟩
    · refine kk r.num r.den (.inr ⟨p, rfl, fun z => ?_, .inl (fin _ _ npq ep)⟩) (den1 r) (Rat.num_divInt_den r) (br.1.mono (by decide)) (br.2.mono (by decide))
      obtain ⟨acc, z⟩ := z
      rw [ep] at z
      cases z
    · have n1 := n0 sx1 hq1.at na
      exact kk _ _ (.inr ⟨pa, rfl, nlf n1, .inr (sx7 _ _ (hq1.ne na) (sf _ _ (se _ _ (sd _ _ (sc _ _ (sb _ _ ea))))))⟩) d2 er (b1.mono (by decide)) (b2.mono (by decide))
    · have n1 := n0 (sx1.trans (Same.x sa)) (hq1.same sa).at nb
      exact kk _ _ (.inr ⟨pb, rfl, nlf n1, .inl (sx7 _ _ ((hq1.same sa).ne nb) (sf _ _ (se _ _ (sd _ _ (sc _ _ eb)))))⟩) d2 er (b1.mono (by decide)) (b2.mono (by decide))
    · refine kk r.num 1 (.inl ⟨rfl, rfl⟩) (by decide) ?_ (br.1.mono (by decide)) (by show (1 : Int).natAbs < 2 ^ 140; decide)
      have := Rat.num_divInt_den r
      rw [z] at this
      exact this
end Mf
namespace Mf
open PySem PySem.Spec PyProof.Rows L2
local macro_rules | `(tactic| walk_at "mf1") => `(tactic| first
  | ((with_reducible apply g_var); exact rfl)
  | with_reducible first
    | refine g_c ?_ | refine g_op ?_ | refine g_un ?_ | refine g_cb ?_ | refine g_cl ?_ | refine g_clk ?_ | refine g_nil ?_ | refine g_cons ?_
    | refine g_tB ?_ | refine g_test ?_ | refine g_bl ?_ | refine g_and ?_ | refine g_or ?_ | refine g_not ?_ | refine g_andV ?_ | refine g_orV ?_ | refine g_notV ?_
    | refine g_if ?_ | refine g_ifS ?_ | refine g_seq ?_ | refine g_next ?_ | refine g_ret ?_ | refine g_drop ?_ | refine g_asg ?_ | refine g_name ?_ | refine g_sub ?_
    | refine g_int ?_ | refine g_intB ?_ | refine g_abs ?_ | refine g_I0 ?_ | refine g_addI ?_ | refine g_U ?_ | refine g_isNn ?_ | refine g_isNi ?_ | refine g_notN ?_ | refine g_notT1 ?_ | refine g_notT2 ?_ | refine g_notT3 ?_ | refine g_notT4 ?_ | refine g_notTb ?_ | refine g_notTi ?_ | refine g_eqI ?_ | refine g_neI ?_ | refine g_neSs ?_ | refine g_neS ?_ | refine g_eqS ?_
    | refine g_iteT ?_ | refine g_iteF ?_ | refine g_iteNT ?_ | refine g_iteNF ?_ | refine g_lst ?_ | refine g_tup ?_ | refine g_seqP ?_ | refine g_sl ?_ | refine g_noPart ?_ | refine g_part ?_ | refine g_yes ?_ | refine g_thenT ?_ | refine g_consG ?_ | refine g_nilG ?_ | refine g_ii ?_ | refine g_par ?_ | refine g_par3 ?_ | refine g_vv ?_ | refine g_vvv ?_ | refine g_reprB ?_ | refine g_lcL ?_ | refine g_lcR ?_
  | ((with_reducible refine g_mod ?_ ?_); (first | omega | decide))
  | ((with_reducible refine g_div ?_ ?_ ?_); (first | omega | decide); (first | assumption | decide))
  | ((with_reducible refine g_mulL ?_ ?_ ?_); (first | omega | decide); (first | omega | decide))
  | ((with_reducible refine g_mulR ?_ ?_ ?_); (first | omega | decide); (first | omega | decide))
  | ((with_reducible refine g_pow ?_ ?_ ?_ ?_); decide; decide; (first | omega | decide))
  | dsimp only)
local macro_rules | `(tactic| walk_at "mf1s") => `(tactic| first
  | ((with_reducible apply g_var); exact rfl)
  | with_reducible first
    | refine g_c ?_ | refine g_op ?_ | refine g_un ?_ | refine g_cb ?_ | refine g_cl ?_ | refine g_clk ?_ | refine g_nil ?_ | refine g_cons ?_
    | refine g_tB ?_ | refine g_test ?_ | refine g_bl ?_ | refine g_and ?_ | refine g_or ?_ | refine g_not ?_ | refine g_andV ?_ | refine g_orV ?_ | refine g_notV ?_
    | refine g_if ?_ | refine g_ifS ?_ | refine g_next ?_ | refine g_ret ?_ | refine g_drop ?_ | refine g_asg ?_ | refine g_name ?_ | refine g_sub ?_
    | refine g_int ?_ | refine g_intB ?_ | refine g_abs ?_ | refine g_I0 ?_ | refine g_addI ?_ | refine g_U ?_ | refine g_isNn ?_ | refine g_isNi ?_ | refine g_notN ?_ | refine g_notT1 ?_ | refine g_notT2 ?_ | refine g_notT3 ?_ | refine g_notT4 ?_ | refine g_notTb ?_ | refine g_notTi ?_ | refine g_eqI ?_ | refine g_neI ?_ | refine g_neSs ?_ | refine g_neS ?_ | refine g_eqS ?_
    | refine g_iteT ?_ | refine g_iteF ?_ | refine g_iteNT ?_ | refine g_iteNF ?_ | refine g_lst ?_ | refine g_tup ?_ | refine g_seqP ?_ | refine g_sl ?_ | refine g_noPart ?_ | refine g_part ?_ | refine g_yes ?_ | refine g_thenT ?_ | refine g_consG ?_ | refine g_nilG ?_ | refine g_ii ?_ | refine g_par ?_ | refine g_par3 ?_ | refine g_vv ?_ | refine g_vvv ?_ | refine g_reprB ?_ | refine g_lcL ?_ | refine g_lcR ?_
  | ((with_reducible refine g_mod ?_ ?_); (first | omega | decide))
  | ((with_reducible refine g_div ?_ ?_ ?_); (first | omega | decide); (first | assumption | decide))
  | ((with_reducible refine g_mulL ?_ ?_ ?_); (first | omega | decide); (first | omega | decide))
  | ((with_reducible refine g_mulR ?_ ?_ ?_); (first | omega | decide); (first | omega | decide))
  | ((with_reducible refine g_pow ?_ ?_ ?_ ?_); decide; decide; (first | omega | decide))
  | dsimp only)
local macro_rules | `(tactic| walk_at "mfs") => `(tactic| repeat walk_at "mf1s")
local macro_rules | `(tactic| walk_at "mf") => `(tactic| repeat walk_at "mf1")
local macro_rules | `(tactic| walk_at "ed") => `(tactic| repeat (first
  | with_reducible first
    | exact eds_nil | apply eds_cons | exact ed_int | exact ed_bl | exact ed_non | apply ed_neg
  | ((with_reducible apply ed_str); decide)
  | ((with_reducible apply ed_var); (exact rfl); (first | assumption | exact Dq.int _))
  | ((with_reducible apply ed_dict0); assumption)
  | ((with_reducible apply ed_dict2); assumption)
  | ((with_reducible apply ed_tup); assumption)
  | ((with_reducible apply ed_lst); assumption)
  | (with_reducible apply ed_pow)
  | (with_reducible apply ed_mul)
  | assumption
  | (exact Dq.int _)
  | (exact ⟨by decide, by decide, by decide⟩)
  | (show List.length _ ≤ 1000; simp only [List.length_cons, List.length_nil]; decide)))
theorem ok_trimmed (c : Cn) (T : Tx c) : Cl c 1 "trimmed" s_trimmed ["numbers"] (sp_trim c.K) := by
  obtain ⟨P, w, K, mg, base⟩ := c
  refine De.cl (N := ["numbers", "length"]) T.d_trimmed sc_trimmed (fun vs H Q E h => ?_) (fun f0 cdv A outer s H vs Q E hA hr h => ?_)
  · obtain ⟨a, xs, rs, rfl, _⟩ := h; rfl
  · have S := sc_trimmed
    obtain ⟨a, xs, rs, rfl, hS, hT, hl, k⟩ := h
    refine ⟨_, (pss_cons (ps_set (i := 1) S.nd rfl (by first | exact .inl rfl | exact .inr rfl) (pe_callB call_lenU (by rfl) T.n_len PySem.boot_len (pa_cons (pv 0) pa_nil)))
      (pss_cons (ps_while PassesOwn.never (PW.pt (pw_and (pt_cmpR op_gt (pv 1) pe_int (nomark _)) (pw_and1 (pt_cmpR (op_eqU hr.units) (pe_ix ix_seq (pv 0) (pe_op op_sub (pv 1) pe_int) (fun _ _ => rfl)) (pe_tup (pa_cons pe_int (pa_cons pe_int pa_nil))) (nomark _))))) (pss_one (ps_aug (i := 1) S.nd rfl (by first | exact .inl rfl | exact .inr rfl) pe_int ip_sub)))
      (pss_one (ps_ret (pe_tupleOf (by rfl) T.n_tuple (pe_slice sl_list (pv 0) po_none (po_some (pv 1)))))))), ?_⟩
    have hlen := hT.len
    walk_at "mf"
    refine g_len (.inl hS) ?_
    walk_at "mf"
    refine ⟨fun m σ' H' => ∃ n : Nat, σ' = [some (.ref a), some (.int (n : Nat))] ∧ n ≤ rs.length ∧ tlen rs n = tlen rs rs.length ∧ m = n ∧ Same H H', ⟨xs.length, xs.length, rfl, by omega, by rw [hlen], rfl, Same.refl _⟩, ?_⟩
    intro m σ' H' hW
    obtain ⟨n, rfl, hn, htl, rfl, sW⟩ := hW
    have last : ∀ H2, Same H H2 → tlen rs m = m → ∀ p H3, H2 p = none → Same H2 H3 → H3 p = some (.tup (xs.take m)) → Q (.ref p) H3 := fun H2 s2 e p H3 np s3 e3 => by
      refine k p H3 _ (s2.trans s3) (s2.free np) e3 ?_
      unfold trimR
      rw [← htl, e]
      exact (hT.go (Same.kt (s2.trans s3))).take m
    walk_at "mf"
    refine g_ite (fun h => ?_) (fun h => ?_)
    · have h := of_decide_eq_true h
      obtain ⟨n, rfl⟩ : ∃ n, m = n + 1 := ⟨m - 1, by omega⟩
      obtain ⟨pa, hx, ea⟩ := hT.at (i := n) (by omega)
      walk_at "mf"
      refine g_ix (.inl (sW.seq hS)) (at_of (j := n) (by omega) hx) ?_
      walk_at "mf"
      refine g_newT (by show 2 ≤ sizeLine; decide) fun pz Hz nz sz ez => ?_
      walk_at "mf"
      refine g_eqZ (tupU (sz _ _ (sW _ _ ea))) (tupU ez) ?_
      walk_at "mf"
      refine g_ite (fun hz => ?_) (fun hz => ?_)
      · have hz := of_decide_eq_true hz
        refine ⟨fun σ2 H2 => σ2 = [some (.ref a), some (.int (n : Nat))] ∧ Same H H2, ?_, ?_⟩
        · intro σ2 H2 hN
          obtain ⟨rfl, s2⟩ := hN
          refine ⟨n, by omega, n, rfl, by omega, ?_, rfl, s2⟩
          rw [← htl]
          show _ = (if co rs n = 0 then tlen rs n else n + 1)
          rw [if_pos hz]
        · walk_at "mf"
          refine ⟨_, rfl, ?_⟩
          walk_at "mf"
          refine ⟨_, _, rfl, rfl, ?_⟩
          exact ⟨by show [some (V.ref a), some (V.int (((n + 1 : Nat) : Int) - 1))] = _; rw [show ((n + 1 : Nat) : Int) - 1 = (n : Int) by omega], sW.trans sz⟩
      · have hz := of_decide_eq_false hz
        walk_at "mf"
        refine g_slL (((sW.trans sz) : Same H _).seq hS) fun p2 H2 n2 s2 e2 => ?_
        rw [cut_hi (by omega)] at e2
        walk_at "mf"
        refine g_tupOf (seqU e2) fun p3 H3 n3 s3 e3 => ?_
        exact last _ (((sW.trans sz) : Same H _).trans s2) (by show (if co rs n = 0 then tlen rs n else n + 1) = _; rw [if_neg hz]) p3 H3 n3 s3 e3
    · have h := of_decide_eq_false h
      obtain rfl : m = 0 := by omega
      walk_at "mf"
      refine g_slL (sW.seq hS) fun p2 H2 n2 s2 e2 => ?_
      rw [cut_hi (by omega)] at e2
      walk_at "mf"
      refine g_tupOf (seqU e2) fun p3 H3 n3 s3 e3 => ?_
      exact last _ (sW.trans s2) rfl p3 H3 n3 s3 e3
theorem ok__law_trimmed (c : Cn) (T : Tx c) : Cl c 1 "_law_trimmed" s__law_trimmed ["row"] (sp_trim c.K) := by
  obtain ⟨P, w, K, mg, base⟩ := c
  refine De.cl (N := ["row", "many"]) T.d__law_trimmed sc__law_trimmed (fun vs H Q E h => ?_) (fun f0 cdv A outer s H vs Q E hA hr h => ?_)
  · obtain ⟨a, xs, rs, rfl, _⟩ := h; rfl
  · have S := sc__law_trimmed
    obtain ⟨a, xs, rs, rfl, hS, hT, hl, k⟩ := h
    refine ⟨_, (pss_cons (ps_set (i := 1) S.nd rfl (by first | exact .inl rfl | exact .inr rfl) (pe_callB call_lenU (by rfl) T.n_len PySem.boot_len (pa_cons (pv 0) pa_nil)))
      (pss_cons (ps_while PassesOwn.never (PW.pt (pw_and (pt_cmpR op_gt (pv 1) pe_int (nomark _)) (pw_and1 (pt_cmpR (op_eqU hr.units) (pe_ix ix_seq (pe_ix ix_seq (pv 0) (pe_op op_sub (pv 1) pe_int) (fun _ _ => rfl)) pe_int (fun _ _ => rfl)) pe_int (nomark _))))) (pss_one (ps_set (i := 1) S.nd rfl (by first | exact .inl rfl | exact .inr rfl) (pe_op op_sub (pv 1) pe_int))))
      (pss_one (ps_ret (pe_tupleOf (by rfl) T.n_tuple (pe_slice sl_list (pv 0) po_none (po_some (pv 1)))))))), ?_⟩
    have hlen := hT.len
    walk_at "mf"
    refine g_len (.inl hS) ?_
    walk_at "mf"
    refine ⟨fun m σ' H' => ∃ n : Nat, σ' = [some (.ref a), some (.int (n : Nat))] ∧ n ≤ rs.length ∧ tlen rs n = tlen rs rs.length ∧ m = n ∧ Same H H', ⟨xs.length, xs.length, rfl, by omega, by rw [hlen], rfl, Same.refl _⟩, ?_⟩
    intro m σ' H' hW
    obtain ⟨n, rfl, hn, htl, rfl, sW⟩ := hW
    have last : ∀ H2, Same H H2 → tlen rs m = m → ∀ p H3, H2 p = none → Same H2 H3 → H3 p = some (.tup (xs.take m)) → Q (.ref p) H3 := fun H2 s2 e p H3 np s3 e3 => by
      refine k p H3 _ (s2.trans s3) (s2.free np) e3 ?_
      unfold trimR
      rw [← htl, e]
      exact (hT.go (Same.kt (s2.trans s3))).take m
    walk_at "mf"
    refine g_ite (fun h => ?_) (fun h => ?_)
    · have h := of_decide_eq_true h
      obtain ⟨n, rfl⟩ : ∃ n, m = n + 1 := ⟨m - 1, by omega⟩
      obtain ⟨pa, hx, ea⟩ := hT.at (i := n) (by omega)
      walk_at "mf"
      refine g_ix (.inl (sW.seq hS)) (at_of (j := n) (by omega) hx) ?_
      walk_at "mf"
      refine g_ix (.inr (tupU (sW _ _ ea))) (v := .int (co rs n).num) rfl ?_
      walk_at "mf"
      rw [show decide ((co rs n).num = 0) = decide (co rs n = 0) from decide_eq_decide.mpr Rat.num_eq_zero]
      refine g_ite (fun hz => ?_) (fun hz => ?_)
      · have hz := of_decide_eq_true hz
        refine ⟨fun σ2 H2 => σ2 = [some (.ref a), some (.int (n : Nat))] ∧ Same H H2, ?_, ?_⟩
        · intro σ2 H2 hN
          obtain ⟨rfl, s2⟩ := hN
          refine ⟨n, by omega, n, rfl, by omega, ?_, rfl, s2⟩
          rw [← htl]
          show _ = (if co rs n = 0 then tlen rs n else n + 1)
          rw [if_pos hz]
        · walk_at "mf"
          skip
          exact ⟨by show [some (V.ref a), some (V.int (((n + 1 : Nat) : Int) - 1))] = _; rw [show ((n + 1 : Nat) : Int) - 1 = (n : Int) by omega], sW⟩
      · have hz := of_decide_eq_false hz
        walk_at "mf"
        refine g_slL (((sW) : Same H _).seq hS) fun p2 H2 n2 s2 e2 => ?_
        rw [cut_hi (by omega)] at e2
        walk_at "mf"
        refine g_tupOf (seqU e2) fun p3 H3 n3 s3 e3 => ?_
        exact last _ (((sW) : Same H _).trans s2) (by show (if co rs n = 0 then tlen rs n else n + 1) = _; rw [if_neg hz]) p3 H3 n3 s3 e3
    · have h := of_decide_eq_false h
      obtain rfl : m = 0 := by omega
      walk_at "mf"
      refine g_slL (sW.seq hS) fun p2 H2 n2 s2 e2 => ?_
      rw [cut_hi (by omega)] at e2
      walk_at "mf"
      refine g_tupOf (seqU e2) fun p3 H3 n3 s3 e3 => ?_
      exact last _ (sW.trans s2) rfl p3 H3 n3 s3 e3
end Mf
namespace Mf
open PySem PySem.Spec PyProof.Rows L2
local macro_rules | `(tactic| walk_at "mf1") => `(tactic| first
  | ((with_reducible apply g_var); exact rfl)
  | with_reducible first
    | refine g_c ?_ | refine g_op ?_ | refine g_un ?_ | refine g_cb ?_ | refine g_cl ?_ | refine g_clk ?_ | refine g_nil ?_ | refine g_cons ?_
    | refine g_tB ?_ | refine g_test ?_ | refine g_bl ?_ | refine g_and ?_ | refine g_or ?_ | refine g_not ?_ | refine g_andV ?_ | refine g_orV ?_ | refine g_notV ?_
    | refine g_if ?_ | refine g_ifS ?_ | refine g_seq ?_ | refine g_next ?_ | refine g_ret ?_ | refine g_drop ?_ | refine g_asg ?_ | refine g_name ?_ | refine g_sub ?_
    | refine g_int ?_ | refine g_intB ?_ | refine g_abs ?_ | refine g_I0 ?_ | refine g_addI ?_ | refine g_U ?_ | refine g_isNn ?_ | refine g_isNi ?_ | refine g_notN ?_ | refine g_notT1 ?_ | refine g_notT2 ?_ | refine g_notT3 ?_ | refine g_notT4 ?_ | refine g_notTb ?_ | refine g_notTi ?_ | refine g_eqI ?_ | refine g_neI ?_ | refine g_neSs ?_ | refine g_neS ?_ | refine g_eqS ?_
    | refine g_iteT ?_ | refine g_iteF ?_ | refine g_iteNT ?_ | refine g_iteNF ?_ | refine g_lst ?_ | refine g_tup ?_ | refine g_seqP ?_ | refine g_sl ?_ | refine g_noPart ?_ | refine g_part ?_ | refine g_yes ?_ | refine g_thenT ?_ | refine g_consG ?_ | refine g_nilG ?_ | refine g_ii ?_ | refine g_par ?_ | refine g_par3 ?_ | refine g_vv ?_ | refine g_vvv ?_ | refine g_reprB ?_ | refine g_lcL ?_ | refine g_lcR ?_
  | ((with_reducible refine g_mod ?_ ?_); (first | omega | decide))
  | ((with_reducible refine g_div ?_ ?_ ?_); (first | omega | decide); (first | assumption | decide))
  | ((with_reducible refine g_mulL ?_ ?_ ?_); (first | omega | decide); (first | omega | decide))
  | ((with_reducible refine g_mulR ?_ ?_ ?_); (first | omega | decide); (first | omega | decide))
  | ((with_reducible refine g_pow ?_ ?_ ?_ ?_); decide; decide; (first | omega | decide))
  | dsimp only)
local macro_rules | `(tactic| walk_at "mf1s") => `(tactic| first
  | ((with_reducible apply g_var); exact rfl)
  | with_reducible first
    | refine g_c ?_ | refine g_op ?_ | refine g_un ?_ | refine g_cb ?_ | refine g_cl ?_ | refine g_clk ?_ | refine g_nil ?_ | refine g_cons ?_
    | refine g_tB ?_ | refine g_test ?_ | refine g_bl ?_ | refine g_and ?_ | refine g_or ?_ | refine g_not ?_ | refine g_andV ?_ | refine g_orV ?_ | refine g_notV ?_
    | refine g_if ?_ | refine g_ifS ?_ | refine g_next ?_ | refine g_ret ?_ | refine g_drop ?_ | refine g_asg ?_ | refine g_name ?_ | refine g_sub ?_
    | refine g_int ?_ | refine g_intB ?_ | refine g_abs ?_ | refine g_I0 ?_ | refine g_addI ?_ | refine g_U ?_ | refine g_isNn ?_ | refine g_isNi ?_ | refine g_notN ?_ | refine g_notT1 ?_ | refine g_notT2 ?_ | refine g_notT3 ?_ | refine g_notT4 ?_ | refine g_notTb ?_ | refine g_notTi ?_ | refine g_eqI ?_ | refine g_neI ?_ | refine g_neSs ?_ | refine g_neS ?_ | refine g_eqS ?_
    | refine g_iteT ?_ | refine g_iteF ?_ | refine g_iteNT ?_ | refine g_iteNF ?_ | refine g_lst ?_ | refine g_tup ?_ | refine g_seqP ?_ | refine g_sl ?_ | refine g_noPart ?_ | refine g_part ?_ | refine g_yes ?_ | refine g_thenT ?_ | refine g_consG ?_ | refine g_nilG ?_ | refine g_ii ?_ | refine g_par ?_ | refine g_par3 ?_ | refine g_vv ?_ | refine g_vvv ?_ | refine g_reprB ?_ | refine g_lcL ?_ | refine g_lcR ?_
  | ((with_reducible refine g_mod ?_ ?_); (first | omega | decide))
  | ((with_reducible refine g_div ?_ ?_ ?_); (first | omega | decide); (first | assumption | decide))
  | ((with_reducible refine g_mulL ?_ ?_ ?_); (first | omega | decide); (first | omega | decide))
  | ((with_reducible refine g_mulR ?_ ?_ ?_); (first | omega | decide); (first | omega | decide))
  | ((with_reducible refine g_pow ?_ ?_ ?_ ?_); decide; decide; (first | omega | decide))
  | dsimp only)
local macro_rules | `(tactic| walk_at "mfs") => `(tactic| repeat walk_at "mf1s")
local macro_rules | `(tactic| walk_at "mf") => `(tactic| repeat walk_at "mf1")
local macro_rules | `(tactic| walk_at "ed") => `(tactic| repeat (first
  | with_reducible first
    | exact eds_nil | apply eds_cons | exact ed_int | exact ed_bl | exact ed_non | apply ed_neg
  | ((with_reducible apply ed_str); decide)
  | ((with_reducible apply ed_var); (exact rfl); (first | assumption | exact Dq.int _))
  | ((with_reducible apply ed_dict0); assumption)
  | ((with_reducible apply ed_dict2); assumption)
  | ((with_reducible apply ed_tup); assumption)
  | ((with_reducible apply ed_lst); assumption)
  | (with_reducible apply ed_pow)
  | (with_reducible apply ed_mul)
  | assumption
  | (exact Dq.int _)
  | (exact ⟨by decide, by decide, by decide⟩)
  | (show List.length _ ≤ 1000; simp only [List.length_cons, List.length_nil]; decide)))

def itD : PyData → List PyData
  | .list ds | .tuple ds => ds
  | _ => []
def isPyD (d : PyData) : Bool := isSeqD d && (decide ((itD d).length ≤ 80) && ((itD d).map isFrD).all id)
theorem isPyD_no {d : PyData} (e : isSeqD d = false) : isPyD d = false := by unfold isPyD; rw [e]; rfl
theorem isPyD_of {d : PyData} {ds : List PyData} (e : d = .list ds ∨ d = .tuple ds) : isPyD d = (decide (ds.length ≤ 80) && (ds.map isFrD).all id) := by rcases e with rfl | rfl <;> rfl
theorem all_isFr {ds : List PyData} (h : ∀ d ∈ ds, isFrD d = true) : (ds.map isFrD).all id = true := by
  rw [List.all_eq_true]
  intro b hb
  obtain ⟨d, hd, rfl⟩ := List.mem_map.mp hb
  exact h d hd
def sp_isply (K : PySem.W.Frag) : Sp := fun vs H Q _ => ∃ q v d, vs = [v] ∧ Dq q K H v d ∧ (itD d).length ≤ 900 ∧ ∀ H', Same H H' → Q (.bl (isPyD d)) H'
theorem ok_is_poly (c : Cn) (T : Tx c) : Cl c 4 "is_poly" s_is_poly ["value"] (sp_isply c.K) := by
  obtain ⟨P, w, K, mg, base⟩ := c
  have C_is_fraction := ok_is_fraction _ T
  have C_is_list := ok_is_list _ T
  refine De.cl (N := ["value", "number"]) T.d_is_poly sc_is_poly (fun vs H Q E h => ?_) (fun f0 cdv A outer s H vs Q E hA hr h => ?_)
  · obtain ⟨q, v, d, rfl, _⟩ := h; rfl
  · have S := sc_is_poly
    obtain ⟨q, v, d, rfl, hd, hsm, k⟩ := h
    refine ⟨_, (pss_one (ps_ret (pe_and (pe_f C_is_list hA hr (by decide) pl_is_list (by rfl) (pa_cons (pv 0) pa_nil)) (pe_and (pe_cmpR op_le (pe_callB call_lenU (by rfl) T.n_len PySem.boot_len (pa_cons (pv 0) pa_nil)) (pe_globI (i := 80) (by rfl) T.c_MOST_NUMBERS) (nomark _)) (pe_one (pe_callB (cr_all rfl) (by rfl) T.n_all (by decide +kernel) (pa_cons (pe_lc (own := [("number", 1)]) (g := gName 1) (tt := tYes) rfl S.nd (pi_or (pi_list (pv 0)) (pi_tup (pv 0))) (blkOk_by (N := ["value", "number"]) (sc := defScope s_is_poly) (by decide +kernel)) (fun _ _ _ _ _ => pg_name (i := 1) S.nd rfl (Or.inl rfl)) (fun _ _ _ _ _ => pts_nil) (fun _ _ _ _ _ => (pe_f C_is_fraction hA hr (by decide) pl_is_fraction (by rfl) (pa_cons (pv 1) pa_nil)))) pa_nil))))))), ?_⟩
    walk_at "mf"
    refine ⟨q, v, d, rfl, hd, ?_⟩
    walk_at "mf"
    refine g_ite (fun h2 => ?_) (fun h2 => ?_)
    · obtain ⟨a, xs, ds, rfl, na, hs, hall, ed⟩ := hd.seq h2
      have hit : itD d = ds := by rcases ed with rfl | rfl <;> rfl
      rw [hit] at hsm
      have hlen := hall.len
      rw [isPyD_of ed] at k
      walk_at "mf"
      refine g_len hs ?_
      walk_at "mf"
      refine g_ite (fun h3 => ?_) (fun h3 => ?_)
      · walk_at "mf"
        rw [decide_eq_true (show ds.length ≤ 80 by simp at h3; omega), Bool.true_and] at k
        refine cut_lc (fun (H1 : Hp) (D : Addr) => H1 D = some (.lst ((ds.map isFrD).map V.bl))) (fun Q' k' => ?_) (fun H1 D s1 e1 => ?_)
        · rcases hs with hs | hs
          · refine g_lcO1 ?_
            walk_at "mf"
            refine ⟨a, rfl, ⟨_, hs⟩, ?_⟩
            refine lcgo_listF (xs := xs) (fun D i H' => Same H H' ∧ H' D = some (.lst (((ds.map isFrD).take i).map V.bl))) (fun z => rfl) (fun D hD => ⟨same_new hD, upd_same⟩) (fun D i H' _ h => h.1.seq hs) (fun D i z H' hD ez h => ?_) (fun D H' hD h => ?_)
            · obtain ⟨h1, h2⟩ := h
              obtain ⟨d, ed, hd⟩ := hall.get ez
              have hi := (List.getElem?_eq_some_iff.mp ez).1
              walk_at "mf"
              refine ⟨q, z, d, rfl, hd.go (Same.x h1), ?_⟩
              refine ⟨_, h2, ?_, ?_, ?_⟩
              · rw [List.length_map, List.length_take, List.length_map]
                exact small1000 (by omega)
              · intro b o e
                rw [upd_ne (ne_of_none e hD)]
                exact h1 b o e
              · have eq1 : (ds.map isFrD)[i]? = some (isFrD d) := by rw [List.getElem?_map, ed]; rfl
                rw [upd_same, take_snoc eq1, List.map_append]
                rfl
            · obtain ⟨h1, h2⟩ := h
              exact k' H' D h1 (by rw [h2, hall.len, show ds.length = (ds.map isFrD).length by rw [List.length_map], List.take_length])
          · refine g_lcO2 ?_
            walk_at "mf"
            refine ⟨a, rfl, ⟨_, hs⟩, ?_⟩
            refine lcgo_tupF (xs := xs) (fun D i H' => Same H H' ∧ H' D = some (.lst (((ds.map isFrD).take i).map V.bl))) (fun z => rfl) (fun D hD => ⟨same_new hD, upd_same⟩) (fun D i H' _ h => (Same.x (q := q) h.1).tup na hs) (fun D i z H' hD ez h => ?_) (fun D H' hD h => ?_)
            · obtain ⟨h1, h2⟩ := h
              obtain ⟨d, ed, hd⟩ := hall.get ez
              have hi := (List.getElem?_eq_some_iff.mp ez).1
              walk_at "mf"
              refine ⟨q, z, d, rfl, hd.go (Same.x h1), ?_⟩
              refine ⟨_, h2, ?_, ?_, ?_⟩
              · rw [List.length_map, List.length_take, List.length_map]
                exact small1000 (by omega)
              · intro b o e
                rw [upd_ne (ne_of_none e hD)]
                exact h1 b o e
              · have eq1 : (ds.map isFrD)[i]? = some (isFrD d) := by rw [List.getElem?_map, ed]; rfl
                rw [upd_same, take_snoc eq1, List.map_append]
                rfl
            · obtain ⟨h1, h2⟩ := h
              exact k' H' D h1 (by rw [h2, hall.len, show ds.length = (ds.map isFrD).length by rw [List.length_map], List.take_length])
        walk_at "mf"
        exact g_all (seqU e1) (k _ s1)
      · rw [decide_eq_false (show ¬ ds.length ≤ 80 by simp at h3; omega), Bool.false_and] at k
        exact k _ (Same.refl _)
    · rw [isPyD_no h2] at k
      exact k _ (Same.refl _)
theorem ok_read_poly (c : Cn) (T : Tx c) : Cl c 6 "read_poly" s_read_poly ["value", "part"] (sp_rpoly c.K) := by
  obtain ⟨P, w, K, mg, base⟩ := c
  have C_fraction_of := ok_fraction_of _ T
  have C_is_poly := ok_is_poly _ T
  have C_trimmed := ok_trimmed _ T
  refine De.cl (N := ["value", "part", "number"]) T.d_read_poly sc_read_poly (fun vs H Q E h => ?_) (fun f0 cdv A outer s H vs Q E hA hr h => ?_)
  · obtain ⟨q, a, xs, ds, n, part, rfl, _⟩ := h; rfl
  · have S := sc_read_poly
    obtain ⟨q, a, xs, ds, n, part, rfl, na, hs, hall, hok, hn, hl, k⟩ := h
    refine ⟨_, (pss_cons (ps_if (pt_not (pt_val (pe_f C_is_poly hA hr (by decide) pl_is_poly (by rfl) (pa_cons (pv 0) pa_nil)))) (pss_one ps_never) pss_nil)
      (pss_one (ps_ret (pe_f C_trimmed hA hr (by decide) pl_trimmed (by rfl) (pa_cons (pe_lc (own := [("number", 2)]) (g := gName 2) (tt := tYes) rfl S.nd (pi_or (pi_list (pv 0)) (pi_tup (pv 0))) (blkOk_by (N := ["value", "part", "number"]) (sc := defScope s_read_poly) (by decide +kernel)) (fun _ _ _ _ _ => pg_name (i := 2) S.nd rfl (Or.inl rfl)) (fun _ _ _ _ _ => pts_nil) (fun _ _ _ _ _ => (pe_f C_fraction_of hA hr (by decide) pl_fraction_of (by rfl) (pa_cons (pv 2) pa_nil)))) pa_nil))))), ?_⟩
    obtain ⟨dd, hdd, hse⟩ : ∃ dd, Dq q K H (.ref a) dd ∧ (dd = .list ds ∨ dd = .tuple ds) := by
      rcases hs with hs | hs
      · exact ⟨.list ds, .lst na hs hall, .inl rfl⟩
      · exact ⟨.tuple ds, .tup na hs hall, .inr rfl⟩
    have hlen := hall.len
    have hit : itD dd = ds := by rcases hse with rfl | rfl <;> rfl
    walk_at "mf"
    refine ⟨q, .ref a, dd, rfl, hdd, by rw [hit]; omega, fun H1 s1 => ?_⟩
    rw [isPyD_of hse, decide_eq_true hl, Bool.true_and, all_isFr fun d hd => (hok d hd).1]
    walk_at "mf"
    refine cut_lc (fun (H2 : Hp) (D : Addr) => ∃ vs, H2 D = some (.lst vs) ∧ vs.length = ds.length ∧ TL H2 vs (ds.map valQ)) (fun Q' k' => ?_) (fun H2 D2 s2 e2 => ?_)
    · have hs := hs.go (Same.x (q := q) s1) na
      rcases hs with hs | hs
      · refine g_lcO1 ?_
        walk_at "mf"
        refine ⟨a, rfl, ⟨_, hs⟩, ?_⟩
        refine lcgo_listF (xs := xs) (fun D i H' => Same H1 H' ∧ ∃ vs, H' D = some (.lst vs) ∧ vs.length = i ∧ TL H' vs ((ds.map valQ).take i)) (fun z => rfl) (fun D hD => ⟨same_new hD, [], upd_same, rfl, .nil⟩) (fun D i H' _ h => h.1.seq hs) (fun D i z H' hD ez h => ?_) (fun D H' hD h => ?_)
        · obtain ⟨h1, vs, h2, h3, h4⟩ := h
          obtain ⟨d, ed, hd⟩ := hall.get ez
          have hi := (List.getElem?_eq_some_iff.mp ez).1
          rw [hall.len] at hi
          obtain ⟨f1, f2, f3⟩ := hok d (List.mem_of_getElem? ed)
          walk_at "mf"
          refine ⟨q, z, valQ d, n, rfl, Fr.of (hd.go (Same.x (s1.trans h1))) f1 f2 f3, by omega, fun p3 H3 s3 n3 e3 => ?_⟩
          have eD := s3 _ _ h2
          have kt := upd_kt (o := .lst (vs ++ [.ref p3])) eD
          refine ⟨vs, eD, small1000 (by omega), ?_, vs ++ [.ref p3], upd_same, by rw [List.length_append, h3]; rfl, ?_⟩
          · intro b o e
            rw [upd_ne (ne_of_none e hD)]
            exact s3 _ _ (h1 _ _ e)
          · have eq1 : (ds.map valQ)[i]? = some (valQ d) := by rw [List.getElem?_map, ed]; rfl
            rw [take_snoc eq1]
            exact ((h4.go (Same.kt s3)).go kt).snoc (kt _ _ e3)
        · obtain ⟨h1, vs, h2, h3, h4⟩ := h
          rw [hall.len, show ds.length = (ds.map valQ).length by rw [List.length_map], List.take_length] at h4
          exact k' H' D h1 ⟨vs, h2, by rw [h3, hall.len], h4⟩
      · refine g_lcO2 ?_
        walk_at "mf"
        refine ⟨a, rfl, ⟨_, hs⟩, ?_⟩
        refine lcgo_tupF (xs := xs) (fun D i H' => Same H1 H' ∧ ∃ vs, H' D = some (.lst vs) ∧ vs.length = i ∧ TL H' vs ((ds.map valQ).take i)) (fun z => rfl) (fun D hD => ⟨same_new hD, [], upd_same, rfl, .nil⟩) (fun D i H' _ h => (Same.x (q := q) h.1).tup na hs) (fun D i z H' hD ez h => ?_) (fun D H' hD h => ?_)
        · obtain ⟨h1, vs, h2, h3, h4⟩ := h
          obtain ⟨d, ed, hd⟩ := hall.get ez
          have hi := (List.getElem?_eq_some_iff.mp ez).1
          rw [hall.len] at hi
          obtain ⟨f1, f2, f3⟩ := hok d (List.mem_of_getElem? ed)
          walk_at "mf"
          refine ⟨q, z, valQ d, n, rfl, Fr.of (hd.go (Same.x (s1.trans h1))) f1 f2 f3, by omega, fun p3 H3 s3 n3 e3 => ?_⟩
          have eD := s3 _ _ h2
          have kt := upd_kt (o := .lst (vs ++ [.ref p3])) eD
          refine ⟨vs, eD, small1000 (by omega), ?_, vs ++ [.ref p3], upd_same, by rw [List.length_append, h3]; rfl, ?_⟩
          · intro b o e
            rw [upd_ne (ne_of_none e hD)]
            exact s3 _ _ (h1 _ _ e)
          · have eq1 : (ds.map valQ)[i]? = some (valQ d) := by rw [List.getElem?_map, ed]; rfl
            rw [take_snoc eq1]
            exact ((h4.go (Same.kt s3)).go kt).snoc (kt _ _ e3)
        · obtain ⟨h1, vs, h2, h3, h4⟩ := h
          rw [hall.len, show ds.length = (ds.map valQ).length by rw [List.length_map], List.take_length] at h4
          exact k' H' D h1 ⟨vs, h2, by rw [h3, hall.len], h4⟩
    obtain ⟨vs, e2, l2, t2⟩ := e2
    walk_at "mf"
    refine ⟨D2, vs, _, rfl, seqU e2, t2, by omega, fun p H' ws s n e t => ?_⟩
    exact k p H' ws ((s1.trans s2).trans s) ((s1.trans s2).free n) e t
end Mf
namespace Mf
open PySem PySem.Spec PyProof.Rows L2
local macro_rules | `(tactic| walk_at "mf1") => `(tactic| first
  | ((with_reducible apply g_var); exact rfl)
  | with_reducible first
    | refine g_c ?_ | refine g_op ?_ | refine g_un ?_ | refine g_cb ?_ | refine g_cl ?_ | refine g_clk ?_ | refine g_nil ?_ | refine g_cons ?_
    | refine g_tB ?_ | refine g_test ?_ | refine g_bl ?_ | refine g_and ?_ | refine g_or ?_ | refine g_not ?_ | refine g_andV ?_ | refine g_orV ?_ | refine g_notV ?_
    | refine g_if ?_ | refine g_ifS ?_ | refine g_seq ?_ | refine g_next ?_ | refine g_ret ?_ | refine g_drop ?_ | refine g_asg ?_ | refine g_name ?_ | refine g_sub ?_
    | refine g_int ?_ | refine g_intB ?_ | refine g_abs ?_ | refine g_I0 ?_ | refine g_addI ?_ | refine g_U ?_ | refine g_isNn ?_ | refine g_isNi ?_ | refine g_notN ?_ | refine g_notT1 ?_ | refine g_notT2 ?_ | refine g_notT3 ?_ | refine g_notT4 ?_ | refine g_notTb ?_ | refine g_notTi ?_ | refine g_eqI ?_ | refine g_neI ?_ | refine g_neSs ?_ | refine g_neS ?_ | refine g_eqS ?_
    | refine g_iteT ?_ | refine g_iteF ?_ | refine g_iteNT ?_ | refine g_iteNF ?_ | refine g_lst ?_ | refine g_tup ?_ | refine g_seqP ?_ | refine g_sl ?_ | refine g_noPart ?_ | refine g_part ?_ | refine g_yes ?_ | refine g_thenT ?_ | refine g_consG ?_ | refine g_nilG ?_ | refine g_ii ?_ | refine g_par ?_ | refine g_par3 ?_ | refine g_vv ?_ | refine g_vvv ?_ | refine g_reprB ?_ | refine g_lcL ?_ | refine g_lcR ?_
  | ((with_reducible refine g_mod ?_ ?_); (first | omega | decide))
  | ((with_reducible refine g_div ?_ ?_ ?_); (first | omega | decide); (first | assumption | decide))
  | ((with_reducible refine g_mulL ?_ ?_ ?_); (first | omega | decide); (first | omega | decide))
  | ((with_reducible refine g_mulR ?_ ?_ ?_); (first | omega | decide); (first | omega | decide))
  | ((with_reducible refine g_pow ?_ ?_ ?_ ?_); decide; decide; (first | omega | decide))
  | dsimp only)
local macro_rules | `(tactic| walk_at "mf1s") => `(tactic| first
  | ((with_reducible apply g_var); exact rfl)
  | with_reducible first
    | refine g_c ?_ | refine g_op ?_ | refine g_un ?_ | refine g_cb ?_ | refine g_cl ?_ | refine g_clk ?_ | refine g_nil ?_ | refine g_cons ?_
    | refine g_tB ?_ | refine g_test ?_ | refine g_bl ?_ | refine g_and ?_ | refine g_or ?_ | refine g_not ?_ | refine g_andV ?_ | refine g_orV ?_ | refine g_notV ?_
    | refine g_if ?_ | refine g_ifS ?_ | refine g_next ?_ | refine g_ret ?_ | refine g_drop ?_ | refine g_asg ?_ | refine g_name ?_ | refine g_sub ?_
    | refine g_int ?_ | refine g_intB ?_ | refine g_abs ?_ | refine g_I0 ?_ | refine g_addI ?_ | refine g_U ?_ | refine g_isNn ?_ | refine g_isNi ?_ | refine g_notN ?_ | refine g_notT1 ?_ | refine g_notT2 ?_ | refine g_notT3 ?_ | refine g_notT4 ?_ | refine g_notTb ?_ | refine g_notTi ?_ | refine g_eqI ?_ | refine g_neI ?_ | refine g_neSs ?_ | refine g_neS ?_ | refine g_eqS ?_
    | refine g_iteT ?_ | refine g_iteF ?_ | refine g_iteNT ?_ | refine g_iteNF ?_ | refine g_lst ?_ | refine g_tup ?_ | refine g_seqP ?_ | refine g_sl ?_ | refine g_noPart ?_ | refine g_part ?_ | refine g_yes ?_ | refine g_thenT ?_ | refine g_consG ?_ | refine g_nilG ?_ | refine g_ii ?_ | refine g_par ?_ | refine g_par3 ?_ | refine g_vv ?_ | refine g_vvv ?_ | refine g_reprB ?_ | refine g_lcL ?_ | refine g_lcR ?_
  | ((with_reducible refine g_mod ?_ ?_); (first | omega | decide))
  | ((with_reducible refine g_div ?_ ?_ ?_); (first | omega | decide); (first | assumption | decide))
  | ((with_reducible refine g_mulL ?_ ?_ ?_); (first | omega | decide); (first | omega | decide))
  | ((with_reducible refine g_mulR ?_ ?_ ?_); (first | omega | decide); (first | omega | decide))
  | ((with_reducible refine g_pow ?_ ?_ ?_ ?_); decide; decide; (first | omega | decide))
  | dsimp only)
local macro_rules | `(tactic| walk_at "mfs") => `(tactic| repeat walk_at "mf1s")
local macro_rules | `(tactic| walk_at "mf") => `(tactic| repeat walk_at "mf1")
local macro_rules | `(tactic| walk_at "ed") => `(tactic| repeat (first
  | with_reducible first
    | exact eds_nil | apply eds_cons | exact ed_int | exact ed_bl | exact ed_non | apply ed_neg
  | ((with_reducible apply ed_str); decide)
  | ((with_reducible apply ed_var); (exact rfl); (first | assumption | exact Dq.int _))
  | ((with_reducible apply ed_dict0); assumption)
  | ((with_reducible apply ed_dict2); assumption)
  | ((with_reducible apply ed_tup); assumption)
  | ((with_reducible apply ed_lst); assumption)
  | (with_reducible apply ed_pow)
  | (with_reducible apply ed_mul)
  | assumption
  | (exact Dq.int _)
  | (exact ⟨by decide, by decide, by decide⟩)
  | (show List.length _ ≤ 1000; simp only [List.length_cons, List.length_nil]; decide)))
theorem ok__law_product (c : Cn) (T : Tx c) : Cl c 3 "_law_product" s__law_product ["one", "other"] (sp_lprod c.K) := by
  obtain ⟨P, w, K, mg, base⟩ := c
  have C__law_plus := ok__law_plus _ T
  have C__law_times := ok__law_times _ T
  have C__law_trimmed := ok__law_trimmed _ T
  refine De.cl (N := ["one", "other", "found", "at", "mine", "spot", "its"]) T.d__law_product sc__law_product (fun vs H Q E h => ?_) (fun f0 cdv A outer s H vs Q E hA hr h => ?_)
  · obtain ⟨a, b, xs, ys, f, gg, A1, B1, C1, rfl, _⟩ := h; rfl
  · have S := sc__law_product
    obtain ⟨a, b, xs, ys, f, gg, A1, B1, C1, rfl, ha, hb, tf, tg, bf, bg, hC, hA1, hB1, hABC, lx, ly, k⟩ := h
    refine ⟨_, (pss_cons (ps_set (i := 2) S.nd rfl (by first | exact .inl rfl | exact .inr rfl) (pe_op op_mulU (pe_lst (pa_cons (pe_tup (pa_cons pe_int (pa_cons pe_int pa_nil))) pa_nil)) (pe_callB (call_max2R rfl) (by rfl) T.n_max (show bootBuiltins "max" = some (.builtin "max") by decide +kernel) (pa_cons pe_int (pa_cons (pe_op op_sub (pe_op op_addU (pe_callB call_lenU (by rfl) T.n_len PySem.boot_len (pa_cons (pv 0) pa_nil)) (pe_callB call_lenU (by rfl) T.n_len PySem.boot_len (pa_cons (pv 1) pa_nil))) pe_int) pa_nil)))))
      (pss_cons (ps_for PassesOwn.never rfl (pi_or (pi_enum (by rfl) T.n_enumerate (pa_cons (pv 0) pa_nil)) (pi_enumT (by rfl) T.n_enumerate (pa_cons (pv 0) pa_nil))) (pg_tup rfl (pgs_cons (pg_name (i := 3) S.nd rfl (by first | exact .inl rfl | exact .inr rfl)) (pgs_cons (pg_name (i := 4) S.nd rfl (by first | exact .inl rfl | exact .inr rfl)) pgs_nil))) (pss_one (ps_for PassesOwn.never rfl (pi_or (pi_enum (by rfl) T.n_enumerate (pa_cons (pv 1) pa_nil)) (pi_enumT (by rfl) T.n_enumerate (pa_cons (pv 1) pa_nil))) (pg_tup rfl (pgs_cons (pg_name (i := 5) S.nd rfl (by first | exact .inl rfl | exact .inr rfl)) (pgs_cons (pg_name (i := 6) S.nd rfl (by first | exact .inl rfl | exact .inr rfl)) pgs_nil))) (pss_one (ps_asg (pe_f C__law_plus hA hr (by decide) pl__law_plus (by rfl) (pa_cons (pe_ix ix_seq (pv 2) (pe_op op_addU (pv 3) (pv 5)) (fun _ _ => rfl)) (pa_cons (pe_f C__law_times hA hr (by decide) pl__law_times (by rfl) (pa_cons (pv 4) (pa_cons (pv 6) pa_nil))) pa_nil))) (pg_sub (pv 2) (pe_op op_addU (pv 3) (pv 5)) set_list))))))
      (pss_one (ps_ret (pe_f C__law_trimmed hA hr (by decide) pl__law_trimmed (by rfl) (pa_cons (pv 2) pa_nil)))))), ?_⟩
    have lf := tf.len
    have lg := tg.len
    walk_at "mf"
    refine g_newT (by show 2 ≤ sizeLine; decide) fun p0 H0 n0 s0 e0 => ?_
    walk_at "mf"
    refine g_newL (by show 1 ≤ sizeLine; decide) fun p1 H1 n1 s1 e1 => ?_
    walk_at "mf"
    refine g_len ((ha.go (Same.x (q := a + 1) s0) (Nat.ne_of_lt (Nat.lt_succ_self a))).go (Same.x (q := a + 1) s1) (Nat.ne_of_lt (Nat.lt_succ_self a))) ?_
    walk_at "mf"
    refine g_len ((hb.go (Same.x (q := b + 1) s0) (Nat.ne_of_lt (Nat.lt_succ_self b))).go (Same.x (q := b + 1) s1) (Nat.ne_of_lt (Nat.lt_succ_self b))) ?_
    walk_at "mf"
    refine g_max2 ?_
    walk_at "mf"
    obtain ⟨L, hL, eL⟩ : ∃ L : Nat, (if (xs.length : Int) + (ys.length : Int) - 1 > 0 then (xs.length : Int) + (ys.length : Int) - 1 else 0) = (L : Int) ∧ L = f.length + gg.length - 1 := by
      refine ⟨f.length + gg.length - 1, ?_, rfl⟩
      split <;> omega
    rw [hL]
    refine g_rep e1 (by omega) (by omega) (by show 1 * _ ≤ sizeLine; rw [Int.toNat_natCast]; exact Nat.le_of_lt (small1000 (by omega))) fun D HD nD sD eD => ?_
    have eD : HD D = some (.lst (List.replicate L (.ref p0))) := by
      rw [eD, Int.toNat_natCast]
      congr 2
      clear eD hL eL
      induction L with
      | zero => rfl
      | succ L ih => rw [List.replicate_succ, List.flatten_cons, ih, List.replicate_succ] <;> rfl
    have sHD : Same H HD := (s0.trans s1).trans sD
    have nD0 : H D = none := s0.free (s1.free nD)
    have tD : TL HD (List.replicate L (.ref p0)) (List.replicate L 0) := TL.rep (r := 0) (sD _ _ (s1 _ _ e0)) L
    have cz : ∀ n, co (List.replicate L 0) n = 0 := fun n => by
      by_cases z : n < L
      · rw [co_get (by rw [List.length_replicate]; exact z), List.getElem_replicate]
      · exact co_ge (by rw [List.length_replicate]; omega)
    clear e1 n1 s1 n0 s0 e0 sD nD hL
    walk_at "mf"
    refine g_forE (H0 := H) rfl ha (fun n σ' H' => Same H H' ∧ ∃ o3 o4 o5 o6 vs fl, σ' = [some (.ref a), some (.ref b), some (.ref D), o3, o4, o5, o6] ∧ H' D = some (.lst vs) ∧ TL H' vs fl ∧ fl.length = L ∧ ∀ j, co fl j = cs (co f) (co gg) n j)
      ⟨sHD, none, none, none, none, _, _, rfl, eD, tD, List.length_replicate .., cz⟩ (fun n σ' H' h => h.1) (fun n x σ' H' T0 hx h nT => ?_) (fun σ' H' h => ?_)
    · obtain ⟨sH, o3, o4, o5, o6, vs, fl, rfl, ev, tv, lv, cv⟩ := h
      obtain ⟨am, rfl, em, _⟩ := (tf.go (Same.kt sH)).get hx
      have hn : n < f.length := by have := (List.getElem?_eq_some_iff.mp hx).1; omega
      have sT : Same H' (upd H' T0 (.tup [.int (n : Nat), .ref am])) := same_new nT
      generalize upd H' T0 (.tup [.int (n : Nat), .ref am]) = Hs at *
      have em := sT _ _ em
      walk_at "mf"
      refine g_forE (H0 := H) rfl hb (fun m σ' H' => Same H H' ∧ ∃ o5 o6 vs fl, σ' = [some (.ref a), some (.ref b), some (.ref D), some (.int (n : Nat)), some (.ref am), o5, o6] ∧ H' D = some (.lst vs) ∧ TL H' vs fl ∧ fl.length = L ∧ H' am = some (.tup (rv (co f n))) ∧
          ∀ j, co fl j = cs (co f) (co gg) n j + (if n ≤ j ∧ j < n + m then co f n * co gg (j - n) else 0))
        ⟨sH.trans sT, o5, o6, vs, fl, rfl, sT _ _ ev, tv.go (Same.kt sT), lv, em, fun j => by rw [cv j, if_neg (by omega), Rat.add_zero]⟩ (fun n σ' H' h => h.1) (fun m y σ' H2 T1 hy h nT1 => ?_) (fun σ' H2 h => ?_)
      · obtain ⟨s2, o5, o6, vs, fl, rfl, ev, tv, lv, em, cv⟩ := h
        obtain ⟨ai, rfl, ei, _⟩ := (tg.go (Same.kt s2)).get hy
        have hm : m < gg.length := by have := (List.getElem?_eq_some_iff.mp hy).1; omega
        have sT1 : Same H2 (upd H2 T1 (.tup [.int (m : Nat), .ref ai])) := same_new nT1
        generalize upd H2 T1 (.tup [.int (m : Nat), .ref ai]) = Ht at *
        have s3 := s2.trans sT1
        have ev := sT1 _ _ ev
        have tv := tv.go (Same.kt sT1)
        have em := sT1 _ _ em
        have ei := sT1 _ _ ei
        have hnm : n + m < fl.length := by omega
        have c0 : co fl (n + m) = cs (co f) (co gg) n (n + m) := by rw [cv, if_neg (by omega), Rat.add_zero]
        obtain ⟨pf, hpf, ef⟩ := tv.at hnm
        have hlv : n + m < vs.length := (List.getElem?_eq_some_iff.mp hpf).1
        walk_at "mf"
        refine g_ix (.inl (seqU ev)) (at_of (j := n + m) (by omega) hpf) ?_
        walk_at "mf"
        refine ⟨am, ai, co f n, co gg m, A1, B1, rfl, em, ei, bf.co hA1 n, bg.co hB1 m, by omega, fun p1 Ha sa na ea => ?_⟩
        walk_at "mf"
        refine ⟨pf, p1, co fl (n + m), _, C1, A1 + B1, rfl, sa _ _ ef, ea, by rw [c0]; exact hC _ _, (bf.co hA1 n).mul (bg.co hB1 m), by omega, fun p2 Hb sb nb eb => ?_⟩
        walk_at "mf"
        have evb := sb _ _ (sa _ _ ev)
        have kt := upd_kt (o := .lst (vs.set (n + m) (.ref p2))) evb
        refine g_setL evb (j := n + m) ?_ ?_
        · unfold ixN
          rw [if_pos (by omega), if_pos (by omega)]
          congr 1
        walk_at "mf"
        refine ⟨fun c o e => ?_, _, _, _, fl.set (n + m) (co fl (n + m) + co f n * co gg m), rfl, upd_same, (((tv.go (Same.kt sa)).go (Same.kt sb)).go kt).set (kt _ _ eb) _, by rw [List.length_set]; exact lv, kt _ _ (sb _ _ (sa _ _ em)), fun j => ?_⟩
        · rw [upd_ne (ne_of_none e nD0)]
          exact sb _ _ (sa _ _ (s3 _ _ e))
        · rw [co_set hnm]
          by_cases z : j = n + m
          · subst z
            rw [if_pos rfl, c0, if_pos (by omega), show n + m - n = m by omega]
          · rw [if_neg z, cv]
            by_cases z2 : n ≤ j ∧ j < n + m
            · rw [if_pos z2, if_pos (by omega)]
            · rw [if_neg z2, if_neg (by omega)]
      · obtain ⟨s2, o5, o6, vs, fl, rfl, ev, tv, lv, em, cv⟩ := h
        walk_at "mf"
        refine ⟨s2, _, _, o5, o6, vs, fl, rfl, ev, tv, lv, fun j => ?_⟩
        rw [cv, cs_succ]
        by_cases z : n ≤ j
        · rw [if_pos z]
          by_cases z2 : j < n + ys.length
          · rw [if_pos ⟨z, z2⟩]
          · rw [if_neg (by omega), co_ge (l := gg) (by omega), Rat.mul_zero]
        · rw [if_neg z, if_neg (by omega)]
    · obtain ⟨sH, o3, o4, o5, o6, vs, fl, rfl, ev, tv, lv, cv⟩ := h
      walk_at "mf"
      refine ⟨D, vs, fl, rfl, seqU ev, tv, by rw [tv.len]; omega, fun p H3 ws s3 n3 e3 t3 => ?_⟩
      have ee : trimR fl = trimR (conv f gg) := trim_eq fun j => by rw [cv, co_conv, lf, cs_co]
      rw [ee] at t3
      exact k p H3 ws (sH.trans s3) (sH.free n3) e3 t3
theorem ok__law_sum (c : Cn) (T : Tx c) : Cl c 3 "_law_sum" s__law_sum ["one", "other"] (sp_lsum c.K) := by
  obtain ⟨P, w, K, mg, base⟩ := c
  have C__law_plus := ok__law_plus _ T
  have C__law_trimmed := ok__law_trimmed _ T
  refine De.cl (N := ["one", "other", "found", "at", "its"]) T.d__law_sum sc__law_sum (fun vs H Q E h => ?_) (fun f0 cdv A outer s H vs Q E hA hr h => ?_)
  · obtain ⟨a, b, xs, ys, f, gg, A1, B1, rfl, _⟩ := h; rfl
  · have S := sc__law_sum
    obtain ⟨a, b, xs, ys, f, gg, A1, B1, rfl, ha, hb, tf, tg, bf, bg, hA1, hB1, hAB, lx, ly, k⟩ := h
    refine ⟨_, (pss_cons (ps_set (i := 2) S.nd rfl (by first | exact .inl rfl | exact .inr rfl) (pe_op op_addU (pe_callTy call_lstOf (by rfl) T.n_list PyProof.Rows.boot_list (pa_cons (pv 0) pa_nil)) (pe_op op_mulU (pe_lst (pa_cons (pe_tup (pa_cons pe_int (pa_cons pe_int pa_nil))) pa_nil)) (pe_callB (call_max2R rfl) (by rfl) T.n_max (show bootBuiltins "max" = some (.builtin "max") by decide +kernel) (pa_cons pe_int (pa_cons (pe_op op_sub (pe_callB call_lenU (by rfl) T.n_len PySem.boot_len (pa_cons (pv 1) pa_nil)) (pe_callB call_lenU (by rfl) T.n_len PySem.boot_len (pa_cons (pv 0) pa_nil))) pa_nil))))))
      (pss_cons (ps_for PassesOwn.never rfl (pi_or (pi_enum (by rfl) T.n_enumerate (pa_cons (pv 1) pa_nil)) (pi_enumT (by rfl) T.n_enumerate (pa_cons (pv 1) pa_nil))) (pg_tup rfl (pgs_cons (pg_name (i := 3) S.nd rfl (by first | exact .inl rfl | exact .inr rfl)) (pgs_cons (pg_name (i := 4) S.nd rfl (by first | exact .inl rfl | exact .inr rfl)) pgs_nil))) (pss_one (ps_asg (pe_f C__law_plus hA hr (by decide) pl__law_plus (by rfl) (pa_cons (pe_ix ix_seq (pv 2) (pv 3) (fun _ _ => rfl)) (pa_cons (pv 4) pa_nil))) (pg_sub (pv 2) (pv 3) set_list))))
      (pss_one (ps_ret (pe_f C__law_trimmed hA hr (by decide) pl__law_trimmed (by rfl) (pa_cons (pv 2) pa_nil)))))), ?_⟩
    have lf := tf.len
    have lg := tg.len
    have gA : ∀ {H1 H2 : Hp}, Same H1 H2 → Sq K H1 a xs → Sq K H2 a xs := fun s h => h.go (Same.x (q := a + 1) s) (Nat.ne_of_lt (Nat.lt_succ_self a))
    have gB : ∀ {H1 H2 : Hp}, Same H1 H2 → Sq K H1 b ys → Sq K H2 b ys := fun s h => h.go (Same.x (q := b + 1) s) (Nat.ne_of_lt (Nat.lt_succ_self b))
    walk_at "mf"
    refine g_lstOf ha fun pl Hl nl sl el => ?_
    walk_at "mf"
    refine g_newT (by show 2 ≤ sizeLine; decide) fun p0 H0 n0 s0 e0 => ?_
    walk_at "mf"
    refine g_newL (by show 1 ≤ sizeLine; decide) fun p1 H1 n1 s1 e1 => ?_
    walk_at "mf"
    refine g_len (gB s1 (gB s0 (gB sl hb))) ?_
    walk_at "mf"
    refine g_len (gA s1 (gA s0 (gA sl ha))) ?_
    walk_at "mf"
    refine g_max2 ?_
    walk_at "mf"
    obtain ⟨L, hL, eL⟩ : ∃ L : Nat, (if (ys.length : Int) - (xs.length : Int) > 0 then (ys.length : Int) - (xs.length : Int) else 0) = (L : Int) ∧ f.length + L = max f.length gg.length := by
      refine ⟨max f.length gg.length - f.length, ?_, by omega⟩
      split <;> omega
    rw [hL]
    refine g_rep e1 (by omega) (by omega) (by show 1 * _ ≤ sizeLine; rw [Int.toNat_natCast]; exact Nat.le_of_lt (small1000 (by omega))) fun D HD nD sD eD => ?_
    have eD : HD D = some (.lst (List.replicate L (.ref p0))) := by
      rw [eD, Int.toNat_natCast]
      congr 2
      clear eD hL eL
      induction L with
      | zero => rfl
      | succ L ih => rw [List.replicate_succ, List.flatten_cons, ih, List.replicate_succ] <;> rfl
    have tD : TL HD (List.replicate L (.ref p0)) (List.replicate L 0) := TL.rep (r := 0) (sD _ _ (s1 _ _ e0)) L
    have cz : ∀ n, co (List.replicate L 0) n = 0 := fun n => by
      by_cases z : n < L
      · rw [co_get (by rw [List.length_replicate]; exact z), List.getElem_replicate]
      · exact co_ge (by rw [List.length_replicate]; omega)
    have elD := sD _ _ (s1 _ _ (s0 _ _ el))
    have sHD : Same H HD := ((sl.trans s0).trans s1).trans sD
    clear e1 n1 s1 n0 s0 e0 sD nD hL el nl sl
    walk_at "mf"
    refine g_cat elD eD (by rw [List.length_replicate]; exact Nat.le_of_lt (small1000 (by omega))) fun F HF nF sF eF => ?_
    have tF := (tf.go (Same.kt (sHD.trans sF))).app (tD.go (Same.kt sF))
    have sHF := sHD.trans sF
    have nF0 : H F = none := sHD.free nF
    clear tD eD elD
    walk_at "mf"
    refine g_forE (H0 := H) rfl hb (fun m σ' H' => Same H H' ∧ ∃ o3 o4 vs fl, σ' = [some (.ref a), some (.ref b), some (.ref F), o3, o4] ∧ H' F = some (.lst vs) ∧ TL H' vs fl ∧ fl.length = max f.length gg.length ∧ ∀ j, co fl j = co f j + (if j < m then co gg j else 0))
      ⟨sHF, none, none, _, _, rfl, eF, tF, by rw [List.length_append, List.length_replicate, eL], fun j => ?_⟩ (fun n σ' H' h => h.1) (fun m x σ' H' T0 hx h nT => ?_) (fun σ' H' h => ?_)
    · rw [if_neg (Nat.not_lt_zero _), Rat.add_zero, co_append]
      by_cases z : j < f.length
      · rw [if_pos z]
      · rw [if_neg z, cz, co_ge (by omega)]
    · obtain ⟨s2, o3, o4, vs, fl, rfl, ev, tv, lv, cv⟩ := h
      obtain ⟨ai, rfl, ei, _⟩ := (tg.go (Same.kt s2)).get hx
      have hm : m < gg.length := by have := (List.getElem?_eq_some_iff.mp hx).1; omega
      have sT : Same H' (upd H' T0 (.tup [.int (m : Nat), .ref ai])) := same_new nT
      generalize upd H' T0 (.tup [.int (m : Nat), .ref ai]) = Hs at *
      have s3 := s2.trans sT
      have ev := sT _ _ ev
      have tv := tv.go (Same.kt sT)
      have ei := sT _ _ ei
      have hml : m < fl.length := by omega
      have c0 : co fl m = co f m := by rw [cv, if_neg (Nat.lt_irrefl _), Rat.add_zero]
      obtain ⟨pf, hpf, ef⟩ := tv.at hml
      have hlv : m < vs.length := (List.getElem?_eq_some_iff.mp hpf).1
      walk_at "mf"
      refine g_ix (.inl (seqU ev)) (at_of (j := m) (by omega) hpf) ?_
      walk_at "mf"
      refine ⟨pf, ai, co fl m, co gg m, A1, B1, rfl, ef, ei, by rw [c0]; exact bf.co hA1 m, bg.co hB1 m, by omega, fun p2 Hb sb nb eb => ?_⟩
      walk_at "mf"
      have evb := sb _ _ ev
      have kt := upd_kt (o := .lst (vs.set m (.ref p2))) evb
      refine g_setL evb (j := m) ?_ ?_
      · unfold ixN
        rw [if_pos (by omega), if_pos (by omega)]
        congr 1
      walk_at "mf"
      refine ⟨fun c o e => ?_, _, _, _, fl.set m (co fl m + co gg m), rfl, upd_same, ((tv.go (Same.kt sb)).go kt).set (kt _ _ eb) _, by rw [List.length_set]; exact lv, fun j => ?_⟩
      · rw [upd_ne (ne_of_none e nF0)]
        exact sb _ _ (s3 _ _ e)
      · rw [co_set hml]
        by_cases z : j = m
        · subst z
          rw [if_pos rfl, c0, if_pos (by omega)]
        · rw [if_neg z, cv]
          by_cases z2 : j < m
          · rw [if_pos z2, if_pos (by omega)]
          · rw [if_neg z2, if_neg (by omega)]
    · obtain ⟨sH, o3, o4, vs, fl, rfl, ev, tv, lv, cv⟩ := h
      walk_at "mf"
      refine ⟨F, vs, fl, rfl, seqU ev, tv, by rw [tv.len]; omega, fun p H3 ws s3 n3 e3 t3 => ?_⟩
      have ee : trimR fl = trimR (padd f gg) := trim_eq fun j => by
        rw [cv, co_padd]
        by_cases z : j < ys.length
        · rw [if_pos z]
        · rw [if_neg z, co_ge (l := gg) (by omega)]
      rw [ee] at t3
      exact k p H3 ws (sH.trans s3) (sH.free n3) e3 t3
end Mf
namespace Mf
open PySem PySem.Spec PyProof.Rows L2
local macro_rules | `(tactic| walk_at "mf1") => `(tactic| first
  | ((with_reducible apply g_var); exact rfl)
  | with_reducible first
    | refine g_c ?_ | refine g_op ?_ | refine g_un ?_ | refine g_cb ?_ | refine g_cl ?_ | refine g_clk ?_ | refine g_nil ?_ | refine g_cons ?_
    | refine g_tB ?_ | refine g_test ?_ | refine g_bl ?_ | refine g_and ?_ | refine g_or ?_ | refine g_not ?_ | refine g_andV ?_ | refine g_orV ?_ | refine g_notV ?_
    | refine g_if ?_ | refine g_ifS ?_ | refine g_seq ?_ | refine g_next ?_ | refine g_ret ?_ | refine g_drop ?_ | refine g_asg ?_ | refine g_name ?_ | refine g_sub ?_
    | refine g_int ?_ | refine g_intB ?_ | refine g_abs ?_ | refine g_I0 ?_ | refine g_addI ?_ | refine g_U ?_ | refine g_isNn ?_ | refine g_isNi ?_ | refine g_notN ?_ | refine g_notT1 ?_ | refine g_notT2 ?_ | refine g_notT3 ?_ | refine g_notT4 ?_ | refine g_notTb ?_ | refine g_notTi ?_ | refine g_eqI ?_ | refine g_neI ?_ | refine g_neSs ?_ | refine g_neS ?_ | refine g_eqS ?_
    | refine g_iteT ?_ | refine g_iteF ?_ | refine g_iteNT ?_ | refine g_iteNF ?_ | refine g_lst ?_ | refine g_tup ?_ | refine g_seqP ?_ | refine g_sl ?_ | refine g_noPart ?_ | refine g_part ?_ | refine g_yes ?_ | refine g_thenT ?_ | refine g_consG ?_ | refine g_nilG ?_ | refine g_ii ?_ | refine g_par ?_ | refine g_par3 ?_ | refine g_vv ?_ | refine g_vvv ?_ | refine g_reprB ?_ | refine g_lcL ?_ | refine g_lcR ?_
  | ((with_reducible refine g_mod ?_ ?_); (first | omega | decide))
  | ((with_reducible refine g_div ?_ ?_ ?_); (first | omega | decide); (first | assumption | decide))
  | ((with_reducible refine g_mulL ?_ ?_ ?_); (first | omega | decide); (first | omega | decide))
  | ((with_reducible refine g_mulR ?_ ?_ ?_); (first | omega | decide); (first | omega | decide))
  | ((with_reducible refine g_pow ?_ ?_ ?_ ?_); decide; decide; (first | omega | decide))
  | dsimp only)
local macro_rules | `(tactic| walk_at "mf1s") => `(tactic| first
  | ((with_reducible apply g_var); exact rfl)
  | with_reducible first
    | refine g_c ?_ | refine g_op ?_ | refine g_un ?_ | refine g_cb ?_ | refine g_cl ?_ | refine g_clk ?_ | refine g_nil ?_ | refine g_cons ?_
    | refine g_tB ?_ | refine g_test ?_ | refine g_bl ?_ | refine g_and ?_ | refine g_or ?_ | refine g_not ?_ | refine g_andV ?_ | refine g_orV ?_ | refine g_notV ?_
    | refine g_if ?_ | refine g_ifS ?_ | refine g_next ?_ | refine g_ret ?_ | refine g_drop ?_ | refine g_asg ?_ | refine g_name ?_ | refine g_sub ?_
    | refine g_int ?_ | refine g_intB ?_ | refine g_abs ?_ | refine g_I0 ?_ | refine g_addI ?_ | refine g_U ?_ | refine g_isNn ?_ | refine g_isNi ?_ | refine g_notN ?_ | refine g_notT1 ?_ | refine g_notT2 ?_ | refine g_notT3 ?_ | refine g_notT4 ?_ | refine g_notTb ?_ | refine g_notTi ?_ | refine g_eqI ?_ | refine g_neI ?_ | refine g_neSs ?_ | refine g_neS ?_ | refine g_eqS ?_
    | refine g_iteT ?_ | refine g_iteF ?_ | refine g_iteNT ?_ | refine g_iteNF ?_ | refine g_lst ?_ | refine g_tup ?_ | refine g_seqP ?_ | refine g_sl ?_ | refine g_noPart ?_ | refine g_part ?_ | refine g_yes ?_ | refine g_thenT ?_ | refine g_consG ?_ | refine g_nilG ?_ | refine g_ii ?_ | refine g_par ?_ | refine g_par3 ?_ | refine g_vv ?_ | refine g_vvv ?_ | refine g_reprB ?_ | refine g_lcL ?_ | refine g_lcR ?_
  | ((with_reducible refine g_mod ?_ ?_); (first | omega | decide))
  | ((with_reducible refine g_div ?_ ?_ ?_); (first | omega | decide); (first | assumption | decide))
  | ((with_reducible refine g_mulL ?_ ?_ ?_); (first | omega | decide); (first | omega | decide))
  | ((with_reducible refine g_mulR ?_ ?_ ?_); (first | omega | decide); (first | omega | decide))
  | ((with_reducible refine g_pow ?_ ?_ ?_ ?_); decide; decide; (first | omega | decide))
  | dsimp only)
local macro_rules | `(tactic| walk_at "mfs") => `(tactic| repeat walk_at "mf1s")
local macro_rules | `(tactic| walk_at "mf") => `(tactic| repeat walk_at "mf1")
local macro_rules | `(tactic| walk_at "ed") => `(tactic| repeat (first
  | with_reducible first
    | exact eds_nil | apply eds_cons | exact ed_int | exact ed_bl | exact ed_non | apply ed_neg
  | ((with_reducible apply ed_str); decide)
  | ((with_reducible apply ed_var); (exact rfl); (first | assumption | exact Dq.int _))
  | ((with_reducible apply ed_dict0); assumption)
  | ((with_reducible apply ed_dict2); assumption)
  | ((with_reducible apply ed_tup); assumption)
  | ((with_reducible apply ed_lst); assumption)
  | (with_reducible apply ed_pow)
  | (with_reducible apply ed_mul)
  | assumption
  | (exact Dq.int _)
  | (exact ⟨by decide, by decide, by decide⟩)
  | (show List.length _ ≤ 1000; simp only [List.length_cons, List.length_nil]; decide)))
theorem ok__law_row (c : Cn) (T : Tx c) : Cl c 4 "_law_row" s__law_row ["cellar", "most"] (sp_row c.K) := by
  obtain ⟨P, w, K, mg, base⟩ := c
  have C__law_barrel := ok__law_barrel _ T
  have C__law_fraction := ok__law_fraction _ T
  refine De.cl (N := ["cellar", "most", "at"]) T.d__law_row sc__law_row (fun vs H Q E h => ?_) (fun f0 cdv A outer s H vs Q E hA hr h => ?_)
  · obtain ⟨q, t, m, rfl, _⟩ := h; rfl
  · have S := sc__law_row
    obtain ⟨q, t, m, rfl, hq, ht, m0, m1, k⟩ := h
    refine ⟨_, (pss_one (ps_ret (pe_lc (own := [("at", 2)]) (g := gName 2) (tt := tYes) rfl S.nd (pi_range1 rfl T.n_range (pa_cons (pe_f C__law_barrel hA hr (by decide) pl__law_barrel (by rfl) (pa_cons (pv 0) (pa_cons (pe_op op_addU (pv 1) pe_int) pa_nil))) pa_nil)) (blkOk_by (N := ["cellar", "most", "at"]) (sc := defScope s__law_row) (by decide +kernel)) (fun _ _ _ _ _ => pg_name (i := 2) S.nd rfl (Or.inl rfl)) (fun _ _ _ _ _ => pts_nil) (fun _ _ _ _ _ => (pe_f C__law_fraction hA hr (by decide) pl__law_fraction (by rfl) (pa_cons (pv 0) pa_nil)))))), ?_⟩
    walk_at "mf"
    refine ⟨q, t, _, rfl, hq, by omega, by omega, Bt.log (n := 20) (by show (m + 1).natAbs < 2 ^ 20; omega) (by decide), fun t1 H1 i sx1 hq1 l1 u1 i0 i1 => ?_⟩
    walk_at "mf"
    refine ⟨_, rfl, by omega, by omega, ?_⟩
    have nH : ∀ {D}, H1 D = none → H D = none := fun {D} hD => by
      cases z : H D with
      | none => rfl
      | some o => exact absurd (show H D ≠ none by rw [z]; exact Option.some_ne_none _) (fresh_x sx1 hq1.at hD)
    refine lcgo_range (n := i.toNat) (fun D j H' => ∃ t' vs rs, Qy K q t' H' ∧ t1 ≤ t' ∧ t' ≤ t1 + 5 * (j : Int) ∧ Qn q D H' ∧ SameX q H H' ∧ H' D = some (.lst vs) ∧ vs.length = j ∧ TL H' vs rs ∧ RbL 12 rs) (fun z => rfl)
      (fun D hD => ⟨t1, [], [], hq1.upd (Qn.new hq1 hD) (hq1.ne hD), by omega, by omega, Qn.upd hq1 (Qn.new hq1 hD) (hq1.ne hD), sx1.trans (Same.x (same_new hD)), upd_same, rfl, .nil, fun r hr => absurd hr List.not_mem_nil⟩) (fun D j H' hD hj h => ?_) (fun D H' hD h => ?_)
    · obtain ⟨t', vs, rs, hq', lt', ut', hn', sx', eD, lv, tl, br⟩ := h
      have nD : D ≠ q := hq1.ne hD
      walk_at "mf"
      refine ⟨q, t', rfl, hq', by omega, fun t6 H6 p r sx6 hq6 l6 u6 np ep bp => ?_⟩
      have hn6 := hn'.go hq' sx6
      have eD6 := sx6 _ _ nD eD
      have kt := upd_kt (o := .lst (vs ++ [.ref p])) eD6
      refine ⟨vs, eD6, small1000 (by omega), t6, vs ++ [.ref p], rs ++ [r], hq6.upd hn6 nD, by omega, by omega, Qn.upd hq6 hn6 nD, ?_, upd_same, by rw [List.length_append, lv]; rfl, ((tl.go (sx6.kt hq')).go kt).snoc (kt _ _ ep), ?_⟩
      · refine ⟨fun b o nb e => ?_, fun c w z e => ?_⟩
        · rw [upd_ne (ne_of_none e (nH hD))]
          exact (sx'.trans sx6).kept b o nb e
        · obtain ⟨w', z', e'⟩ := (sx'.trans sx6).cell c w z e
          exact ⟨w', z', by rw [upd_ne nD.symm]; exact e'⟩
      · intro x hx
        rcases List.mem_append.mp hx with hx | hx
        · exact br x hx
        · rw [List.mem_singleton.mp hx]
          exact bp
    · obtain ⟨t6, vs, rs, hq, l6, u6, hn6, sx6, eD, lv, tl, br⟩ := h
      exact k t6 H' D vs rs sx6 hq (by omega) (by omega) (nH hD) hn6 eD tl br (by rw [← tl.len, lv]; omega)
end Mf
namespace Mf
open PySem PySem.Spec PyProof.Rows L2
local macro_rules | `(tactic| walk_at "mf1") => `(tactic| first
  | ((with_reducible apply g_var); exact rfl)
  | with_reducible first
    | refine g_c ?_ | refine g_op ?_ | refine g_un ?_ | refine g_cb ?_ | refine g_cl ?_ | refine g_clk ?_ | refine g_nil ?_ | refine g_cons ?_
    | refine g_tB ?_ | refine g_test ?_ | refine g_bl ?_ | refine g_and ?_ | refine g_or ?_ | refine g_not ?_ | refine g_andV ?_ | refine g_orV ?_ | refine g_notV ?_
    | refine g_if ?_ | refine g_ifS ?_ | refine g_seq ?_ | refine g_next ?_ | refine g_ret ?_ | refine g_drop ?_ | refine g_asg ?_ | refine g_name ?_ | refine g_sub ?_
    | refine g_int ?_ | refine g_intB ?_ | refine g_abs ?_ | refine g_I0 ?_ | refine g_addI ?_ | refine g_U ?_ | refine g_isNn ?_ | refine g_isNi ?_ | refine g_notN ?_ | refine g_notT1 ?_ | refine g_notT2 ?_ | refine g_notT3 ?_ | refine g_notT4 ?_ | refine g_notTb ?_ | refine g_notTi ?_ | refine g_eqI ?_ | refine g_neI ?_ | refine g_neSs ?_ | refine g_neS ?_ | refine g_eqS ?_
    | refine g_iteT ?_ | refine g_iteF ?_ | refine g_iteNT ?_ | refine g_iteNF ?_ | refine g_lst ?_ | refine g_tup ?_ | refine g_seqP ?_ | refine g_sl ?_ | refine g_noPart ?_ | refine g_part ?_ | refine g_yes ?_ | refine g_thenT ?_ | refine g_consG ?_ | refine g_nilG ?_ | refine g_ii ?_ | refine g_par ?_ | refine g_par3 ?_ | refine g_vv ?_ | refine g_vvv ?_ | refine g_reprB ?_ | refine g_lcL ?_ | refine g_lcR ?_
  | ((with_reducible refine g_mod ?_ ?_); (first | omega | decide))
  | ((with_reducible refine g_div ?_ ?_ ?_); (first | omega | decide); (first | assumption | decide))
  | ((with_reducible refine g_mulL ?_ ?_ ?_); (first | omega | decide); (first | omega | decide))
  | ((with_reducible refine g_mulR ?_ ?_ ?_); (first | omega | decide); (first | omega | decide))
  | ((with_reducible refine g_pow ?_ ?_ ?_ ?_); decide; decide; (first | omega | decide))
  | dsimp only)
local macro_rules | `(tactic| walk_at "mf1s") => `(tactic| first
  | ((with_reducible apply g_var); exact rfl)
  | with_reducible first
    | refine g_c ?_ | refine g_op ?_ | refine g_un ?_ | refine g_cb ?_ | refine g_cl ?_ | refine g_clk ?_ | refine g_nil ?_ | refine g_cons ?_
    | refine g_tB ?_ | refine g_test ?_ | refine g_bl ?_ | refine g_and ?_ | refine g_or ?_ | refine g_not ?_ | refine g_andV ?_ | refine g_orV ?_ | refine g_notV ?_
    | refine g_if ?_ | refine g_ifS ?_ | refine g_next ?_ | refine g_ret ?_ | refine g_drop ?_ | refine g_asg ?_ | refine g_name ?_ | refine g_sub ?_
    | refine g_int ?_ | refine g_intB ?_ | refine g_abs ?_ | refine g_I0 ?_ | refine g_addI ?_ | refine g_U ?_ | refine g_isNn ?_ | refine g_isNi ?_ | refine g_notN ?_ | refine g_notT1 ?_ | refine g_notT2 ?_ | refine g_notT3 ?_ | refine g_notT4 ?_ | refine g_notTb ?_ | refine g_notTi ?_ | refine g_eqI ?_ | refine g_neI ?_ | refine g_neSs ?_ | refine g_neS ?_ | refine g_eqS ?_
    | refine g_iteT ?_ | refine g_iteF ?_ | refine g_iteNT ?_ | refine g_iteNF ?_ | refine g_lst ?_ | refine g_tup ?_ | refine g_seqP ?_ | refine g_sl ?_ | refine g_noPart ?_ | refine g_part ?_ | refine g_yes ?_ | refine g_thenT ?_ | refine g_consG ?_ | refine g_nilG ?_ | refine g_ii ?_ | refine g_par ?_ | refine g_par3 ?_ | refine g_vv ?_ | refine g_vvv ?_ | refine g_reprB ?_ | refine g_lcL ?_ | refine g_lcR ?_
  | ((with_reducible refine g_mod ?_ ?_); (first | omega | decide))
  | ((with_reducible refine g_div ?_ ?_ ?_); (first | omega | decide); (first | assumption | decide))
  | ((with_reducible refine g_mulL ?_ ?_ ?_); (first | omega | decide); (first | omega | decide))
  | ((with_reducible refine g_mulR ?_ ?_ ?_); (first | omega | decide); (first | omega | decide))
  | ((with_reducible refine g_pow ?_ ?_ ?_ ?_); decide; decide; (first | omega | decide))
  | dsimp only)
local macro_rules | `(tactic| walk_at "mfs") => `(tactic| repeat walk_at "mf1s")
local macro_rules | `(tactic| walk_at "mf") => `(tactic| repeat walk_at "mf1")
local macro_rules | `(tactic| walk_at "ed") => `(tactic| repeat (first
  | with_reducible first
    | exact eds_nil | apply eds_cons | exact ed_int | exact ed_bl | exact ed_non | apply ed_neg
  | ((with_reducible apply ed_str); decide)
  | ((with_reducible apply ed_var); (exact rfl); (first | assumption | exact Dq.int _))
  | ((with_reducible apply ed_dict0); assumption)
  | ((with_reducible apply ed_dict2); assumption)
  | ((with_reducible apply ed_tup); assumption)
  | ((with_reducible apply ed_lst); assumption)
  | (with_reducible apply ed_pow)
  | (with_reducible apply ed_mul)
  | assumption
  | (exact Dq.int _)
  | (exact ⟨by decide, by decide, by decide⟩)
  | (show List.length _ ≤ 1000; simp only [List.length_cons, List.length_nil]; decide)))
theorem ok_slope_of (c : Cn) (T : Tx c) : Cl c 7 "slope_of" s_slope_of ["poly"] (sp_slope c.K) := by
  obtain ⟨P, w, K, mg, base⟩ := c
  have C_multiplied := ok_multiplied _ T
  have C_read_poly := ok_read_poly _ T
  refine De.cl (N := ["poly", "numbers", "k", "number"]) T.d_slope_of sc_slope_of (fun vs H Q E h => ?_) (fun f0 cdv A outer s H vs Q E hA hr h => ?_)
  · obtain ⟨q, a, xs, ds, n, rfl, _⟩ := h; rfl
  · have S := sc_slope_of
    obtain ⟨q, a, xs, ds, n, rfl, na, ha, hd, ok, hn0, hn, ld, k⟩ := h
    refine ⟨_, (pss_cons (ps_set (i := 1) S.nd rfl (by first | exact .inl rfl | exact .inr rfl) (pe_f C_read_poly hA hr (by decide) pl_read_poly (by rfl) (pa_cons (pv 0) (pa_cons pe_str pa_nil))))
      (pss_one (ps_ret (pe_tupleOf (by rfl) T.n_tuple (pe_lc (own := [("k", 2), ("number", 3)]) (g := g2 K 2 3) rfl S.nd (pi_enumT (by rfl) T.n_enumerate (pa_cons (pv 1) pa_nil)) (blkOk_by (N := ["poly", "numbers", "k", "number"]) (sc := defScope s_slope_of) (by decide +kernel)) (fun _ _ _ _ _ => pg_tup rfl (pgs_cons (pg_name (i := 2) S.nd rfl (Or.inl rfl)) (pgs_cons (pg_name (i := 3) S.nd rfl (Or.inl rfl)) pgs_nil))) (fun _ _ _ _ _ => pts_one (pt_cmpR op_gt (pv 2) pe_int (nomark _))) (fun _ _ _ _ _ => (pe_f C_multiplied hA hr (by decide) pl_multiplied (by rfl) (pa_cons (pv 2) (pa_cons (pv 3) pa_nil))))))))), ?_⟩
    walk_at "mf"
    refine ⟨q, a, xs, ds, n, _, rfl, na, ha, hd, ok, by omega, ld, fun p1 H1 w1 s1 n1 e1 t1 => ?_⟩
    have bl : RbL n (trimR (ds.map valQ)) := RbL.trim fun r hr => by
      obtain ⟨d, hd, rfl⟩ := List.mem_map.mp hr
      obtain ⟨f1, f2, f3⟩ := ok d hd
      exact Rb.of (fr_dn f1) f2 f3
    have ll : (trimR (ds.map valQ)).length ≤ 80 := by
      have := len_trim_le (ds.map valQ)
      rw [List.length_map] at this
      omega
    generalize trimR (ds.map valQ) = rs at *
    have l1 := t1.len
    walk_at "mf"
    refine g_lcE ?_
    walk_at "mf"
    refine ⟨p1, w1, rfl, tupU e1, ?_⟩
    refine lcgo_enumT (xs := w1) (fun D m H' => Same H1 H' ∧ ∃ vs, H' D = some (.lst vs) ∧ vs.length = m - 1 ∧ TL H' vs ((slope rs).take (m - 1))) (fun x y => rfl)
      (fun D hD => ⟨same_new hD, [], upd_same, rfl, .nil⟩) (fun D m H' _ h => tupU (h.1 _ _ e1)) (fun D m x T0 H' hD hx h nT => ?_) (fun D H' hD h => ?_)
    · obtain ⟨h1, vs, h2, h3, h4⟩ := h
      obtain ⟨pn, rfl, en, _⟩ := (t1.go (Same.kt h1)).get hx
      have hm : m < rs.length := by have := (List.getElem?_eq_some_iff.mp hx).1; omega
      have sT : Same H' (upd H' T0 (.tup [.int (m : Nat), .ref pn])) := same_new nT
      generalize upd H' T0 (.tup [.int (m : Nat), .ref pn]) = Ha at *
      have h1 := h1.trans sT
      have h2 := sT _ _ h2
      have h4 := h4.go (Same.kt sT)
      have en := sT _ _ en
      walk_at "mf"
      refine g_ite (fun hc => ?_) (fun hc => ?_)
      · have hc := of_decide_eq_true hc
        obtain ⟨j, rfl⟩ : ∃ j, m = j + 1 := ⟨m - 1, by omega⟩
        walk_at "mf"
        have Fk : Fr D K Ha (.int ((j + 1 : Nat) : Int)) (((j + 1 : Nat)) : Rat) 10 := by
          have z := Fr.int (q := D) (K := K) (H := Ha) (i := ((j + 1 : Nat) : Int)) (n := 10) (by show ((j + 1 : Nat) : Int).natAbs < 2 ^ 10; rw [Int.natAbs_natCast]; omega) (by decide)
          rw [div_nat] at z
          exact z
        refine ⟨D, _, _, _, _, 10, n, rfl, Fk, fr_at h2 en (bl.co hn0 _), by omega, fun p2 Hc sc nc ec => ?_⟩
        have eD := sc _ _ h2
        have kt := upd_kt (o := .lst (vs ++ [.ref p2])) eD
        refine ⟨vs, eD, small1000 (by omega), ?_, vs ++ [.ref p2], upd_same, by rw [List.length_append, h3]; rfl, ?_⟩
        · intro c o e
          rw [upd_ne (ne_of_none e hD)]
          exact sc _ _ (h1 _ _ e)
        · show TL _ _ ((slope rs).take (j + 1))
          rw [take_snoc (get_slope hm)]
          exact ((h4.go (Same.kt sc)).go kt).snoc (kt _ _ ec)
      · have hc := of_decide_eq_false hc
        obtain rfl : m = 0 := by omega
        exact ⟨h1, vs, h2, h3, h4⟩
    · obtain ⟨h1, vs, h2, h3, h4⟩ := h
      rw [l1, ← len_slope, List.take_length] at h4
      walk_at "mf"
      refine g_tupOf (seqU h2) fun p3 H3 n3 s3 e3 => ?_
      exact k p3 H3 vs ((s1.trans h1).trans s3) ((s1.trans h1).free n3) e3 (h4.go (Same.kt s3))
theorem ok__law_slope (c : Cn) (T : Tx c) : Cl c 3 "_law_slope" s__law_slope ["row"] (sp_lslope c.K) := by
  obtain ⟨P, w, K, mg, base⟩ := c
  have C__law_times := ok__law_times _ T
  have C__law_trimmed := ok__law_trimmed _ T
  refine De.cl (N := ["row", "at", "number"]) T.d__law_slope sc__law_slope (fun vs H Q E h => ?_) (fun f0 cdv A outer s H vs Q E hA hr h => ?_)
  · obtain ⟨a, xs, rs, n, rfl, _⟩ := h; rfl
  · have S := sc__law_slope
    obtain ⟨a, xs, rs, n, rfl, ea, ta, bl, hn0, hn, lx, k⟩ := h
    refine ⟨_, (pss_one (ps_ret (pe_f C__law_trimmed hA hr (by decide) pl__law_trimmed (by rfl) (pa_cons (pe_slice sl_list (pe_lc (own := [("at", 1), ("number", 2)]) (g := g2 K 1 2) (tt := tYes) rfl S.nd (pi_enumT (by rfl) T.n_enumerate (pa_cons (pv 0) pa_nil)) (blkOk_by (N := ["row", "at", "number"]) (sc := defScope s__law_slope) (by decide +kernel)) (fun _ _ _ _ _ => pg_tup rfl (pgs_cons (pg_name (i := 1) S.nd rfl (Or.inl rfl)) (pgs_cons (pg_name (i := 2) S.nd rfl (Or.inl rfl)) pgs_nil))) (fun _ _ _ _ _ => pts_nil) (fun _ _ _ _ _ => (pe_f C__law_times hA hr (by decide) pl__law_times (by rfl) (pa_cons (pe_tup (pa_cons (pv 1) (pa_cons pe_int pa_nil))) (pa_cons (pv 2) pa_nil))))) (po_some pe_int) po_none) pa_nil)))), ?_⟩
    have l1 := ta.len
    walk_at "mf"
    refine g_lcE ?_
    walk_at "mf"
    refine ⟨a, xs, rfl, tupU ea, ?_⟩
    refine lcgo_enumT (xs := xs) (fun D m H' => Same H H' ∧ ∃ vs, H' D = some (.lst vs) ∧ vs.length = m ∧ TL H' vs ((fullS rs).take m)) (fun x y => rfl)
      (fun D hD => ⟨same_new hD, [], upd_same, rfl, .nil⟩) (fun D m H' _ h => tupU (h.1 _ _ ea)) (fun D m x T0 H' hD hx h nT => ?_) (fun D H' hD h => ?_)
    · obtain ⟨h1, vs, h2, h3, h4⟩ := h
      obtain ⟨pn, rfl, en, _⟩ := (ta.go (Same.kt h1)).get hx
      have hm : m < rs.length := by have := (List.getElem?_eq_some_iff.mp hx).1; omega
      have sT : Same H' (upd H' T0 (.tup [.int (m : Nat), .ref pn])) := same_new nT
      generalize upd H' T0 (.tup [.int (m : Nat), .ref pn]) = Ha at *
      have h1 := h1.trans sT
      have h2 := sT _ _ h2
      have h4 := h4.go (Same.kt sT)
      have en := sT _ _ en
      walk_at "mf"
      refine g_newT (by show 2 ≤ sizeLine; decide) fun p1 Hb nb sb eb => ?_
      walk_at "mf"
      refine ⟨p1, pn, (m : Rat), _, 10, n, rfl, eb, sb _ _ en, Rb_nat (by omega), bl.co hn0 _, by omega, fun p2 Hc sc nc ec => ?_⟩
      have eD := sc _ _ (sb _ _ h2)
      have kt := upd_kt (o := .lst (vs ++ [.ref p2])) eD
      refine ⟨vs, eD, small1000 (by omega), ?_, vs ++ [.ref p2], upd_same, by rw [List.length_append, h3]; rfl, ?_⟩
      · intro c o e
        rw [upd_ne (ne_of_none e hD)]
        exact sc _ _ (sb _ _ (h1 _ _ e))
      · rw [take_snoc (get_full hm)]
        exact (((h4.go (Same.kt sb)).go (Same.kt sc)).go kt).snoc (kt _ _ ec)
    · obtain ⟨h1, vs, h2, h3, h4⟩ := h
      rw [l1, ← len_full, List.take_length] at h4
      walk_at "mf"
      refine g_slL (seqU h2) fun p3 H3 n3 s3 e3 => ?_
      rw [cut_lo1] at e3
      walk_at "mf"
      refine ⟨p3, _, _, rfl, seqU e3, (h4.go (Same.kt s3)).drop 1, by rw [List.length_drop]; omega, fun p4 H4 w4 s4 n4 e4 t4 => ?_⟩
      rw [trim_eq (drop_full rs)] at t4
      exact k p4 H4 w4 ((h1.trans s3).trans s4) ((h1.trans s3).free n4) e4 t4
end Mf
namespace Mf
open PySem PySem.Spec PyProof.Rows L2
local macro_rules | `(tactic| walk_at "mf1") => `(tactic| first
  | ((with_reducible apply g_var); exact rfl)
  | with_reducible first
    | refine g_c ?_ | refine g_op ?_ | refine g_un ?_ | refine g_cb ?_ | refine g_cl ?_ | refine g_clk ?_ | refine g_nil ?_ | refine g_cons ?_
    | refine g_tB ?_ | refine g_test ?_ | refine g_bl ?_ | refine g_and ?_ | refine g_or ?_ | refine g_not ?_ | refine g_andV ?_ | refine g_orV ?_ | refine g_notV ?_
    | refine g_if ?_ | refine g_ifS ?_ | refine g_seq ?_ | refine g_next ?_ | refine g_ret ?_ | refine g_drop ?_ | refine g_asg ?_ | refine g_name ?_ | refine g_sub ?_
    | refine g_int ?_ | refine g_intB ?_ | refine g_abs ?_ | refine g_I0 ?_ | refine g_addI ?_ | refine g_U ?_ | refine g_isNn ?_ | refine g_isNi ?_ | refine g_notN ?_ | refine g_notT1 ?_ | refine g_notT2 ?_ | refine g_notT3 ?_ | refine g_notT4 ?_ | refine g_notTb ?_ | refine g_notTi ?_ | refine g_eqI ?_ | refine g_neI ?_ | refine g_neSs ?_ | refine g_neS ?_ | refine g_eqS ?_
    | refine g_iteT ?_ | refine g_iteF ?_ | refine g_iteNT ?_ | refine g_iteNF ?_ | refine g_lst ?_ | refine g_tup ?_ | refine g_seqP ?_ | refine g_sl ?_ | refine g_noPart ?_ | refine g_part ?_ | refine g_yes ?_ | refine g_thenT ?_ | refine g_consG ?_ | refine g_nilG ?_ | refine g_ii ?_ | refine g_par ?_ | refine g_par3 ?_ | refine g_vv ?_ | refine g_vvv ?_ | refine g_reprB ?_ | refine g_lcL ?_ | refine g_lcR ?_
  | ((with_reducible refine g_mod ?_ ?_); (first | omega | decide))
  | ((with_reducible refine g_div ?_ ?_ ?_); (first | omega | decide); (first | assumption | decide))
  | ((with_reducible refine g_mulL ?_ ?_ ?_); (first | omega | decide); (first | omega | decide))
  | ((with_reducible refine g_mulR ?_ ?_ ?_); (first | omega | decide); (first | omega | decide))
  | ((with_reducible refine g_pow ?_ ?_ ?_ ?_); decide; decide; (first | omega | decide))
  | dsimp only)
local macro_rules | `(tactic| walk_at "mf1s") => `(tactic| first
  | ((with_reducible apply g_var); exact rfl)
  | with_reducible first
    | refine g_c ?_ | refine g_op ?_ | refine g_un ?_ | refine g_cb ?_ | refine g_cl ?_ | refine g_clk ?_ | refine g_nil ?_ | refine g_cons ?_
    | refine g_tB ?_ | refine g_test ?_ | refine g_bl ?_ | refine g_and ?_ | refine g_or ?_ | refine g_not ?_ | refine g_andV ?_ | refine g_orV ?_ | refine g_notV ?_
    | refine g_if ?_ | refine g_ifS ?_ | refine g_next ?_ | refine g_ret ?_ | refine g_drop ?_ | refine g_asg ?_ | refine g_name ?_ | refine g_sub ?_
    | refine g_int ?_ | refine g_intB ?_ | refine g_abs ?_ | refine g_I0 ?_ | refine g_addI ?_ | refine g_U ?_ | refine g_isNn ?_ | refine g_isNi ?_ | refine g_notN ?_ | refine g_notT1 ?_ | refine g_notT2 ?_ | refine g_notT3 ?_ | refine g_notT4 ?_ | refine g_notTb ?_ | refine g_notTi ?_ | refine g_eqI ?_ | refine g_neI ?_ | refine g_neSs ?_ | refine g_neS ?_ | refine g_eqS ?_
    | refine g_iteT ?_ | refine g_iteF ?_ | refine g_iteNT ?_ | refine g_iteNF ?_ | refine g_lst ?_ | refine g_tup ?_ | refine g_seqP ?_ | refine g_sl ?_ | refine g_noPart ?_ | refine g_part ?_ | refine g_yes ?_ | refine g_thenT ?_ | refine g_consG ?_ | refine g_nilG ?_ | refine g_ii ?_ | refine g_par ?_ | refine g_par3 ?_ | refine g_vv ?_ | refine g_vvv ?_ | refine g_reprB ?_ | refine g_lcL ?_ | refine g_lcR ?_
  | ((with_reducible refine g_mod ?_ ?_); (first | omega | decide))
  | ((with_reducible refine g_div ?_ ?_ ?_); (first | omega | decide); (first | assumption | decide))
  | ((with_reducible refine g_mulL ?_ ?_ ?_); (first | omega | decide); (first | omega | decide))
  | ((with_reducible refine g_mulR ?_ ?_ ?_); (first | omega | decide); (first | omega | decide))
  | ((with_reducible refine g_pow ?_ ?_ ?_ ?_); decide; decide; (first | omega | decide))
  | dsimp only)
local macro_rules | `(tactic| walk_at "mfs") => `(tactic| repeat walk_at "mf1s")
local macro_rules | `(tactic| walk_at "mf") => `(tactic| repeat walk_at "mf1")
local macro_rules | `(tactic| walk_at "ed") => `(tactic| repeat (first
  | with_reducible first
    | exact eds_nil | apply eds_cons | exact ed_int | exact ed_bl | exact ed_non | apply ed_neg
  | ((with_reducible apply ed_str); decide)
  | ((with_reducible apply ed_var); (exact rfl); (first | assumption | exact Dq.int _))
  | ((with_reducible apply ed_dict0); assumption)
  | ((with_reducible apply ed_dict2); assumption)
  | ((with_reducible apply ed_tup); assumption)
  | ((with_reducible apply ed_lst); assumption)
  | (with_reducible apply ed_pow)
  | (with_reducible apply ed_mul)
  | assumption
  | (exact Dq.int _)
  | (exact ⟨by decide, by decide, by decide⟩)
  | (show List.length _ ≤ 1000; simp only [List.length_cons, List.length_nil]; decide)))
def ForGo (J : It) (g : TG) (tb : TS) (D : Ends) (σ : L2.St) (H1 : Hp) : Prop := ∃ W : Nat → Nat → L2.St → Hp → Prop, (∃ m, W 0 m σ H1) ∧ ∀ i m σ H, W i m σ H →
  (J.stop i H ∧ D.nx σ H) ∨ (J.go i H ∧ ∃ N : L2.St → Hp → Prop, (∀ σ' H', N σ' H' → ∃ m', m' < m ∧ W (i + 1) m' σ' H') ∧ ∀ x H', J.yld i H x H' → g x σ H' fun σ2 H2 => tb { D with nx := N, ct := N, bk := D.nx } σ2 H2)
theorem g_forRev {te : TE} {g : TG} {tb : TS} {D : Ends} {σ : L2.St} {H : Hp} (q : te σ H fun x H1 => ∃ n, x = V.int n ∧ -(2 ^ 62) ≤ (0 : Int) ∧ (0 : Int) < 2 ^ 62 ∧ -(2 ^ 62) ≤ n ∧ n < 2 ^ 62 ∧ ForGo (Itc (0 + (((n - 0).toNat : Nat) : Int) - 1) (-1) (n - 0).toNat) g tb D σ H1) : tFor (iRevR (tRg1 te)) g tb D σ H := q
theorem ok_parted (c : Cn) (T : Tx c) : Cl c 6 "parted" s_parted ["first", "second"] (sp_parted c.K) := by
  obtain ⟨P, w, K, mg, base⟩ := c
  have C_divided := ok_divided _ T
  have C_multiplied := ok_multiplied _ T
  have C_taken := ok_taken _ T
  have C_trimmed := ok_trimmed _ T
  refine De.cl (N := ["first", "second", "rest", "quotient", "shift", "share", "lower", "_", "k", "number"]) T.d_parted sc_parted (fun vs H Q E h => ?_) (fun f0 cdv A outer s H vs Q E hA hr h => ?_)
  · obtain ⟨a, b, xs, ys, f, gg, B1, rfl, _⟩ := h; rfl
  · have S := sc_parted
    obtain ⟨a, b, xs, ys, f, gg, B1, rfl, ea, eb, tf, tg, hg, hl, hB0, hB1, bg, hfit, lfx, lgx, k⟩ := h
    refine ⟨_, (pss_cons (ps_set (i := 2) S.nd rfl (by first | exact .inl rfl | exact .inr rfl) (pe_callTy call_lstOf (by rfl) T.n_list PyProof.Rows.boot_list (pa_cons (pv 0) pa_nil)))
      (pss_cons (ps_setLc (i := 3) (own := [("_", 7)]) (g := gName 7) (tt := tYes) rfl S.nd rfl rfl (sw_true rfl rfl rfl (by decide +kernel)) (pi_range1 rfl T.n_range (pa_cons (pe_op op_addU (pe_op op_sub (pe_callB call_lenU (by rfl) T.n_len PySem.boot_len (pa_cons (pv 0) pa_nil)) (pe_callB call_lenU (by rfl) T.n_len PySem.boot_len (pa_cons (pv 1) pa_nil))) pe_int) pa_nil)) (blkOk_by (N := ["first", "second", "rest", "quotient", "shift", "share", "lower", "_", "k", "number"]) (sc := defScope s_parted) (by decide +kernel)) (fun _ _ _ _ _ => pg_name (i := 7) S.nd rfl (Or.inl rfl)) (fun _ _ _ _ _ => pts_nil) (fun _ _ _ _ _ => (pe_tup (pa_cons pe_int (pa_cons pe_int pa_nil)))))
      (pss_cons (ps_for PassesOwn.never rfl (pi_revR (by rfl) T.n_reversed (prg_1 (by rfl) T.n_range (pe_callB call_lenU (by rfl) T.n_len PySem.boot_len (pa_cons (pv 3) pa_nil)))) (pg_name (i := 4) S.nd rfl (by first | exact .inl rfl | exact .inr rfl)) (pss_cons (ps_set (i := 5) S.nd rfl (by first | exact .inl rfl | exact .inr rfl) (pe_f C_divided hA hr (by decide) pl_divided (by rfl) (pa_cons (pe_ix ix_seq (pv 2) (pe_un un_neg pe_int) (fun _ _ => rfl)) (pa_cons (pe_ix ix_seq (pv 1) (pe_un un_neg pe_int) (fun _ _ => rfl)) pa_nil))))
      (pss_cons (ps_asg (pv 5) (pg_sub (pv 3) (pv 4) set_list))
      (pss_cons (ps_setLc (i := 6) (own := [("k", 8), ("number", 9)]) (g := g2 K 8 9) (tt := tYes) rfl S.nd rfl rfl (sw_true rfl rfl rfl (by decide +kernel)) (pi_enumT (by rfl) T.n_enumerate (pa_cons (pe_slice sl_tup (pv 1) po_none (po_some (pe_un un_neg pe_int))) pa_nil)) (blkOk_by (N := ["first", "second", "rest", "quotient", "shift", "share", "lower", "_", "k", "number"]) (sc := defScope s_parted) (by decide +kernel)) (fun _ _ _ _ _ => pg_tup rfl (pgs_cons (pg_name (i := 8) S.nd rfl (Or.inl rfl)) (pgs_cons (pg_name (i := 9) S.nd rfl (Or.inl rfl)) pgs_nil))) (fun _ _ _ _ _ => pts_nil) (fun _ _ _ _ _ => (pe_f C_taken hA hr (by decide) pl_taken (by rfl) (pa_cons (pe_ix (show IxR _ (rIx K) from ix_seq) (pv 2) (pe_op op_addU (pv 4) (pv 8)) (fun _ _ => rfl)) (pa_cons (pe_f C_multiplied hA hr (by decide) pl_multiplied (by rfl) (pa_cons (pv 5) (pa_cons (pv 9) pa_nil))) pa_nil)))))
      (pss_one (ps_set (i := 2) S.nd rfl (by first | exact .inl rfl | exact .inr rfl) (pe_lst (StX.pa_star (pe_slice sl_list (pv 2) po_none (po_some (pv 4))) (StX.pa_star (pv 6) pa_nil)))))))))
      (pss_one (ps_ret (pe_tup (pa_cons (pe_f C_trimmed hA hr (by decide) pl_trimmed (by rfl) (pa_cons (pv 3) pa_nil)) (pa_cons (pe_f C_trimmed hA hr (by decide) pl_trimmed (by rfl) (pa_cons (pv 2) pa_nil)) pa_nil)))))))), ?_⟩
    have lf := tf.len
    have lg := tg.len
    have g0 : 0 < gg.length := List.length_pos_iff.mpr hg
    have ysne : ys ≠ [] := fun z => by rw [z] at lg; simp at lg; omega
    generalize hN : f.length + 1 - gg.length = N at *
    walk_at "mf"
    refine g_lstOf (.inr (tupU ea)) fun R0 H0 nR s0 eR => ?_
    walk_at "mf"
    refine g_len (.inr (tupU (s0 _ _ ea))) ?_
    walk_at "mf"
    refine g_len (.inr (tupU (s0 _ _ eb))) ?_
    walk_at "mf"
    refine ⟨_, rfl, by omega, by omega, ?_⟩
    rw [show ((xs.length : Int) - (ys.length : Int) + 1).toNat = N by omega]
    refine lcgo_range (n := N) (fun D j H' => Same H0 H' ∧ ∃ vs, H' D = some (.lst vs) ∧ vs.length = j ∧ TL H' vs (List.replicate j 0)) (fun z => rfl)
      (fun D hD => ⟨same_new hD, [], upd_same, rfl, .nil⟩) (fun D j H' hD hj h => ?_) (fun D H1 hD h => ?_)
    · obtain ⟨h1, vs, h2, h3, h4⟩ := h
      walk_at "mf"
      refine g_newT (by show 2 ≤ sizeLine; decide) fun pz Hz nz sz ez => ?_
      have eD := sz _ _ h2
      have kt := upd_kt (o := .lst (vs ++ [.ref pz])) eD
      refine ⟨vs, eD, small1000 (by omega), ?_, vs ++ [.ref pz], upd_same, by rw [List.length_append, h3]; rfl, ?_⟩
      · intro c o e
        rw [upd_ne (ne_of_none e hD)]
        exact sz _ _ (h1 _ _ e)
      · rw [List.replicate_succ']
        exact ((h4.go (Same.kt sz)).go kt).snoc (r := 0) (kt _ _ ez)
    obtain ⟨h1, vq, eQ, lq, tq⟩ := h
    walk_at "mf"
    refine g_forRev ?_
    walk_at "mf"
    refine g_len (.inl (seqU eQ)) ?_
    walk_at "mf"
    refine ⟨by decide, by decide, by omega, by omega, ?_⟩
    rw [show (((vq.length : Nat) : Int) - 0).toNat = N by omega]
    have nRD : R0 ≠ D := ne_of_none eR hD
    have nD0 : H D = none := s0.free hD
    have eR1 := h1 _ _ eR
    have s01 : Same H H1 := s0.trans h1
    clear hD eR h1 s0
    refine for_itc (n := N) (fun i σ' H' => Same H H' ∧ ∃ R o4 o5 o6 rvs qvs rest qs, σ' = [some (.ref a), some (.ref b), some (.ref R), some (.ref D), o4, o5, o6, none, none, none] ∧ R ≠ D ∧ H R = none ∧ H' R = some (.lst rvs) ∧ H' D = some (.lst qvs) ∧ TL H' rvs rest ∧ TL H' qvs qs ∧ qs.length = N ∧
        (i = N ∨ rest.length + 1 = (N - i) + gg.length) ∧ rest.length ≤ 100 ∧ dfits B1 gg (N - i) rest ∧ drun gg (N - i) qs rest = drun gg N (List.replicate N 0) f)
      ⟨s01, R0, none, none, none, xs, vq, f, List.replicate N 0, rfl, nRD, nR, eR1, eQ, tf.go (Same.kt s01), tq, List.length_replicate .., by omega, lfx, hfit, rfl⟩ (fun i σ' H' hi h => ?_) (fun σ' H' h => ?_)
    · obtain ⟨sH, R, o4, o5, o6, rvs, qvs, rest, qs, rfl, nRD, nR, eR, eQ, tr, tq, lqs, hr, hr100, fit, run⟩ := h
      clear eR1 hfit
      obtain ⟨s, hs⟩ : ∃ s, N - i = s + 1 := ⟨N - i - 1, by omega⟩
      rw [hs] at fit run hr
      have hrl : rest.length = s + gg.length := by omega
      have lr := tr.len
      have lq := tq.len
      have e1 : (0 : Int) + ((N : Nat) : Int) - 1 + ((i : Nat) : Int) * -1 = (s : Int) := by omega
      rw [e1]
      obtain ⟨pl, hpl, epl⟩ := tr.at (i := rest.length - 1) (by omega)
      obtain ⟨pg, hpg, epg⟩ := (tg.go (Same.kt sH)).at (i := gg.length - 1) (by omega)
      walk_at "mf"
      refine g_ix (.inl (seqU eR)) (at_m1 (by rw [lr]; exact hpl)) ?_
      walk_at "mf"
      refine g_ix (.inr (tupU (sH _ _ eb))) (at_m1 (by rw [lg]; exact hpg)) ?_
      walk_at "mf"
      refine ⟨R, _, _, _, _, B1, B1, rfl, fr_at eR epl (fit.1.co hB0 _), fr_at eR epg (bg.co hB0 _), by omega, hl, fun ps Hs ss ns es => ?_⟩
      have es : Hs ps = some (.tup (rv (dsh gg rest))) := es
      have sHs := sH.trans ss
      have eQs := ss _ _ eQ
      have eRs := ss _ _ eR
      walk_at "mf"
      refine g_setL eQs (j := s) ?_ ?_
      · unfold ixN
        rw [if_pos (by omega), if_pos (by omega)]
        congr 1
      have kt := upd_kt (o := .lst (qvs.set s (.ref ps))) eQs
      have sHu : Same H (upd Hs D (.lst (qvs.set s (.ref ps)))) := fun c o e => by
        rw [upd_ne (ne_of_none e nD0)]
        exact sHs _ _ e
      have eRu : upd Hs D (.lst (qvs.set s (.ref ps))) R = some (.lst rvs) := by rw [upd_ne nRD]; exact eRs
      have eQu : upd Hs D (.lst (qvs.set s (.ref ps))) D = some (.lst (qvs.set s (.ref ps))) := upd_same
      have tru := (tr.go (Same.kt ss)).go kt
      have tqu := ((tq.go (Same.kt ss)).go kt).set (kt _ _ es) s
      have esu := kt _ _ es
      generalize upd Hs D (.lst (qvs.set s (.ref ps))) = Hu at *
      clear eQs eRs kt sHs ss eQ eR tr tq es epl epg
      walk_at "mf"
      refine g_lcE ?_
      walk_at "mf"
      refine g_slTm1 (tupU (sHu _ _ eb)) ysne fun pt Ht nt st et => ?_
      walk_at "mf"
      have esT := st _ _ esu
      have eRT := st _ _ eRu
      have trT := tru.go (Same.kt st)
      have tgT : TL Ht (ys.take (ys.length - 1)) (gg.take (gg.length - 1)) := by
        rw [← lg]
        exact (tg.go (Same.kt (sHu.trans st))).take _
      refine ⟨pt, _, rfl, tupU et, ?_⟩
      refine lcgo_enumT (xs := ys.take (ys.length - 1)) (fun L n H' => Same Ht H' ∧ ∃ vs, H' L = some (.lst vs) ∧ vs.length = n ∧ TL H' vs ((dlow gg rest s).take n)) (fun x y => rfl)
        (fun L hL => ⟨same_new hL, [], upd_same, rfl, .nil⟩) (fun L n H' _ h => tupU (h.1 _ _ et)) (fun L n x T0 H' hL hx h nT => ?_) (fun L H' hL h => ?_)
      · obtain ⟨h1, vs, h2, h3, h4⟩ := h
        have hn : n < gg.length - 1 := by
          have := (List.getElem?_eq_some_iff.mp hx).1
          rw [List.length_take] at this
          omega
        obtain ⟨pn, rfl, en, _⟩ := (tgT.go (Same.kt h1)).get hx
        rw [co_take hn] at en
        have sT : Same H' (upd H' T0 (.tup [.int (n : Nat), .ref pn])) := same_new nT
        generalize upd H' T0 (.tup [.int (n : Nat), .ref pn]) = Ha at *
        have h1 := h1.trans sT
        have h2 := sT _ _ h2
        have h4 := h4.go (Same.kt sT)
        have en := sT _ _ en
        obtain ⟨pr, hpr, er⟩ := (trT.go (Same.kt h1)).at (i := s + n) (by omega)
        walk_at "mf"
        refine g_ix (.inl (seqU (h1 _ _ eRT))) (at_of (j := s + n) (by omega) hpr) ?_
        walk_at "mf"
        refine ⟨L, _, _, _, _, B1, B1, rfl, fr_at h2 (h1 _ _ esT) fit.2.1, fr_at h2 en (bg.co hB0 _), by omega, fun p1 Hb sb nb eb1 => ?_⟩
        walk_at "mf"
        have h2b := sb _ _ h2
        refine ⟨L, _, _, _, _, B1, B1 + B1, rfl, fr_at h2b (sb _ _ er) (fit.1.co hB0 _), fr_at h2b eb1 ((fit.2.1.mul (bg.co hB0 n)).mono (by omega)), by omega, fun p2 Hc sc nc ec => ?_⟩
        have eL := sc _ _ h2b
        have kt := upd_kt (o := .lst (vs ++ [.ref p2])) eL
        refine ⟨vs, eL, small1000 (by omega), ?_, vs ++ [.ref p2], upd_same, by rw [List.length_append, h3]; rfl, ?_⟩
        · intro c o e
          rw [upd_ne (ne_of_none e hL)]
          exact sc _ _ (sb _ _ (h1 _ _ e))
        · rw [take_snoc (get_dlow hn)]
          exact (((h4.go (Same.kt sb)).go (Same.kt sc)).go kt).snoc (kt _ _ ec)
      · obtain ⟨h1, vs, h2, h3, h4⟩ := h
        have eRL := h1 _ _ eRT
        have trL := trT.go (Same.kt h1)
        have hl2 : (ys.take (ys.length - 1)).length = (dlow gg rest s).length := by rw [List.length_take, len_dlow]; omega
        rw [hl2, List.take_length] at h4
        rw [hl2, len_dlow] at h3
        walk_at "mf"
        refine g_star ?_
        walk_at "mf"
        refine g_slL (seqU eRL) fun p3 H3 n3 s3 e3 => ?_
        rw [cut_hi (by omega)] at e3
        refine ⟨p3, _, rfl, .inr (seqU e3), ?_⟩
        refine g_star ?_
        walk_at "mf"
        refine ⟨L, _, rfl, .inr (seqU (s3 _ _ h2)), ?_⟩
        walk_at "mf"
        rw [List.append_nil]
        refine g_newL (by rw [List.length_append, List.length_take]; exact Nat.le_of_lt (small1000 (by omega))) fun R2 H4 n4 s4 e4 => ?_
        walk_at "mf"
        have sU4 : Same Hu H4 := ((st.trans h1).trans s3).trans s4
        have eQ4 := sU4 _ _ eQu
        have nR2 : H R2 = none := sHu.free (((st.trans h1).trans s3).free n4)
        refine ⟨sHu.trans sU4, R2, _, _, _, _, _, dnext gg rest s, qs.set s (dsh gg rest), rfl, ?_, nR2, e4, eQ4, ((trL.take s).go (Same.kt (s3.trans s4))).app (h4.go (Same.kt (s3.trans s4))), tqu.go (Same.kt sU4), by rw [List.length_set]; exact lqs, ?_, ?_, ?_, ?_⟩
        · exact fun z => by
            have q1 := ((st.trans h1).trans s3) _ _ eQu
            rw [z, q1] at n4
            cases n4
        · right
          rw [len_dnext (by omega)]
          omega
        · rw [len_dnext (by omega)]
          omega
        · rw [show N - (i + 1) = s by omega]
          exact fit.2.2
        · rw [show N - (i + 1) = s by omega]
          exact run
    · obtain ⟨sH, R, o4, o5, o6, rvs, qvs, rest, qs, rfl, nRD, nR, eR, eQ, tr, tq, lqs, hr, hr100, fit, run⟩ := h
      rw [Nat.sub_self] at run
      have e1 : qs = (drun gg N (List.replicate N 0) f).1 := congrArg Prod.fst run
      have e2 : rest = (drun gg N (List.replicate N 0) f).2 := congrArg Prod.snd run
      walk_at "mf"
      refine ⟨D, qvs, qs, rfl, seqU eQ, tq, by rw [tq.len]; omega, fun p1 H2 w1 s2 n2 e2' t2 => ?_⟩
      walk_at "mf"
      refine ⟨R, rvs, rest, rfl, seqU (s2 _ _ eR), tr.go (Same.kt s2), by rw [tr.len]; omega, fun p2 H3 w2 s3 n3 e3 t3 => ?_⟩
      walk_at "mf"
      refine g_newT (by show 2 ≤ sizeLine; decide) fun p H4 n4 s4 e4 => ?_
      have ktA := Same.kt (s3.trans s4)
      rw [e1] at t2
      rw [e2] at t3
      exact k p H4 p1 p2 w1 w2 (((sH.trans s2).trans s3).trans s4) (((sH.trans s2).trans s3).free n4) e4 (ktA _ _ e2') (s4 _ _ e3) (by rw [hN]; exact t2.go ktA) (by rw [hN]; exact t3.go (Same.kt s4))
theorem ok_poly_parted (c : Cn) (T : Tx c) : Cl c 7 "poly_parted" s_poly_parted ["one", "other"] (sp_pparted c.K) := by
  obtain ⟨P, w, K, mg, base⟩ := c
  have C_parted := ok_parted _ T
  have C_read_poly := ok_read_poly _ T
  refine De.cl (N := ["one", "other", "first", "second"]) T.d_poly_parted sc_poly_parted (fun vs H Q E h => ?_) (fun f0 cdv A outer s H vs Q E hA hr h => ?_)
  · obtain ⟨q, a, b, xs, ys, ds, es, n, f, gg, B1, rfl, _⟩ := h; rfl
  · have S := sc_poly_parted
    obtain ⟨q, a, b, xs, ys, ds, es, n, f, gg, B1, rfl, na, nb, ha, hb, hd, he, okd, oke, hn, ld, le, rfl, rfl, hg, hB0, hB1, bg, hfit, k⟩ := h
    refine ⟨_, (pss_cons (ps_par (i := 2) (j := 3) (by rfl) S.nd rfl rfl (by decide) rfl rfl (pa_cons (pe_f C_read_poly hA hr (by decide) pl_read_poly (by rfl) (pa_cons (pv 0) (pa_cons pe_str pa_nil))) (pa_cons (pe_f C_read_poly hA hr (by decide) pl_read_poly (by rfl) (pa_cons (pv 1) (pa_cons pe_str pa_nil))) pa_nil)) (by rfl))
      (pss_cons (ps_if (pt_not (pt_truth (pv 3) (fun _ => rfl))) (pss_one ps_never) pss_nil)
      (pss_one (ps_ret (pe_f C_parted hA hr (by decide) pl_parted (by rfl) (pa_cons (pv 2) (pa_cons (pv 3) pa_nil))))))), ?_⟩
    walk_at "mf"
    refine ⟨q, a, xs, ds, n, _, rfl, na, ha, hd, okd, hn, ld, fun p1 H1 w1 s1 n1 e1 t1 => ?_⟩
    walk_at "mf"
    refine ⟨q, b, ys, es, n, _, rfl, nb, hb.go (Same.x s1) nb, he.go (Same.x s1), oke, hn, le, fun p2 H2 w2 s2 n2 e2 t2 => ?_⟩
    walk_at "mf"
    have w2ne : w2 ≠ [] := fun z => by rw [z] at t2; exact hg t2.nil_of
    refine ⟨true, .inr (.inl ⟨w2, tupU e2, by cases w2 with | nil => exact absurd rfl w2ne | cons _ _ => rfl⟩), ?_⟩
    walk_at "mf"
    refine ⟨p1, p2, w1, w2, _, _, B1, rfl, s2 _ _ e1, e2, t1.go (Same.kt s2), t2, hg, tr_trim _ hg, hB0, hB1, bg, hfit, ?_, ?_, fun p H' q1 q2 v1 v2 s nn e x1 x2 t1 t2 => ?_⟩
    · have := len_trim_le (ds.map valQ)
      rw [List.length_map] at this
      omega
    · have := len_trim_le (es.map valQ)
      rw [List.length_map] at this
      omega
    · exact k p H' q1 q2 v1 v2 ((s1.trans s2).trans s) ((s1.trans s2).free nn) e x1 x2 t1 t2
end Mf
namespace Mf
open PySem PySem.Spec PyProof.Rows L2
local macro_rules | `(tactic| walk_at "mf1") => `(tactic| first
  | ((with_reducible apply g_var); exact rfl)
  | with_reducible first
    | refine g_c ?_ | refine g_op ?_ | refine g_un ?_ | refine g_cb ?_ | refine g_cl ?_ | refine g_clk ?_ | refine g_nil ?_ | refine g_cons ?_
    | refine g_tB ?_ | refine g_test ?_ | refine g_bl ?_ | refine g_and ?_ | refine g_or ?_ | refine g_not ?_ | refine g_andV ?_ | refine g_orV ?_ | refine g_notV ?_
    | refine g_if ?_ | refine g_ifS ?_ | refine g_seq ?_ | refine g_next ?_ | refine g_ret ?_ | refine g_drop ?_ | refine g_asg ?_ | refine g_name ?_ | refine g_sub ?_
    | refine g_int ?_ | refine g_intB ?_ | refine g_abs ?_ | refine g_I0 ?_ | refine g_addI ?_ | refine g_U ?_ | refine g_isNn ?_ | refine g_isNi ?_ | refine g_notN ?_ | refine g_notT1 ?_ | refine g_notT2 ?_ | refine g_notT3 ?_ | refine g_notT4 ?_ | refine g_notTb ?_ | refine g_notTi ?_ | refine g_eqI ?_ | refine g_neI ?_ | refine g_neSs ?_ | refine g_neS ?_ | refine g_eqS ?_
    | refine g_iteT ?_ | refine g_iteF ?_ | refine g_iteNT ?_ | refine g_iteNF ?_ | refine g_lst ?_ | refine g_tup ?_ | refine g_seqP ?_ | refine g_sl ?_ | refine g_noPart ?_ | refine g_part ?_ | refine g_yes ?_ | refine g_thenT ?_ | refine g_consG ?_ | refine g_nilG ?_ | refine g_ii ?_ | refine g_par ?_ | refine g_par3 ?_ | refine g_vv ?_ | refine g_vvv ?_ | refine g_reprB ?_ | refine g_lcL ?_ | refine g_lcR ?_
  | ((with_reducible refine g_mod ?_ ?_); (first | omega | decide))
  | ((with_reducible refine g_div ?_ ?_ ?_); (first | omega | decide); (first | assumption | decide))
  | ((with_reducible refine g_mulL ?_ ?_ ?_); (first | omega | decide); (first | omega | decide))
  | ((with_reducible refine g_mulR ?_ ?_ ?_); (first | omega | decide); (first | omega | decide))
  | ((with_reducible refine g_pow ?_ ?_ ?_ ?_); decide; decide; (first | omega | decide))
  | dsimp only)
local macro_rules | `(tactic| walk_at "mf1s") => `(tactic| first
  | ((with_reducible apply g_var); exact rfl)
  | with_reducible first
    | refine g_c ?_ | refine g_op ?_ | refine g_un ?_ | refine g_cb ?_ | refine g_cl ?_ | refine g_clk ?_ | refine g_nil ?_ | refine g_cons ?_
    | refine g_tB ?_ | refine g_test ?_ | refine g_bl ?_ | refine g_and ?_ | refine g_or ?_ | refine g_not ?_ | refine g_andV ?_ | refine g_orV ?_ | refine g_notV ?_
    | refine g_if ?_ | refine g_ifS ?_ | refine g_next ?_ | refine g_ret ?_ | refine g_drop ?_ | refine g_asg ?_ | refine g_name ?_ | refine g_sub ?_
    | refine g_int ?_ | refine g_intB ?_ | refine g_abs ?_ | refine g_I0 ?_ | refine g_addI ?_ | refine g_U ?_ | refine g_isNn ?_ | refine g_isNi ?_ | refine g_notN ?_ | refine g_notT1 ?_ | refine g_notT2 ?_ | refine g_notT3 ?_ | refine g_notT4 ?_ | refine g_notTb ?_ | refine g_notTi ?_ | refine g_eqI ?_ | refine g_neI ?_ | refine g_neSs ?_ | refine g_neS ?_ | refine g_eqS ?_
    | refine g_iteT ?_ | refine g_iteF ?_ | refine g_iteNT ?_ | refine g_iteNF ?_ | refine g_lst ?_ | refine g_tup ?_ | refine g_seqP ?_ | refine g_sl ?_ | refine g_noPart ?_ | refine g_part ?_ | refine g_yes ?_ | refine g_thenT ?_ | refine g_consG ?_ | refine g_nilG ?_ | refine g_ii ?_ | refine g_par ?_ | refine g_par3 ?_ | refine g_vv ?_ | refine g_vvv ?_ | refine g_reprB ?_ | refine g_lcL ?_ | refine g_lcR ?_
  | ((with_reducible refine g_mod ?_ ?_); (first | omega | decide))
  | ((with_reducible refine g_div ?_ ?_ ?_); (first | omega | decide); (first | assumption | decide))
  | ((with_reducible refine g_mulL ?_ ?_ ?_); (first | omega | decide); (first | omega | decide))
  | ((with_reducible refine g_mulR ?_ ?_ ?_); (first | omega | decide); (first | omega | decide))
  | ((with_reducible refine g_pow ?_ ?_ ?_ ?_); decide; decide; (first | omega | decide))
  | dsimp only)
local macro_rules | `(tactic| walk_at "mfs") => `(tactic| repeat walk_at "mf1s")
local macro_rules | `(tactic| walk_at "mf") => `(tactic| repeat walk_at "mf1")
local macro_rules | `(tactic| walk_at "ed") => `(tactic| repeat (first
  | with_reducible first
    | exact eds_nil | apply eds_cons | exact ed_int | exact ed_bl | exact ed_non | apply ed_neg
  | ((with_reducible apply ed_str); decide)
  | ((with_reducible apply ed_var); (exact rfl); (first | assumption | exact Dq.int _))
  | ((with_reducible apply ed_dict0); assumption)
  | ((with_reducible apply ed_dict2); assumption)
  | ((with_reducible apply ed_tup); assumption)
  | ((with_reducible apply ed_lst); assumption)
  | (with_reducible apply ed_pow)
  | (with_reducible apply ed_mul)
  | assumption
  | (exact Dq.int _)
  | (exact ⟨by decide, by decide, by decide⟩)
  | (show List.length _ ≤ 1000; simp only [List.length_cons, List.length_nil]; decide)))

end Mf
namespace Mf
open PySem PySem.Spec PyProof.Rows L2
local macro_rules | `(tactic| walk_at "mf1") => `(tactic| first
  | ((with_reducible apply g_var); exact rfl)
  | with_reducible first
    | refine g_c ?_ | refine g_op ?_ | refine g_un ?_ | refine g_cb ?_ | refine g_cl ?_ | refine g_clk ?_ | refine g_nil ?_ | refine g_cons ?_
    | refine g_tB ?_ | refine g_test ?_ | refine g_bl ?_ | refine g_and ?_ | refine g_or ?_ | refine g_not ?_ | refine g_andV ?_ | refine g_orV ?_ | refine g_notV ?_
    | refine g_if ?_ | refine g_ifS ?_ | refine g_seq ?_ | refine g_next ?_ | refine g_ret ?_ | refine g_drop ?_ | refine g_asg ?_ | refine g_name ?_ | refine g_sub ?_
    | refine g_int ?_ | refine g_intB ?_ | refine g_abs ?_ | refine g_I0 ?_ | refine g_addI ?_ | refine g_U ?_ | refine g_isNn ?_ | refine g_isNi ?_ | refine g_notN ?_ | refine g_notT1 ?_ | refine g_notT2 ?_ | refine g_notT3 ?_ | refine g_notT4 ?_ | refine g_notTb ?_ | refine g_notTi ?_ | refine g_eqI ?_ | refine g_neI ?_ | refine g_neSs ?_ | refine g_neS ?_ | refine g_eqS ?_
    | refine g_iteT ?_ | refine g_iteF ?_ | refine g_iteNT ?_ | refine g_iteNF ?_ | refine g_lst ?_ | refine g_tup ?_ | refine g_seqP ?_ | refine g_sl ?_ | refine g_noPart ?_ | refine g_part ?_ | refine g_yes ?_ | refine g_thenT ?_ | refine g_consG ?_ | refine g_nilG ?_ | refine g_ii ?_ | refine g_par ?_ | refine g_par3 ?_ | refine g_vv ?_ | refine g_vvv ?_ | refine g_reprB ?_ | refine g_lcL ?_ | refine g_lcR ?_
  | ((with_reducible refine g_mod ?_ ?_); (first | omega | decide))
  | ((with_reducible refine g_div ?_ ?_ ?_); (first | omega | decide); (first | assumption | decide))
  | ((with_reducible refine g_mulL ?_ ?_ ?_); (first | omega | decide); (first | omega | decide))
  | ((with_reducible refine g_mulR ?_ ?_ ?_); (first | omega | decide); (first | omega | decide))
  | ((with_reducible refine g_pow ?_ ?_ ?_ ?_); decide; decide; (first | omega | decide))
  | dsimp only)
local macro_rules | `(tactic| walk_at "mf1s") => `(tactic| first
  | ((with_reducible apply g_var); exact rfl)
  | with_reducible first
    | refine g_c ?_ | refine g_op ?_ | refine g_un ?_ | refine g_cb ?_ | refine g_cl ?_ | refine g_clk ?_ | refine g_nil ?_ | refine g_cons ?_
    | refine g_tB ?_ | refine g_test ?_ | refine g_bl ?_ | refine g_and ?_ | refine g_or ?_ | refine g_not ?_ | refine g_andV ?_ | refine g_orV ?_ | refine g_notV ?_
    | refine g_if ?_ | refine g_ifS ?_ | refine g_next ?_ | refine g_ret ?_ | refine g_drop ?_ | refine g_asg ?_ | refine g_name ?_ | refine g_sub ?_
    | refine g_int ?_ | refine g_intB ?_ | refine g_abs ?_ | refine g_I0 ?_ | refine g_addI ?_ | refine g_U ?_ | refine g_isNn ?_ | refine g_isNi ?_ | refine g_notN ?_ | refine g_notT1 ?_ | refine g_notT2 ?_ | refine g_notT3 ?_ | refine g_notT4 ?_ | refine g_notTb ?_ | refine g_notTi ?_ | refine g_eqI ?_ | refine g_neI ?_ | refine g_neSs ?_ | refine g_neS ?_ | refine g_eqS ?_
    | refine g_iteT ?_ | refine g_iteF ?_ | refine g_iteNT ?_ | refine g_iteNF ?_ | refine g_lst ?_ | refine g_tup ?_ | refine g_seqP ?_ | refine g_sl ?_ | refine g_noPart ?_ | refine g_part ?_ | refine g_yes ?_ | refine g_thenT ?_ | refine g_consG ?_ | refine g_nilG ?_ | refine g_ii ?_ | refine g_par ?_ | refine g_par3 ?_ | refine g_vv ?_ | refine g_vvv ?_ | refine g_reprB ?_ | refine g_lcL ?_ | refine g_lcR ?_
  | ((with_reducible refine g_mod ?_ ?_); (first | omega | decide))
  | ((with_reducible refine g_div ?_ ?_ ?_); (first | omega | decide); (first | assumption | decide))
  | ((with_reducible refine g_mulL ?_ ?_ ?_); (first | omega | decide); (first | omega | decide))
  | ((with_reducible refine g_mulR ?_ ?_ ?_); (first | omega | decide); (first | omega | decide))
  | ((with_reducible refine g_pow ?_ ?_ ?_ ?_); decide; decide; (first | omega | decide))
  | dsimp only)
local macro_rules | `(tactic| walk_at "mfs") => `(tactic| repeat walk_at "mf1s")
local macro_rules | `(tactic| walk_at "mf") => `(tactic| repeat walk_at "mf1")
local macro_rules | `(tactic| walk_at "ed") => `(tactic| repeat (first
  | with_reducible first
    | exact eds_nil | apply eds_cons | exact ed_int | exact ed_bl | exact ed_non | apply ed_neg
  | ((with_reducible apply ed_str); decide)
  | ((with_reducible apply ed_var); (exact rfl); (first | assumption | exact Dq.int _))
  | ((with_reducible apply ed_dict0); assumption)
  | ((with_reducible apply ed_dict2); assumption)
  | ((with_reducible apply ed_tup); assumption)
  | ((with_reducible apply ed_lst); assumption)
  | (with_reducible apply ed_pow)
  | (with_reducible apply ed_mul)
  | assumption
  | (exact Dq.int _)
  | (exact ⟨by decide, by decide, by decide⟩)
  | (show List.length _ ≤ 1000; simp only [List.length_cons, List.length_nil]; decide)))
def sp_law (K : PySem.W.Frag) : Sp := fun vs H Q _ => ∃ (a : Addr) (ns : List Int), vs = [.ref a] ∧ SqL K H a (ns.map V.int) ∧ ns.length ≤ 63 ∧ ∀ H', Q (.bl true) H'
theorem ok_law (c : Cn) (T : Tx c) : Cl c 8 "law" s_law ["script"] (sp_law c.K) := by
  obtain ⟨P, w, K, mg, base⟩ := c
  have C__law_as := ok__law_as _ T
  have C__law_barrel := ok__law_barrel _ T
  have C__law_cellar := ok__law_cellar _ T
  have C__law_low := ok__law_low _ T
  have C__law_product := ok__law_product _ T
  have C__law_row := ok__law_row _ T
  have C__law_slope := ok__law_slope _ T
  have C__law_sum := ok__law_sum _ T
  have C__law_trimmed := ok__law_trimmed _ T
  have C_poly_parted := ok_poly_parted _ T
  have C_slope_of := ok_slope_of _ T
  refine De.cl (N := ["script", "cellar", "turn", "one", "other", "told", "rest", "whole", "both", "number", "part"]) T.d_law sc_law (fun vs H Q E h => ?_) (fun f0 cdv A outer s H vs Q E hA hr h => ?_)
  · obtain ⟨a, ns, rfl, _⟩ := h; rfl
  · have S := sc_law
    obtain ⟨a, ns, rfl, hS, hlen, k⟩ := h
    refine ⟨_, (pss_cons (ps_set (i := 1) S.nd rfl (by first | exact .inl rfl | exact .inr rfl) (pe_f C__law_cellar hA hr (by decide) pl__law_cellar (by rfl) (pa_cons (pv 0) pa_nil)))
      (pss_cons (ps_for PassesOwn.never rfl (pi_range1 rfl T.n_range (pa_cons pe_int pa_nil)) (pg_name (i := 2) S.nd rfl (by first | exact .inl rfl | exact .inr rfl)) (pss_cons (ps_par (i := 3) (j := 4) (by rfl) S.nd rfl rfl (by decide) rfl rfl (pa_cons (pe_f C__law_trimmed hA hr (by decide) pl__law_trimmed (by rfl) (pa_cons (pe_f C__law_row hA hr (by decide) pl__law_row (by rfl) (pa_cons (pv 1) (pa_cons pe_int pa_nil))) pa_nil)) (pa_cons (pe_f C__law_trimmed hA hr (by decide) pl__law_trimmed (by rfl) (pa_cons (pe_f C__law_row hA hr (by decide) pl__law_row (by rfl) (pa_cons (pv 1) (pa_cons pe_int pa_nil))) pa_nil)) pa_nil)) (by rfl))
      (pss_cons (ps_set (i := 4) S.nd rfl (by first | exact .inl rfl | exact .inr rfl) (pe_ifExp (pt_cmpR (op_neU hr.units) (pv 4) (pe_tup pa_nil) (nomark _)) (pv 4) (pe_tup (pa_cons (pe_f C__law_low hA hr (by decide) pl__law_low (by rfl) (pa_cons (pe_op op_addU pe_int (pe_f C__law_barrel hA hr (by decide) pl__law_barrel (by rfl) (pa_cons (pv 1) (pa_cons pe_int pa_nil)))) (pa_cons pe_int pa_nil))) pa_nil))))
      (pss_cons (ps_set (i := 5) S.nd rfl (by first | exact .inl rfl | exact .inr rfl) (pe_fm C_poly_parted hA hr (by decide) pm_poly_parted (by rfl) (pa_cons (pe_lc (own := [("number", 9)]) (g := gName 9) (tt := tYes) rfl S.nd (pi_tup (pv 3)) (blkOk_by (N := ["script", "cellar", "turn", "one", "other", "told", "rest", "whole", "both", "number", "part"]) (sc := defScope s_law) (by decide +kernel)) (fun _ _ _ _ _ => pg_name (i := 9) S.nd rfl (Or.inl rfl)) (fun _ _ _ _ _ => pts_nil) (fun _ _ _ _ _ => (pe_f C__law_as hA hr (by decide) pl__law_as (by rfl) (pa_cons (pv 1) (pa_cons (pv 9) pa_nil))))) pa_nil) (pk_cons (pe_op op_addU (pe_callTy call_lstOf (by rfl) T.n_list PyProof.Rows.boot_list (pa_cons (pv 4) pa_nil)) (pe_lst (pa_cons pe_int pa_nil))) pk_nil)))
      (pss_cons (ps_if (PW.pt (pw_or (pt_not (pt_val (pe_callB call_isi (by rfl) T.n_isinstance (show bootBuiltins "isinstance" = some (.builtin "isinstance") by decide +kernel) (pa_cons (pv 5) (pa_cons (pe_bltn (v := .ty "tuple") (by rfl) T.n_tuple (show bootBuiltins "tuple" = some (.type "tuple") by decide +kernel) rfl) pa_nil))))) (pw_or (pt_cmpR (op_neU hr.units) (pe_callB call_lenU (by rfl) T.n_len PySem.boot_len (pa_cons (pv 5) pa_nil)) pe_int (nomark _)) (pw_or1 (pt_cmpR op_ge (pe_callB call_lenU (by rfl) T.n_len PySem.boot_len (pa_cons (pe_ix ix_seq (pv 5) pe_int (fun _ _ => rfl)) pa_nil)) (pe_callB call_lenU (by rfl) T.n_len PySem.boot_len (pa_cons (pv 4) pa_nil)) (nomark _)))))) (pss_one (ps_ret pe_bl)) pss_nil)
      (pss_cons (ps_if (PW.pt (pw_or (pt_cmpR (op_neU hr.units) (pe_callB (call_reprU hA hr.units) (by rfl) T.n_repr (show bootBuiltins "repr" = some (.builtin "repr") by decide +kernel) (pa_cons (pe_f C__law_sum hA hr (by decide) pl__law_sum (by rfl) (pa_cons (pe_f C__law_product hA hr (by decide) pl__law_product (by rfl) (pa_cons (pe_ix ix_seq (pv 5) pe_int (fun _ _ => rfl)) (pa_cons (pv 4) pa_nil))) (pa_cons (pe_ix ix_seq (pv 5) pe_int (fun _ _ => rfl)) pa_nil))) pa_nil)) (pe_callB (call_reprU hA hr.units) (by rfl) T.n_repr (show bootBuiltins "repr" = some (.builtin "repr") by decide +kernel) (pa_cons (pv 3) pa_nil)) (nomark _)) (pw_or1 (pt_cmpR (op_neU hr.units) (pv 5) (pe_fk (g := id) (gV := id) C_poly_parted hA hr (by decide) pki_poly_parted (fun r _ => r) (fun _ e => e) (by rfl) (pk_cons (pv 3) (pk_cons (pv 4) pk_nil))) (nomark _))))) (pss_one (ps_ret pe_bl)) pss_nil)
      (pss_cons (ps_if (pt_cmpR (op_neU hr.units) (pe_callB (call_reprU hA hr.units) (by rfl) T.n_repr (show bootBuiltins "repr" = some (.builtin "repr") by decide +kernel) (pa_cons (pe_lc (own := [("part", 10)]) (g := gName 10) (tt := tYes) rfl S.nd (pi_tup (pv 5)) (blkOk_by (N := ["script", "cellar", "turn", "one", "other", "told", "rest", "whole", "both", "number", "part"]) (sc := defScope s_law) (by decide +kernel)) (fun _ _ _ _ _ => pg_name (i := 10) S.nd rfl (Or.inl rfl)) (fun _ _ _ _ _ => pts_nil) (fun _ _ _ _ _ => (pe_f C__law_trimmed hA hr (by decide) pl__law_trimmed (by rfl) (pa_cons (pe_callTy (show CallR _ (.type "list") (rLstOf K) from call_lstOf) (by rfl) T.n_list PyProof.Rows.boot_list (pa_cons (pv 10) pa_nil)) pa_nil)))) pa_nil)) (pe_callB (call_reprU hA hr.units) (by rfl) T.n_repr (show bootBuiltins "repr" = some (.builtin "repr") by decide +kernel) (pa_cons (pe_callTy call_lstOf (by rfl) T.n_list PyProof.Rows.boot_list (pa_cons (pv 5) pa_nil)) pa_nil)) (nomark _)) (pss_one (ps_ret pe_bl)) pss_nil)
      (pss_cons (ps_set (i := 6) S.nd rfl (by first | exact .inl rfl | exact .inr rfl) (pe_f C__law_trimmed hA hr (by decide) pl__law_trimmed (by rfl) (pa_cons (pe_f C__law_row hA hr (by decide) pl__law_row (by rfl) (pa_cons (pv 1) (pa_cons (pe_op op_sub (pe_callB call_lenU (by rfl) T.n_len PySem.boot_len (pa_cons (pv 4) pa_nil)) pe_int) pa_nil))) pa_nil)))
      (pss_cons (ps_set (i := 7) S.nd rfl (by first | exact .inl rfl | exact .inr rfl) (pe_f C__law_sum hA hr (by decide) pl__law_sum (by rfl) (pa_cons (pe_f C__law_product hA hr (by decide) pl__law_product (by rfl) (pa_cons (pv 3) (pa_cons (pv 4) pa_nil))) (pa_cons (pv 6) pa_nil))))
      (pss_cons (ps_if (pt_cmpR (op_neU hr.units) (pe_callB (call_reprU hA hr.units) (by rfl) T.n_repr (show bootBuiltins "repr" = some (.builtin "repr") by decide +kernel) (pa_cons (pe_f C_poly_parted hA hr (by decide) pl_poly_parted (by rfl) (pa_cons (pv 7) (pa_cons (pv 4) pa_nil))) pa_nil)) (pe_callB (call_reprU hA hr.units) (by rfl) T.n_repr (show bootBuiltins "repr" = some (.builtin "repr") by decide +kernel) (pa_cons (pe_tup (pa_cons (pv 3) (pa_cons (pv 6) pa_nil))) pa_nil)) (nomark _)) (pss_one (ps_ret pe_bl)) pss_nil)
      (pss_cons (ps_if (pt_cmpR (op_neU hr.units) (pe_callB (call_reprU hA hr.units) (by rfl) T.n_repr (show bootBuiltins "repr" = some (.builtin "repr") by decide +kernel) (pa_cons (pe_fk C_slope_of hA hr (by decide) pk_slope_of relR (lenR rfl) (by rfl) (pk_cons (pe_lc (own := [("number", 9)]) (g := gName 9) (tt := tYes) rfl S.nd (pi_tup (pv 3)) (blkOk_by (N := ["script", "cellar", "turn", "one", "other", "told", "rest", "whole", "both", "number", "part"]) (sc := defScope s_law) (by decide +kernel)) (fun _ _ _ _ _ => pg_name (i := 9) S.nd rfl (Or.inl rfl)) (fun _ _ _ _ _ => pts_nil) (fun _ _ _ _ _ => (pe_f C__law_as hA hr (by decide) pl__law_as (by rfl) (pa_cons (pv 1) (pa_cons (pv 9) pa_nil))))) pk_nil)) pa_nil)) (pe_callB (call_reprU hA hr.units) (by rfl) T.n_repr (show bootBuiltins "repr" = some (.builtin "repr") by decide +kernel) (pa_cons (pe_f C__law_slope hA hr (by decide) pl__law_slope (by rfl) (pa_cons (pv 3) pa_nil)) pa_nil)) (nomark _)) (pss_one (ps_ret pe_bl)) pss_nil)
      (pss_cons (ps_set (i := 8) S.nd rfl (by first | exact .inl rfl | exact .inr rfl) (pe_f C__law_sum hA hr (by decide) pl__law_sum (by rfl) (pa_cons (pe_f C__law_product hA hr (by decide) pl__law_product (by rfl) (pa_cons (pe_f C__law_slope hA hr (by decide) pl__law_slope (by rfl) (pa_cons (pv 3) pa_nil)) (pa_cons (pv 4) pa_nil))) (pa_cons (pe_f C__law_product hA hr (by decide) pl__law_product (by rfl) (pa_cons (pv 3) (pa_cons (pe_f C__law_slope hA hr (by decide) pl__law_slope (by rfl) (pa_cons (pv 4) pa_nil)) pa_nil))) pa_nil))))
      (pss_one (ps_if (pt_cmpR (op_neU hr.units) (pe_callB (call_reprU hA hr.units) (by rfl) T.n_repr (show bootBuiltins "repr" = some (.builtin "repr") by decide +kernel) (pa_cons (pe_f C_slope_of hA hr (by decide) pl_slope_of (by rfl) (pa_cons (pe_f C__law_product hA hr (by decide) pl__law_product (by rfl) (pa_cons (pv 3) (pa_cons (pv 4) pa_nil))) pa_nil)) pa_nil)) (pe_callB (call_reprU hA hr.units) (by rfl) T.n_repr (show bootBuiltins "repr" = some (.builtin "repr") by decide +kernel) (pa_cons (pv 8) pa_nil)) (nomark _)) (pss_one (ps_ret pe_bl)) pss_nil))))))))))))))
      (pss_one (ps_ret (pe_and (pe_cmpR (op_eqU hr.units) (pe_f C_poly_parted hA hr (by decide) pl_poly_parted (by rfl) (pa_cons (pe_tup pa_nil) (pa_cons (pe_lst (pa_cons pe_int pa_nil)) pa_nil))) (pe_tup (pa_cons (pe_tup pa_nil) (pa_cons (pe_tup pa_nil) pa_nil))) (nomark _)) (pe_one (pe_cmpR (op_eqU hr.units) (pe_f C_poly_parted hA hr (by decide) pl_poly_parted (by rfl) (pa_cons (pe_lst (pa_cons pe_int pa_nil)) (pa_cons (pe_lst (pa_cons pe_int (pa_cons pe_int (pa_cons pe_int pa_nil)))) pa_nil))) (pe_tup (pa_cons (pe_tup pa_nil) (pa_cons (pe_tup (pa_cons (pe_tup (pa_cons pe_int (pa_cons pe_int pa_nil))) pa_nil)) pa_nil))) (nomark _)))))))), ?_⟩
    refine g_seq (g_asg ?_)
    walk_at "mf"
    refine ⟨a, ns, rfl, hS, hlen, fun q H1 s1 hq0 hq => ?_⟩
    refine g_name (g_seq ?_)
    refine g_for1 ⟨by decide, by decide⟩ (fun i σ' H' => (∃ s2 s3 s4 s5 s6 s7 s8, σ' = [some (.ref a), some (.ref q), s2, s3, s4, s5, s6, s7, s8, none, none]) ∧ ∃ t, Qy K q t H' ∧ t ≤ 400 * (i : Int)) ⟨⟨_, _, _, _, _, _, _, rfl⟩, 0, hq, by omega⟩ (fun i σ' H' hi hP => ?_) (fun σ' H' hP => ?_)
    · obtain ⟨⟨s2, s3, s4, s5, s6, s7, s8, rfl⟩, t, hq, ht⟩ := hP
      have hi8 : i < 3 := hi
      clear hS hlen s1 hq0
      -- one, other
      refine g_seq ?_
      walk_at "mfs"
      refine ⟨q, t, 9, rfl, hq, by omega, by decide, by decide, fun t1 H1 p1 v1 r1 sx1 hq1 l1 u1 n1 qn1 e1 tl1 b1 len1 => ?_⟩
      walk_at "mfs"
      refine ⟨p1, v1, r1, rfl, seqU e1, tl1, by rw [tl1.len]; omega, fun pO H2 wO s2 n2 eO tO => ?_⟩
      have hq2 := hq1.same s2
      walk_at "mfs"
      refine ⟨q, t1, 4, rfl, hq2, by omega, by decide, by decide, fun t3 H3 p3 v3 r3 sx3 hq3 l3 u3 n3 qn3 e3 tl3 b3 len3 => ?_⟩
      have kx := sx3.kt hq2
      have eO := kx _ _ eO
      have tO := tO.go kx
      walk_at "mfs"
      refine ⟨p3, v3, r3, rfl, seqU e3, tl3, by rw [tl3.len]; omega, fun pP H4 wP s4 n4 eP tP => ?_⟩
      have kx := Same.kt s4
      have eO := kx _ _ eO
      have tO := tO.go kx
      have hq4 := hq3.same s4
      have bO : RbL 12 (trimR r1) := b1.trim
      have bP : RbL 12 (trimR r3) := b3.trim
      have lO : (trimR r1).length ≤ 9 := by have := len_trim_le r1; omega
      have lP : (trimR r3).length ≤ 4 := by have := len_trim_le r3; omega
      have trO := tr_trim r1
      have trP := tr_trim r3
      generalize trimR r1 = one at *
      generalize trimR r3 = oth at *
      clear kx e1 tl1 n1 qn1 e3 tl3 n3 qn3 n2 n4 sx1 sx3 s2 s4 b1 b3 len1 len3 hq1 hq2 hq3 hq
      walk_at "mfs"
      -- other, never ()
      refine g_seq (g_asg ?_)
      refine cut_P (fun v H' => ∃ p w rs t', v = .ref p ∧ KeepT H4 H' ∧ Qy K q t' H' ∧ t' ≤ t3 + 1 ∧ t3 ≤ t' ∧ H' p = some (.tup w) ∧ TL H' w rs ∧ RbL 12 rs ∧ rs ≠ [] ∧ Tr rs ∧ rs.length ≤ 4) (fun Q' k' => ?_) (fun v H5 hv => ?_)
      · walk_at "mfs"
        refine g_newT (by show 0 ≤ sizeLine; decide) fun pn Hn nn sn en => ?_
        walk_at "mfs"
        refine g_neNilT (tupU (sn _ _ eP)) (tP.go (Same.kt sn)) (tupU en) ?_
        walk_at "mfs"
        refine g_ite (fun hc => ?_) (fun hc => ?_)
        · walk_at "mfs"
          exact k' _ _ ⟨pP, wP, oth, t3, rfl, Same.kt sn, hq4.same sn, by omega, by omega, sn _ _ eP, tP.go (Same.kt sn), bP, (fun z => by (rw [z] at hc; cases hc)), trP, lP⟩
        · walk_at "mfs"
          refine ⟨q, t3, _, rfl, hq4.same sn, by omega, by decide, by decide, fun t5 H5 j sx5 hq5 l5 u5 j0 j1 => ?_⟩
          walk_at "mfs"
          have hD : Bt 11 (1 + j) := by show (1 + j).natAbs < 2 ^ 11; omega
          refine ⟨1 + j, 7, rfl, by decide, by show (7 : Int).natAbs < 2 ^ 8000; exact Nat.lt_of_lt_of_le (by decide : (7 : Int).natAbs < 2 ^ 3) (Nat.pow_le_pow_right (by decide) (by decide)), fun pr H6 s6 n6 e6 => ?_⟩
          walk_at "mfs"
          refine g_newT (by show 1 ≤ sizeLine; decide) fun pt H7 n7 s7 e7 => ?_
          refine k' _ _ ⟨pt, _, [Rat.divInt (1 + j) 7], t5, rfl, ((Same.kt sn).trans (sx5.kt (hq4.same sn))).trans (Same.kt (s6.trans s7)), (hq5.same s6).same s7, by omega, by omega, e7, .cons (s7 _ _ e6) .nil, fun r hr => ?_, (fun z => by (cases z)), fun _ => ?_, by show 1 ≤ 4; decide⟩
          · rw [List.mem_singleton.mp hr]
            exact (Rb.of (by decide) hD (by show (7 : Int).natAbs < 2 ^ 11; decide)).mono (by decide)
          · show Rat.divInt (1 + j) 7 ≠ 0
            intro z
            have z2 : Rat.divInt (1 + j) 7 = Rat.divInt 0 1 := by rw [z, Rat.zero_divInt]
            have := (Rat.divInt_eq_divInt_iff (by decide) (by decide)).mp z2
            omega
      obtain ⟨pP', wP', rs, t5, rfl, k5, hq5, u5, l5, eP', tP', bP', neP, trP', lP'⟩ := hv
      have eO := k5 _ _ eO
      have tO := tO.go k5
      clear eP tP bP trP lP k5 hq4
      generalize rs = oth at *
      have gl := trP' neP
      have g0 : 0 < oth.length := List.length_pos_iff.mpr neP
      walk_at "mfs"
      -- told
      refine g_seq ?_
      walk_at "mfs"
      refine g_clm (K := K) ?_
      walk_at "mfs"
      refine g_lcTu ?_
      walk_at "mfs"
      refine ⟨pO, rfl, ⟨_, tupU eO⟩, ?_⟩
      refine lc_as hq5 (by omega) eO tO (bO.mono (by decide)) (by omega) (fun x => rfl) (fun x => rfl) (fun x => rfl) fun D6 H6 t6 x6 d6 sx6 hq6 l6 u6 nD6 nq6 eD6 hd6 ok6 ev6 => ?_
      have kx := sx6.kt hq5
      have eO := kx _ _ eO
      have tO := tO.go kx
      have eP' := kx _ _ eP'
      have tP' := tP'.go kx
      walk_at "mfs"
      refine g_lstOf (.inr (tupU eP')) fun pb Hb nb sb eb => ?_
      walk_at "mfs"
      refine g_newL (by show 1 ≤ sizeLine; decide) fun pc Hc nc sc ec => ?_
      walk_at "mfs"
      refine g_cat (sc _ _ eb) ec (by rw [tP'.len]; exact Nat.le_of_lt (small1000 (by show oth.length + 1 ≤ 1000; omega))) fun pd' Hd nd sd ed => ?_
      have sA : Same H6 Hd := (sb.trans sc).trans sd
      have hqd := hq6.same sA
      obtain ⟨cq, nq, rq, eqq, _⟩ := id hqd
      have nqd : pd' ≠ q := fun z => by
        rw [z] at nd
        have := ((hq6.same sb).same sc).at
        obtain ⟨o, e⟩ := this
        rw [e] at nd
        cases nd
      have eO := sA _ _ eO
      have tO := tO.go (Same.kt sA)
      have eP' := sA _ _ eP'
      have tP' := tP'.go (Same.kt sA)
      walk_at "mfs"
      have hdB : DqAll q K Hd (wP' ++ [V.int 0]) (oth.map rd ++ [.int 0]) := (TL.data eqq tP').app (.cons (.int 0) .nil)
      refine ⟨rfl, rfl, q, D6, pd', x6, _, d6, _, 140, one, oth, 800, rfl, nq6, nqd, .inl (seqU (sA _ _ eD6)), .inl (seqU ed), DqAll.go (Same.x sA) hd6, hdB, ok6, ?_, by decide, ?_, ?_, by rw [ev6]; exact trO.trim.symm, ?_, neP, by decide, by decide, bP'.mono (by decide), fits1 bO bP' lO lP' neP gl, fun pT HT pq pr wq wr sT nT eT eq er tq tr => ?_⟩
      · intro d hd
        rcases List.mem_append.mp hd with hd | hd
        · exact rds_ok (bP'.mono (by decide)) d hd
        · rw [List.mem_singleton.mp hd]
          exact ⟨rfl, by show (0 : Int).natAbs < 2 ^ 140; exact Nat.two_pow_pos 140, by show (1 : Int).natAbs < 2 ^ 140; decide⟩
      · have := congrArg List.length ev6
        rw [List.length_map] at this
        omega
      · rw [List.length_append, List.length_map]
        show oth.length + 1 ≤ 80
        omega
      · rw [List.map_append, rds_val]
        show oth = trimR (oth ++ [valQ (.int 0)])
        rw [show valQ (.int 0) = 0 from zero1, trim_snoc0, trP'.trim]
      obtain ⟨bq, br⟩ := dfits.out (by decide) (fits1 bO bP' lO lP' neP gl) (show RbL 800 (List.replicate (one.length + 1 - oth.length) 0) from fun r hr => by rw [List.eq_of_mem_replicate hr]; exact Rb0n (by decide))
      have bq : RbL 800 (dQ one oth) := bq.trim
      have br : RbL 800 (dR one oth) := br.trim
      obtain ⟨lq, lr, _⟩ := d_spec (f := one) neP gl
      have back := d_back trO neP gl
      have trq : Tr (dQ one oth) := tr_trim _
      have trr : Tr (dR one oth) := tr_trim _
      have tq : TL HT wq (dQ one oth) := tq
      have tr : TL HT wr (dR one oth) := tr
      have hqT := hqd.same sT
      have eO := sT _ _ eO
      have tO := tO.go (Same.kt sT)
      have eP' := sT _ _ eP'
      have tP' := tP'.go (Same.kt sT)
      have eqqT := sT _ _ eqq
      clear kx hd6 hdB ok6 ev6 eD6 sA sb sc sd eb ec ed sx6 hqd eqq nb nc nd hq6 hq5 sT nT
      walk_at "mfs"
      -- first test
      refine g_seq ?_
      walk_at "mfs"
      have hdT : Dq q K HT (.ref pT) (.tuple [pd (dQ one oth), pd (dR one oth)]) := .tup (fun z => by rw [z, eqqT] at eT; cases eT) (tupU eT) (PL.data eqqT (pl2 eq tq er tr))
      refine g_isiT hdT ?_
      walk_at "mfs"
      refine g_iteNT ?_
      walk_at "mfs"
      refine g_len (.inr (tupU eT)) ?_
      walk_at "mfs"
      rw [show (!decide ((([V.ref pq, V.ref pr] : List V).length : Int) = 2)) = false from rfl]
      walk_at "mfs"
      refine g_ix (.inr (tupU eT)) (v := .ref pr) rfl ?_
      walk_at "mfs"
      refine g_len (.inr (tupU er)) ?_
      walk_at "mfs"
      refine g_len (.inr (tupU eP')) ?_
      walk_at "mfs"
      rw [decide_eq_false (show ¬ ((wP'.length : Nat) : Int) ≤ ((wr.length : Nat) : Int) by rw [tP'.len, tr.len]; omega)]
      walk_at "mfs"
      -- told[0] * other + told[1] is one
      refine g_seq ?_
      walk_at "mfs"
      refine g_ix (.inr (tupU eT)) (v := .ref pq) rfl ?_
      walk_at "mfs"
      have lwP := tP'.len
      have lwO := tO.len
      have lwq := tq.len
      have lwr := tr.len
      refine ⟨pq, pP', wq, wP', dQ one oth, oth, 800, 12, 3253, rfl, .inr (tupU eq), .inr (tupU eP'), tq, tP', bq, bP', fun i n => (cs_rb bq bP' (by decide) (by decide) i n).mono (by omega), by decide, by decide, by decide, by omega, by omega, fun p7 H7 w7 s7 n7 e7 t7 => ?_⟩
      have eO := s7 _ _ eO
      have tO := tO.go (Same.kt s7)
      have eP' := s7 _ _ eP'
      have tP' := tP'.go (Same.kt s7)
      have eT := s7 _ _ eT
      have eq := s7 _ _ eq
      have tq := tq.go (Same.kt s7)
      have er := s7 _ _ er
      have tr := tr.go (Same.kt s7)
      have hqT := hqT.same s7
      have eqqT := s7 _ _ eqqT
      walk_at "mfs"
      refine g_ix (.inr (tupU eT)) (v := .ref pr) rfl ?_
      walk_at "mfs"
      have bc7 : RbL 3253 (trimR (conv (dQ one oth) oth)) := ((rbl_conv bq bP' (by decide) (by decide)).mono (by omega)).trim
      have lw7 := t7.len
      have ll7 := len_trim_le (conv (dQ one oth) oth)
      rw [len_conv] at ll7
      refine ⟨p7, pr, w7, wr, _, _, 3253, 800, rfl, .inr (tupU e7), .inr (tupU er), t7, tr, bc7, br, by decide, by decide, by decide, by omega, by omega, fun p8 H8 w8 s8 n8 e8 t8 => ?_⟩
      rw [back] at t8
      have eO := s8 _ _ eO
      have tO := tO.go (Same.kt s8)
      have eP' := s8 _ _ eP'
      have tP' := tP'.go (Same.kt s8)
      have eT := s8 _ _ eT
      have eq := s8 _ _ eq
      have tq := tq.go (Same.kt s8)
      have er := s8 _ _ er
      have tr := tr.go (Same.kt s8)
      have hqT := hqT.same s8
      have eqqT := s8 _ _ eqqT
      walk_at "mfs"
      refine g_reprS (.tup (tupU e8) t8.dp) (shn_poly (n := 12) (by decide) (by decide) bO lO) (by decide) (by decide) (by decide) ?_
      walk_at "mfs"
      refine g_reprS (.tup (tupU eO) tO.dp) (shn_poly (n := 12) (by decide) (by decide) bO lO) (by decide) (by decide) (by decide) ?_
      walk_at "mfs"
      refine ⟨q, pO, pP', wO, wP', _, _, 12, one, oth, 800, rfl, ne_tl eqqT eO, ne_tl eqqT eP', .inr (tupU eO), .inr (tupU eP'), TL.data eqqT tO, TL.data eqqT tP', rds_ok bO, rds_ok bP', by decide, by rw [List.length_map]; omega, by rw [List.length_map]; omega, by rw [rds_val]; exact trO.trim.symm, by rw [rds_val]; exact trP'.trim.symm, neP, by decide, by decide, bP'.mono (by decide), fits1 bO bP' lO lP' neP gl, fun p9 H9 pq9 pr9 wq9 wr9 s9 n9 e9 eq9 er9 tq9 tr9 => ?_⟩
      have eO := s9 _ _ eO
      have tO := tO.go (Same.kt s9)
      have eP' := s9 _ _ eP'
      have tP' := tP'.go (Same.kt s9)
      have eT := s9 _ _ eT
      have eq := s9 _ _ eq
      have tq := tq.go (Same.kt s9)
      have er := s9 _ _ er
      have tr := tr.go (Same.kt s9)
      have hqT := hqT.same s9
      have eqqT := s9 _ _ eqqT
      walk_at "mfs"
      refine g_neSame (x := .tuple [pd (dQ one oth), pd (dR one oth)]) (.tup (tupU eT) (PL.dp (pl2 eq tq er tr))) (.tup (tupU e9) (PL.dp (pl2 eq9 tq9 er9 tr9))) (sha_tup (sha_two (n := 800) (L1 := 9) (L2 := 3) (by decide) (by decide) bq br (by omega) (by omega))) (by decide) ?_
      walk_at "mfs"
      clear e7 t7 e8 t8 e9 eq9 er9 tq9 tr9 bc7 s7 s8 s9 n7 n8 n9
      -- each part is trimmed
      refine g_seq ?_
      walk_at "mfs"
      refine g_lcTu ?_
      walk_at "mfs"
      refine ⟨pT, rfl, ⟨_, tupU eT⟩, ?_⟩
      refine lcgo_tupF (xs := [.ref pq, .ref pr]) (fun D i H' => Same H9 H' ∧ ∃ vs, H' D = some (.lst vs) ∧ vs.length = i ∧ PL H' vs ([dQ one oth, dR one oth].take i)) (fun x => rfl) (fun D hD => ⟨same_new hD, [], upd_same, rfl, .nil⟩) (fun D i H' _ h => tupU (h.1 _ _ eT)) (fun D i x H' hD hx h => ?_) (fun D HD hD h => ?_)
      · obtain ⟨h1, vs, h2, h3, h4⟩ := h
        obtain ⟨pa, wa, ra, rfl, ea, ta, ga⟩ := (PL.go (Same.kt h1) (pl2 eq tq er tr)).get hx
        have hi2 : i < 2 := (List.getElem?_eq_some_iff.mp hx).1
        have mem := List.mem_of_getElem? ga
        have tra : Tr ra := by
          simp only [List.mem_cons, List.not_mem_nil, or_false] at mem
          rcases mem with z | z <;> rw [z] <;> exact tr_trim _
        have la : ra.length ≤ 9 := by
          simp only [List.mem_cons, List.not_mem_nil, or_false] at mem
          rcases mem with z | z <;> rw [z] <;> omega
        walk_at "mfs"
        refine g_lstOf (.inr (tupU ea)) fun pl Hl nl sl el => ?_
        walk_at "mfs"
        refine ⟨pl, wa, ra, rfl, seqU el, ta.go (Same.kt sl), by rw [ta.len]; omega, fun p2 H2 w2 s2 n2 e2 t2 => ?_⟩
        rw [tra.trim] at t2
        have eD := s2 _ _ (sl _ _ h2)
        have kt := upd_kt (o := .lst (vs ++ [.ref p2])) eD
        refine ⟨vs, eD, small1000 (by omega), ?_, vs ++ [.ref p2], upd_same, by rw [List.length_append, h3]; rfl, ?_⟩
        · intro c o e
          rw [upd_ne (ne_of_none e hD)]
          exact s2 _ _ (sl _ _ (h1 _ _ e))
        · rw [take_snoc ga]
          exact (PL.go kt (PL.go (Same.kt s2) (PL.go (Same.kt sl) h4))).snoc (kt _ _ e2) (t2.go kt)
      obtain ⟨s10, vs, h2, h3, h4⟩ := h
      have h4 : PL HD vs [dQ one oth, dR one oth] := h4
      have eO := s10 _ _ eO
      have tO := tO.go (Same.kt s10)
      have eP' := s10 _ _ eP'
      have tP' := tP'.go (Same.kt s10)
      have eT := s10 _ _ eT
      have eq := s10 _ _ eq
      have tq := tq.go (Same.kt s10)
      have er := s10 _ _ er
      have tr := tr.go (Same.kt s10)
      have hqT := hqT.same s10
      have eqqT := s10 _ _ eqqT
      have shL := sha_lst (sha_two (n := 800) (L1 := 9) (L2 := 3) (by decide) (by decide) bq br (by omega) (by omega))
      walk_at "mfs"
      refine g_reprS (.lst (seqU h2) h4.dp) shL (by decide) (by decide) (by decide) ?_
      walk_at "mfs"
      refine g_lstOf (.inr (tupU eT)) fun p11 H11 n11 s11 e11 => ?_
      have eO := s11 _ _ eO
      have tO := tO.go (Same.kt s11)
      have eP' := s11 _ _ eP'
      have tP' := tP'.go (Same.kt s11)
      have eT := s11 _ _ eT
      have eq := s11 _ _ eq
      have tq := tq.go (Same.kt s11)
      have er := s11 _ _ er
      have tr := tr.go (Same.kt s11)
      have hqT := hqT.same s11
      have eqqT := s11 _ _ eqqT
      walk_at "mfs"
      refine g_reprS (.lst (seqU e11) (PL.dp (pl2 eq tq er tr))) shL (by decide) (by decide) (by decide) ?_
      walk_at "mfs"
      clear h2 h4 e11 n11 s11 s10 hD shL
      clear eT tq eq tr er hdT
      -- rest
      refine g_seq ?_
      walk_at "mfs"
      refine g_len (.inr (tupU eP')) ?_
      walk_at "mfs"
      refine ⟨q, t6, _, rfl, hqT, by omega, by omega, by omega, fun t7 H12 p12 v12 r12 sx12 hq12 l12 u12 n12 qn12 e12 tl12 b12 len12 => ?_⟩
      have kx := sx12.kt hqT
      have eO := kx _ _ eO
      have tO := tO.go kx
      have eP' := kx _ _ eP'
      have tP' := tP'.go kx
      have hqT := hq12
      obtain ⟨_, _, _, eqqT, _⟩ := id hqT
      walk_at "mfs"
      refine ⟨p12, v12, r12, rfl, seqU e12, tl12, by rw [tl12.len]; omega, fun pR H13 wR s13 n13 eR tR => ?_⟩
      have eO := s13 _ _ eO
      have tO := tO.go (Same.kt s13)
      have eP' := s13 _ _ eP'
      have tP' := tP'.go (Same.kt s13)
      have hqT := hqT.same s13
      have eqqT := s13 _ _ eqqT
      have bR : RbL 12 (trimR r12) := b12.trim
      have lR : (trimR r12).length + 1 ≤ oth.length := by have := len_trim_le r12; omega
      have trR := tr_trim r12
      generalize trimR r12 = rst at *
      clear e12 tl12 b12 len12 n12 qn12 sx12 s13 n13
      have lwR := tR.len
      walk_at "mfs"
      -- whole
      refine g_seq ?_
      walk_at "mfs"
      refine ⟨pO, pP', wO, wP', one, oth, 12, 12, 101, rfl, .inr (tupU eO), .inr (tupU eP'), tO, tP', bO, bP', fun i n => (cs_rb bO bP' (by decide) (by decide) i n).mono (by omega), by decide, by decide, by decide, by omega, by omega, fun p14 H14 w14 s14 n14 e14 t14 => ?_⟩
      have eO := s14 _ _ eO
      have tO := tO.go (Same.kt s14)
      have eP' := s14 _ _ eP'
      have tP' := tP'.go (Same.kt s14)
      have eR := s14 _ _ eR
      have tR := tR.go (Same.kt s14)
      have hqT := hqT.same s14
      have eqqT := s14 _ _ eqqT
      walk_at "mfs"
      have bc14 : RbL 101 (trimR (conv one oth)) := ((rbl_conv bO bP' (by decide) (by decide)).mono (by omega)).trim
      have lw14 := t14.len
      have ll14 := len_trim_le (conv one oth)
      rw [len_conv] at ll14
      refine ⟨p14, pR, w14, wR, _, _, 101, 12, rfl, .inr (tupU e14), .inr (tupU eR), t14, tR, bc14, bR, by decide, by decide, by decide, by omega, by omega, fun pW H15 wW s15 n15 eW tW => ?_⟩
      have eO := s15 _ _ eO
      have tO := tO.go (Same.kt s15)
      have eP' := s15 _ _ eP'
      have tP' := tP'.go (Same.kt s15)
      have eR := s15 _ _ eR
      have tR := tR.go (Same.kt s15)
      have hqT := hqT.same s15
      have eqqT := s15 _ _ eqqT
      have bW : RbL 114 (trimR (padd (trimR (conv one oth)) rst)) := (rbl_padd bc14 bR (by decide) (by decide)).trim
      have lW := len_whole (r := rst) (f := one) lO g0 (by omega)
      have ew : ∀ n, Mf.pc (co one) (co oth) n + co rst n = co (trimR (padd (trimR (conv one oth)) rst)) n := fun n => by rw [co_trim, co_padd, co_trim, co_conv]
      have llW := len_trim_le (padd (trimR (conv one oth)) rst)
      rw [len_padd] at llW
      have trW := tr_trim (padd (trimR (conv one oth)) rst)
      generalize trimR (padd (trimR (conv one oth)) rst) = whl at *
      obtain ⟨dw1, dw2⟩ := d_of (f := whl) neP gl trO trR (by omega) ew
      clear e14 t14 n14 s14 s15 n15
      walk_at "mfs"
      refine g_seq ?_
      walk_at "mfs"
      refine ⟨q, pW, pP', wW, wP', _, _, 114, whl, oth, 1000, rfl, ne_tl eqqT eW, ne_tl eqqT eP', .inr (tupU eW), .inr (tupU eP'), TL.data eqqT tW, TL.data eqqT tP', rds_ok bW, rds_ok (bP'.mono (by decide)), by decide, by rw [List.length_map]; omega, by rw [List.length_map]; omega, ?_, by rw [rds_val]; exact trP'.trim.symm, neP, by decide, by decide, bP'.mono (by decide), fits2 bO bP' bR lO lP' (by omega) neP gl lW ew, fun p16 H16 pa pb' wa wb s16 n16 e16 ea eb ta tb => ?_⟩
      · rw [rds_val]
        exact trW.trim.symm
      have ta : TL H16 wa one := by rw [← dw1]; exact ta
      have tb : TL H16 wb rst := by rw [← dw2]; exact tb
      have eO := s16 _ _ eO
      have tO := tO.go (Same.kt s16)
      have eP' := s16 _ _ eP'
      have tP' := tP'.go (Same.kt s16)
      have eR := s16 _ _ eR
      have tR := tR.go (Same.kt s16)
      have eW := s16 _ _ eW
      have tW := tW.go (Same.kt s16)
      have hqT := hqT.same s16
      have eqqT := s16 _ _ eqqT
      walk_at "mfs"
      have shW := sha_tup (sha_two (n := 12) (L1 := 9) (L2 := 3) (by decide) (by decide) bO bR lO (by omega))
      refine g_reprS (.tup (tupU e16) (PL.dp (pl2 ea ta eb tb))) shW (by decide) (by decide) (by decide) ?_
      walk_at "mfs"
      refine g_newT (by show 2 ≤ sizeLine; decide) fun p17 H17 n17 s17 e17 => ?_
      have eO := s17 _ _ eO
      have tO := tO.go (Same.kt s17)
      have eP' := s17 _ _ eP'
      have tP' := tP'.go (Same.kt s17)
      have eR := s17 _ _ eR
      have tR := tR.go (Same.kt s17)
      have eW := s17 _ _ eW
      have tW := tW.go (Same.kt s17)
      have hqT := hqT.same s17
      have eqqT := s17 _ _ eqqT
      walk_at "mfs"
      refine g_reprS (.tup (tupU e17) (PL.dp (pl2 eO tO eR tR))) shW (by decide) (by decide) (by decide) ?_
      walk_at "mfs"
      clear e16 ea eb ta tb e17 s16 s17 n16 n17 shW eR tR eW tW bW lW ew dw1 dw2 bR trR
      -- slopes
      refine g_seq ?_
      walk_at "mfs"
      refine g_lcTu ?_
      walk_at "mfs"
      refine ⟨pO, rfl, ⟨_, tupU eO⟩, ?_⟩
      refine lc_as hqT (by omega) eO tO (bO.mono (by decide)) (by omega) (fun x => rfl) (fun x => rfl) (fun x => rfl) fun D18 H18 t18 x18 d18 sx18 hq18 l18 u18 nD18 nq18 eD18 hd18 ok18 ev18 => ?_
      have kx := sx18.kt hqT
      have eO := kx _ _ eO
      have tO := tO.go kx
      have eP' := kx _ _ eP'
      have tP' := tP'.go kx
      have hqT := hq18
      obtain ⟨_, _, _, eqqT, _⟩ := id hqT
      walk_at "mfs"
      have bs : RbL 22 (slope one) := rbl_slope bO (by decide) (by omega)
      have ls := len_slope one
      have trs := tr_slope trO
      refine ⟨q, D18, x18, d18, 140, rfl, nq18, .inl (seqU eD18), hd18, ok18, by decide, by decide, ?_, fun p19 H19 w19 s19 n19 e19 t19 => ?_⟩
      · have := congrArg List.length ev18
        rw [List.length_map] at this
        omega
      rw [ev18, trO.trim] at t19
      have eO := s19 _ _ eO
      have tO := tO.go (Same.kt s19)
      have eP' := s19 _ _ eP'
      have tP' := tP'.go (Same.kt s19)
      have hqT := hqT.same s19
      have eqqT := s19 _ _ eqqT
      walk_at "mfs"
      have shS := shn_poly (n := 22) (L := 9) (by decide) (by decide) bs (by omega)
      refine g_reprS (.tup (tupU e19) t19.dp) shS (by decide) (by decide) (by decide) ?_
      walk_at "mfs"
      refine ⟨pO, wO, one, 12, rfl, eO, tO, bO, by decide, by decide, by omega, fun p20 H20 w20 s20 n20 e20 t20 => ?_⟩
      rw [trs.trim] at t20
      have eO := s20 _ _ eO
      have tO := tO.go (Same.kt s20)
      have eP' := s20 _ _ eP'
      have tP' := tP'.go (Same.kt s20)
      have hqT := hqT.same s20
      have eqqT := s20 _ _ eqqT
      walk_at "mfs"
      refine g_reprS (.tup (tupU e20) t20.dp) shS (by decide) (by decide) (by decide) ?_
      walk_at "mfs"
      clear e19 t19 e20 t20 s19 s20 n19 n20 shS eD18 hd18 ok18 ev18 nD18 sx18
      -- both
      refine g_seq ?_
      walk_at "mfs"
      refine ⟨pO, wO, one, 12, rfl, eO, tO, bO, by decide, by decide, by omega, fun p21 H21 w21 s21 n21 e21 t21 => ?_⟩
      rw [trs.trim] at t21
      have eO := s21 _ _ eO
      have tO := tO.go (Same.kt s21)
      have eP' := s21 _ _ eP'
      have tP' := tP'.go (Same.kt s21)
      have hqT := hqT.same s21
      have eqqT := s21 _ _ eqqT
      have lw21 := t21.len
      walk_at "mfs"
      refine ⟨p21, pP', w21, wP', slope one, oth, 22, 12, 141, rfl, .inr (tupU e21), .inr (tupU eP'), t21, tP', bs, bP', fun i n => (cs_rb bs bP' (by decide) (by decide) i n).mono (by omega), by decide, by decide, by decide, by omega, by omega, fun pA H22 wA s22 n22 eA tA => ?_⟩
      have eO := s22 _ _ eO
      have tO := tO.go (Same.kt s22)
      have eP' := s22 _ _ eP'
      have tP' := tP'.go (Same.kt s22)
      have hqT := hqT.same s22
      have eqqT := s22 _ _ eqqT
      have lwA := tA.len
      have llA := len_trim_le (conv (slope one) oth)
      rw [len_conv] at llA
      have bA : RbL 141 (trimR (conv (slope one) oth)) := ((rbl_conv bs bP' (by decide) (by decide)).mono (by omega)).trim
      walk_at "mfs"
      have bsP : RbL 22 (slope oth) := rbl_slope bP' (by decide) (by omega)
      have lsP := len_slope oth
      have trsP := tr_slope trP'
      refine ⟨pP', wP', oth, 12, rfl, eP', tP', bP', by decide, by decide, by omega, fun p23 H23 w23 s23 n23 e23 t23 => ?_⟩
      rw [trsP.trim] at t23
      have eO := s23 _ _ eO
      have tO := tO.go (Same.kt s23)
      have eP' := s23 _ _ eP'
      have tP' := tP'.go (Same.kt s23)
      have eA := s23 _ _ eA
      have tA := tA.go (Same.kt s23)
      have hqT := hqT.same s23
      have eqqT := s23 _ _ eqqT
      have lw23 := t23.len
      walk_at "mfs"
      refine ⟨pO, p23, wO, w23, one, slope oth, 12, 22, 106, rfl, .inr (tupU eO), .inr (tupU e23), tO, t23, bO, bsP, fun i n => (cs_rb bO bsP (by decide) (by decide) i n).mono (by omega), by decide, by decide, by decide, by omega, by omega, fun pB H24 wB s24 n24 eB tB => ?_⟩
      have eO := s24 _ _ eO
      have tO := tO.go (Same.kt s24)
      have eP' := s24 _ _ eP'
      have tP' := tP'.go (Same.kt s24)
      have eA := s24 _ _ eA
      have tA := tA.go (Same.kt s24)
      have hqT := hqT.same s24
      have eqqT := s24 _ _ eqqT
      have lwB := tB.len
      have llB := len_trim_le (conv one (slope oth))
      rw [len_conv] at llB
      have bB : RbL 106 (trimR (conv one (slope oth))) := ((rbl_conv bO bsP (by decide) (by decide)).mono (by omega)).trim
      walk_at "mfs"
      refine ⟨pA, pB, wA, wB, _, _, 141, 106, rfl, .inr (tupU eA), .inr (tupU eB), tA, tB, bA, bB, by decide, by decide, by decide, by omega, by omega, fun pC H25 wC s25 n25 eC tC' => ?_⟩
      have eO := s25 _ _ eO
      have tO := tO.go (Same.kt s25)
      have eP' := s25 _ _ eP'
      have tP' := tP'.go (Same.kt s25)
      have eA := s25 _ _ eA
      have tA := tA.go (Same.kt s25)
      have hqT := hqT.same s25
      have eqqT := s25 _ _ eqqT
      have sp := slope_prod one oth
      rw [trs.trim, trsP.trim] at sp
      rw [← sp] at tC'
      clear e21 t21 eA tA e23 t23 eB tB s21 s22 s23 s24 s25 n21 n22 n23 n24 n25 sp
      walk_at "mfs"
      refine ⟨pO, pP', wO, wP', one, oth, 12, 12, 101, rfl, .inr (tupU eO), .inr (tupU eP'), tO, tP', bO, bP', fun i n => (cs_rb bO bP' (by decide) (by decide) i n).mono (by omega), by decide, by decide, by decide, by omega, by omega, fun p26 H26 w26 s26 n26 e26 t26 => ?_⟩
      have eO := s26 _ _ eO
      have tO := tO.go (Same.kt s26)
      have eP' := s26 _ _ eP'
      have tP' := tP'.go (Same.kt s26)
      have eC := s26 _ _ eC
      have tC' := tC'.go (Same.kt s26)
      have hqT := hqT.same s26
      have eqqT := s26 _ _ eqqT
      walk_at "mfs"
      refine ⟨q, p26, w26, _, 101, rfl, ne_tl eqqT e26, .inr (tupU e26), TL.data eqqT t26, rds_ok bc14, by decide, by decide, by rw [List.length_map]; omega, fun p27 H27 w27 s27 n27 e27 t27 => ?_⟩
      rw [rds_val, (tr_trim _).trim] at t27
      have eO := s27 _ _ eO
      have tO := tO.go (Same.kt s27)
      have eP' := s27 _ _ eP'
      have tP' := tP'.go (Same.kt s27)
      have eC := s27 _ _ eC
      have tC' := tC'.go (Same.kt s27)
      have hqT := hqT.same s27
      have eqqT := s27 _ _ eqqT
      have bD : RbL 111 (slope (trimR (conv one oth))) := rbl_slope bc14 (by decide) (by omega)
      have lsD := len_slope (trimR (conv one oth))
      have shD := shn_poly (n := 111) (L := 12) (by decide) (by decide) bD (by omega)
      walk_at "mfs"
      refine g_reprS (.tup (tupU e27) t27.dp) shD (by decide) (by decide) (by decide) ?_
      walk_at "mfs"
      refine g_reprS (.tup (tupU eC) tC'.dp) shD (by decide) (by decide) (by decide) ?_
      walk_at "mfs"
      exact ⟨⟨_, _, _, _, _, _, _, rfl⟩, t18, hqT, by omega⟩
    · obtain ⟨⟨s2, s3, s4, s5, s6, s7, s8, rfl⟩, t, hq, ht⟩ := hP
      walk_at "mfs"
      refine g_newT (by show 0 ≤ sizeLine; decide) fun pa Ha na sa ea => ?_
      walk_at "mfs"
      refine g_newL (by show 1 ≤ sizeLine; decide) fun pb Hb nb sb eb => ?_
      walk_at "mfs"
      have hqb := (hq.same sa).same sb
      obtain ⟨_, _, _, eqq, _⟩ := id hqb
      have n1 : Rat.divInt 1 1 ≠ 0 := by
        rw [one1]
        decide
      have n3 : Rat.divInt 3 1 ≠ 0 := fun z => by
        have z2 : Rat.divInt 3 1 = Rat.divInt 0 1 := by rw [z, zero1]
        have := (Rat.divInt_eq_divInt_iff (by decide) (by decide)).mp z2
        omega
      have b1 : Bt 12 1 := bt_lit (by decide) (by decide)
      have b3 : Bt 12 3 := bt_lit (by decide) (by decide)
      have b0 : Bt 12 0 := bt_lit (by decide) (by decide)
      have e3 : [Rat.divInt 3 1] = trimR ([PyData.int 3].map valQ) := (tr_one n3).trim.symm
      have okI : ∀ {i : Int}, Bt 12 i → isFrD (.int i) = true ∧ Bt 12 (upD (.int i)) ∧ Bt 12 (dnD (.int i)) := fun b => ⟨rfl, b, b1⟩
      refine ⟨q, pa, pb, [], [.int 3], [], [.int 3], 12, [], [Rat.divInt 3 1], 12, rfl, ne_tl eqq (sb _ _ ea), ?_, .inr (tupU (sb _ _ ea)), .inl (seqU eb), .nil, .cons (.int 3) .nil, fun d hd => absurd hd List.not_mem_nil, fun d hd => by (rw [List.mem_singleton.mp hd]; exact okI b3), by decide, by decide, by decide, rfl, e3, (fun z => by (cases z)), by decide, by decide, ?_, (fun r hr => absurd hr List.not_mem_nil : RbL 12 []), fun p9 H9 p1 p2 w1 w2 s9 n9 e9 e1 e2 t1 t2 => ?_⟩
      · obtain ⟨o, eo⟩ := (hq.same sa).at
        exact fun z => by
          rw [z, eo] at nb
          cases nb
      · intro r hr
        rw [List.mem_singleton.mp hr]
        exact Rb.of (by decide) b3 b1
      have t1 : TL H9 w1 [] := t1
      have t2 : TL H9 w2 [] := t2
      walk_at "mfs"
      refine g_newT (by show 0 ≤ sizeLine; decide) fun pc Hc nc sc ec => ?_
      walk_at "mfs"
      refine g_newT (by show 0 ≤ sizeLine; decide) fun pd2 Hd nd sd ed => ?_
      walk_at "mfs"
      refine g_newT (by show 2 ≤ sizeLine; decide) fun pe He ne se ee => ?_
      walk_at "mfs"
      have k1 := Same.kt ((sc.trans sd).trans se)
      have rn : RbL 12 [] := fun r hr => absurd hr List.not_mem_nil
      have r1 : RbL 12 [1] := fun r hr => by
        rw [List.mem_singleton.mp hr]
        exact Rb1.mono (by decide)
      refine g_eqSame (x := .tuple [pd [], pd []]) (.tup (tupU (k1 _ _ e9)) (PL.dp (PL.go k1 (pl2 e1 t1 e2 t2)))) (.tup (tupU ee) (PL.dp (pl2 (ra := []) (rb := []) (se _ _ (sd _ _ ec)) .nil (se _ _ ed) .nil))) (sha_tup (sha_two (n := 12) (L1 := 9) (L2 := 3) (by decide) (by decide) rn rn (by decide) (by decide))) (by decide) ?_
      walk_at "mfs"
      have hqe := (((hqb.same s9).same sc).same sd).same se
      clear e1 e2 t1 t2 e9 ec ed ee eb ea k1
      refine g_newL (by show 1 ≤ sizeLine; decide) fun pf Hf nf sf ef => ?_
      walk_at "mfs"
      refine g_newL (by show 3 ≤ sizeLine; decide) fun pg Hg ng sg eg => ?_
      walk_at "mfs"
      have hqf := hqe.same sf
      have hqg := hqf.same sg
      obtain ⟨_, _, _, eqg, _⟩ := id hqg
      have e4 : [Rat.divInt 1 1] = trimR ([PyData.int 1].map valQ) := (tr_one n1).trim.symm
      have e5 : [Rat.divInt 0 1, Rat.divInt 1 1] = trimR ([PyData.int 0, .int 1, .int 0].map valQ) := by
        have z : [PyData.int 0, .int 1, .int 0].map valQ = [Rat.divInt 0 1, Rat.divInt 1 1] ++ [0] := by
          show [Rat.divInt 0 1, Rat.divInt 1 1, Rat.divInt 0 1] = [Rat.divInt 0 1, Rat.divInt 1 1] ++ [0]
          rw [zero1]
          rfl
        rw [z, trim_snoc0, (tr_two n1).trim]
      have mem3 : ∀ d ∈ [PyData.int 0, .int 1, .int 0], isFrD d = true ∧ Bt 12 (upD d) ∧ Bt 12 (dnD d) := fun d hd => by
        simp only [List.mem_cons, List.not_mem_nil, or_false] at hd
        rcases hd with rfl | rfl | rfl
        · exact okI b0
        · exact okI b1
        · exact okI b0
      have rf : RbL 12 [Rat.divInt 1 1] := fun r hr => by
        rw [List.mem_singleton.mp hr]
        exact Rb.of (by decide) b1 b1
      have rg : RbL 12 [Rat.divInt 0 1, Rat.divInt 1 1] := fun r hr => by
        simp only [List.mem_cons, List.not_mem_nil, or_false] at hr
        rcases hr with rfl | rfl
        · exact Rb.of (by decide) b0 b1
        · exact Rb.of (by decide) b1 b1
      have nOf : ∀ {p : Addr} {Hz : Hp} {tz : Int}, Qy K q tz Hz → Hz p = none → p ≠ q := fun hz n z => by
        obtain ⟨o, eo⟩ := hz.at
        rw [z, eo] at n
        cases n
      refine ⟨q, pf, pg, [.int 1], [.int 0, .int 1, .int 0], [.int 1], [.int 0, .int 1, .int 0], 12, [Rat.divInt 1 1], [Rat.divInt 0 1, Rat.divInt 1 1], 12, rfl, nOf hqe nf, nOf hqf ng, .inl (seqU (sg _ _ ef)), .inl (seqU eg), .cons (.int 1) .nil, .cons (.int 0) (.cons (.int 1) (.cons (.int 0) .nil)), fun d hd => by (rw [List.mem_singleton.mp hd]; exact okI b1), mem3, by decide, by decide, by decide, e4, e5, (fun z => by (cases z)), by decide, by decide, rg, rf, fun p9 H9' p1 p2 w1 w2 s9' n9' e9 e1 e2 t1 t2 => ?_⟩
      have t1 : TL H9' w1 [] := t1
      have t2 : TL H9' w2 (trimR [Rat.divInt 1 1]) := t2
      rw [(tr_one n1).trim, one1] at t2
      walk_at "mfs"
      refine g_newT (by show 0 ≤ sizeLine; decide) fun pc2 Hc2 nc2 sc2 ec2 => ?_
      walk_at "mfs"
      refine g_newT (by show 2 ≤ sizeLine; decide) fun pd3 Hd3 nd3 sd3 ed3 => ?_
      walk_at "mfs"
      refine g_newT (by show 1 ≤ sizeLine; decide) fun pd4 Hd4 nd4 sd4 ed4 => ?_
      walk_at "mfs"
      refine g_newT (by show 2 ≤ sizeLine; decide) fun pe2 He2 ne2 se2 ee2 => ?_
      walk_at "mfs"
      have k2 := Same.kt (((sc2.trans sd3).trans sd4).trans se2)
      have t5 : TL He2 [.ref pd3] [1] := .cons (r := 1) (se2 _ _ (sd4 _ _ ed3)) .nil
      refine g_eqSame (x := .tuple [pd [], pd [1]]) (.tup (tupU (k2 _ _ e9)) (PL.dp (PL.go k2 (pl2 e1 t1 e2 t2)))) (.tup (tupU ee2) (PL.dp (pl2 (ra := []) (se2 _ _ (sd4 _ _ (sd3 _ _ ec2))) .nil (se2 _ _ ed4) t5))) (sha_tup (sha_two (n := 12) (L1 := 9) (L2 := 3) (by decide) (by decide) rn r1 (by decide) (by decide))) (by decide) ?_
      walk_at "mfs"
      exact k _
end Mf
namespace Mf
open PySem PySem.Spec PyProof.Rows L2
local macro_rules | `(tactic| walk_at "mf1") => `(tactic| first
  | ((with_reducible apply g_var); exact rfl)
  | with_reducible first
    | refine g_c ?_ | refine g_op ?_ | refine g_un ?_ | refine g_cb ?_ | refine g_cl ?_ | refine g_clk ?_ | refine g_nil ?_ | refine g_cons ?_
    | refine g_tB ?_ | refine g_test ?_ | refine g_bl ?_ | refine g_and ?_ | refine g_or ?_ | refine g_not ?_ | refine g_andV ?_ | refine g_orV ?_ | refine g_notV ?_
    | refine g_if ?_ | refine g_ifS ?_ | refine g_seq ?_ | refine g_next ?_ | refine g_ret ?_ | refine g_drop ?_ | refine g_asg ?_ | refine g_name ?_ | refine g_sub ?_
    | refine g_int ?_ | refine g_intB ?_ | refine g_abs ?_ | refine g_I0 ?_ | refine g_addI ?_ | refine g_U ?_ | refine g_isNn ?_ | refine g_isNi ?_ | refine g_notN ?_ | refine g_notT1 ?_ | refine g_notT2 ?_ | refine g_notT3 ?_ | refine g_notT4 ?_ | refine g_notTb ?_ | refine g_notTi ?_ | refine g_eqI ?_ | refine g_neI ?_ | refine g_neSs ?_ | refine g_neS ?_ | refine g_eqS ?_
    | refine g_iteT ?_ | refine g_iteF ?_ | refine g_iteNT ?_ | refine g_iteNF ?_ | refine g_lst ?_ | refine g_tup ?_ | refine g_seqP ?_ | refine g_sl ?_ | refine g_noPart ?_ | refine g_part ?_ | refine g_yes ?_ | refine g_thenT ?_ | refine g_consG ?_ | refine g_nilG ?_ | refine g_ii ?_ | refine g_par ?_ | refine g_par3 ?_ | refine g_vv ?_ | refine g_vvv ?_ | refine g_reprB ?_ | refine g_lcL ?_ | refine g_lcR ?_
  | ((with_reducible refine g_mod ?_ ?_); (first | omega | decide))
  | ((with_reducible refine g_div ?_ ?_ ?_); (first | omega | decide); (first | assumption | decide))
  | ((with_reducible refine g_mulL ?_ ?_ ?_); (first | omega | decide); (first | omega | decide))
  | ((with_reducible refine g_mulR ?_ ?_ ?_); (first | omega | decide); (first | omega | decide))
  | ((with_reducible refine g_pow ?_ ?_ ?_ ?_); decide; decide; (first | omega | decide))
  | dsimp only)
local macro_rules | `(tactic| walk_at "mf1s") => `(tactic| first
  | ((with_reducible apply g_var); exact rfl)
  | with_reducible first
    | refine g_c ?_ | refine g_op ?_ | refine g_un ?_ | refine g_cb ?_ | refine g_cl ?_ | refine g_clk ?_ | refine g_nil ?_ | refine g_cons ?_
    | refine g_tB ?_ | refine g_test ?_ | refine g_bl ?_ | refine g_and ?_ | refine g_or ?_ | refine g_not ?_ | refine g_andV ?_ | refine g_orV ?_ | refine g_notV ?_
    | refine g_if ?_ | refine g_ifS ?_ | refine g_next ?_ | refine g_ret ?_ | refine g_drop ?_ | refine g_asg ?_ | refine g_name ?_ | refine g_sub ?_
    | refine g_int ?_ | refine g_intB ?_ | refine g_abs ?_ | refine g_I0 ?_ | refine g_addI ?_ | refine g_U ?_ | refine g_isNn ?_ | refine g_isNi ?_ | refine g_notN ?_ | refine g_notT1 ?_ | refine g_notT2 ?_ | refine g_notT3 ?_ | refine g_notT4 ?_ | refine g_notTb ?_ | refine g_notTi ?_ | refine g_eqI ?_ | refine g_neI ?_ | refine g_neSs ?_ | refine g_neS ?_ | refine g_eqS ?_
    | refine g_iteT ?_ | refine g_iteF ?_ | refine g_iteNT ?_ | refine g_iteNF ?_ | refine g_lst ?_ | refine g_tup ?_ | refine g_seqP ?_ | refine g_sl ?_ | refine g_noPart ?_ | refine g_part ?_ | refine g_yes ?_ | refine g_thenT ?_ | refine g_consG ?_ | refine g_nilG ?_ | refine g_ii ?_ | refine g_par ?_ | refine g_par3 ?_ | refine g_vv ?_ | refine g_vvv ?_ | refine g_reprB ?_ | refine g_lcL ?_ | refine g_lcR ?_
  | ((with_reducible refine g_mod ?_ ?_); (first | omega | decide))
  | ((with_reducible refine g_div ?_ ?_ ?_); (first | omega | decide); (first | assumption | decide))
  | ((with_reducible refine g_mulL ?_ ?_ ?_); (first | omega | decide); (first | omega | decide))
  | ((with_reducible refine g_mulR ?_ ?_ ?_); (first | omega | decide); (first | omega | decide))
  | ((with_reducible refine g_pow ?_ ?_ ?_ ?_); decide; decide; (first | omega | decide))
  | dsimp only)
local macro_rules | `(tactic| walk_at "mfs") => `(tactic| repeat walk_at "mf1s")
local macro_rules | `(tactic| walk_at "mf") => `(tactic| repeat walk_at "mf1")
local macro_rules | `(tactic| walk_at "ed") => `(tactic| repeat (first
  | with_reducible first
    | exact eds_nil | apply eds_cons | exact ed_int | exact ed_bl | exact ed_non | apply ed_neg
  | ((with_reducible apply ed_str); decide)
  | ((with_reducible apply ed_var); (exact rfl); (first | assumption | exact Dq.int _))
  | ((with_reducible apply ed_dict0); assumption)
  | ((with_reducible apply ed_dict2); assumption)
  | ((with_reducible apply ed_tup); assumption)
  | ((with_reducible apply ed_lst); assumption)
  | (with_reducible apply ed_pow)
  | (with_reducible apply ed_mul)
  | assumption
  | (exact Dq.int _)
  | (exact ⟨by decide, by decide, by decide⟩)
  | (show List.length _ ≤ 1000; simp only [List.length_cons, List.length_nil]; decide)))
theorem de_mk {P : Program} {w : World} {K : PySem.W.Frag} {h b : Heap} {mg : Str → Option Value} {x : Str} {st : Stmt} {f : Addr} {od an : Option Addr} {sl : Array (Option Value)} {oc kV dc pm cd ct : Value} (X : K.In h) (G : h.Ns mainGlobals mg)
    (a : PySem.W.nsIn K mainGlobals x = some (some (.ref f))) (l : K.lookup f = some ⟨oc, od, .func (PySem.W.fnOf x x (defArgs st) (defBody st) (defScope st) .none kV dc pm an cd ct), sl⟩)
    (c : PySem.W.codeIn K cd x = true) (k : PySem.W.keepIn K (.ref f) = true) : De ⟨P, w, K, mg, b⟩ x st := ⟨f, _, PySem.W.mg_of X G a, fun_mk l c k⟩
theorem end_mk {P : Program} {w : World} {K : PySem.W.Frag} {h : Heap} {mg : Str → Option Value} {fa : Addr} (hmg : mg "law" = some (.ref fa)) (T : ∀ base : Heap, Tx ⟨P, w, K, mg, base⟩) :
    ∃ fd : FuncData, (∀ (s : Shared) (u : Value), BindsTo s fd ⟨[u], []⟩ [("script", u)]) ∧ ∀ base : Heap, K.In base → base.Ns mainGlobals mg → FnG P w K mg base CX0 8 fa fd ["script"] (sp_law K) := by
  obtain ⟨f, fd, hm, F⟩ := (T h).d_law.ex
  have e : f = fa := by
    have e := hm.symm.trans hmg
    cases e
    rfl
  subst e
  refine ⟨fd, fun s u => ?_, fun base _ _ => ?_⟩
  · obtain ⟨oc, od, kV, doc, pm, an, cdv, ct, osl, rfl, lk, hcd⟩ := F.ex
    exact .of_eq (pl_law kV doc pm an cdv ct [u] rfl)
  · obtain ⟨f2, fd2, F2, hm2, W2⟩ := (ok_law ⟨P, w, K, mg, base⟩ (T base)).ex
    have e2 : f2 = f := by
      have e := hm2.symm.trans hm
      cases e
      rfl
    subst e2
    obtain ⟨oc, od, kV, doc, pm, an, cdv, ct, osl, rfl, lk, hcd⟩ := F.ex
    obtain ⟨oc', od', kV', doc', pm', an', cdv', ct', osl', rfl, lk', hcd'⟩ := W2.ex
    rw [lk] at lk'
    cases lk'
    exact F2
theorem all_mk {P : Program} {w : World} {K : PySem.W.Frag} {h : Heap} {mg : Str → Option Value} {fa : Addr} (X : K.In h) (G : h.Ns mainGlobals mg) (hmg : mg "law" = some (.ref fa))
    {f0 f1 f2 f3 f4 f5 f6 f7 f8 f9 f10 f11 f12 f13 f14 f15 f16 f17 f18 f19 f20 f21 f22 f23 f24 f25 f26 f27 f28 f29 : Addr} {od0 an0 od1 an1 od2 an2 od3 an3 od4 an4 od5 an5 od6 an6 od7 an7 od8 an8 od9 an9 od10 an10 od11 an11 od12 an12 od13 an13 od14 an14 od15 an15 od16 an16 od17 an17 od18 an18 od19 an19 od20 an20 od21 an21 od22 an22 od23 an23 od24 an24 od25 an25 od26 an26 od27 an27 od28 an28 od29 an29 : Option Addr} {sl0 sl1 sl2 sl3 sl4 sl5 sl6 sl7 sl8 sl9 sl10 sl11 sl12 sl13 sl14 sl15 sl16 sl17 sl18 sl19 sl20 sl21 sl22 sl23 sl24 sl25 sl26 sl27 sl28 sl29 : Array (Option Value)} {oc0 kV0 dc0 pm0 cd0 ct0 oc1 kV1 dc1 pm1 cd1 ct1 oc2 kV2 dc2 pm2 cd2 ct2 oc3 kV3 dc3 pm3 cd3 ct3 oc4 kV4 dc4 pm4 cd4 ct4 oc5 kV5 dc5 pm5 cd5 ct5 oc6 kV6 dc6 pm6 cd6 ct6 oc7 kV7 dc7 pm7 cd7 ct7 oc8 kV8 dc8 pm8 cd8 ct8 oc9 kV9 dc9 pm9 cd9 ct9 oc10 kV10 dc10 pm10 cd10 ct10 oc11 kV11 dc11 pm11 cd11 ct11 oc12 kV12 dc12 pm12 cd12 ct12 oc13 kV13 dc13 pm13 cd13 ct13 oc14 kV14 dc14 pm14 cd14 ct14 oc15 kV15 dc15 pm15 cd15 ct15 oc16 kV16 dc16 pm16 cd16 ct16 oc17 kV17 dc17 pm17 cd17 ct17 oc18 kV18 dc18 pm18 cd18 ct18 oc19 kV19 dc19 pm19 cd19 ct19 oc20 kV20 dc20 pm20 cd20 ct20 oc21 kV21 dc21 pm21 cd21 ct21 oc22 kV22 dc22 pm22 cd22 ct22 oc23 kV23 dc23 pm23 cd23 ct23 oc24 kV24 dc24 pm24 cd24 ct24 oc25 kV25 dc25 pm25 cd25 ct25 oc26 kV26 dc26 pm26 cd26 ct26 oc27 kV27 dc27 pm27 cd27 ct27 oc28 kV28 dc28 pm28 cd28 ct28 oc29 kV29 dc29 pm29 cd29 ct29 : Value}
    (a0 : PySem.W.nsIn K mainGlobals "is_integer" = some (some (.ref f0))) (l0 : K.lookup f0 = some ⟨oc0, od0, .func (PySem.W.fnOf "is_integer" "is_integer" (defArgs s_is_integer) (defBody s_is_integer) (defScope s_is_integer) .none kV0 dc0 pm0 an0 cd0 ct0), sl0⟩) (c0 : PySem.W.codeIn K cd0 "is_integer" = true) (k0 : PySem.W.keepIn K (.ref f0) = true)
    (a1 : PySem.W.nsIn K mainGlobals "is_within" = some (some (.ref f1))) (l1 : K.lookup f1 = some ⟨oc1, od1, .func (PySem.W.fnOf "is_within" "is_within" (defArgs s_is_within) (defBody s_is_within) (defScope s_is_within) .none kV1 dc1 pm1 an1 cd1 ct1), sl1⟩) (c1 : PySem.W.codeIn K cd1 "is_within" = true) (k1 : PySem.W.keepIn K (.ref f1) = true)
    (a2 : PySem.W.nsIn K mainGlobals "is_list" = some (some (.ref f2))) (l2 : K.lookup f2 = some ⟨oc2, od2, .func (PySem.W.fnOf "is_list" "is_list" (defArgs s_is_list) (defBody s_is_list) (defScope s_is_list) .none kV2 dc2 pm2 an2 cd2 ct2), sl2⟩) (c2 : PySem.W.codeIn K cd2 "is_list" = true) (k2 : PySem.W.keepIn K (.ref f2) = true)
    (a3 : PySem.W.nsIn K mainGlobals "is_fraction" = some (some (.ref f3))) (l3 : K.lookup f3 = some ⟨oc3, od3, .func (PySem.W.fnOf "is_fraction" "is_fraction" (defArgs s_is_fraction) (defBody s_is_fraction) (defScope s_is_fraction) .none kV3 dc3 pm3 an3 cd3 ct3), sl3⟩) (c3 : PySem.W.codeIn K cd3 "is_fraction" = true) (k3 : PySem.W.keepIn K (.ref f3) = true)
    (a4 : PySem.W.nsIn K mainGlobals "reduced" = some (some (.ref f4))) (l4 : K.lookup f4 = some ⟨oc4, od4, .func (PySem.W.fnOf "reduced" "reduced" (defArgs s_reduced) (defBody s_reduced) (defScope s_reduced) .none kV4 dc4 pm4 an4 cd4 ct4), sl4⟩) (c4 : PySem.W.codeIn K cd4 "reduced" = true) (k4 : PySem.W.keepIn K (.ref f4) = true)
    (a5 : PySem.W.nsIn K mainGlobals "read_fraction" = some (some (.ref f5))) (l5 : K.lookup f5 = some ⟨oc5, od5, .func (PySem.W.fnOf "read_fraction" "read_fraction" (defArgs s_read_fraction) (defBody s_read_fraction) (defScope s_read_fraction) .none kV5 dc5 pm5 an5 cd5 ct5), sl5⟩) (c5 : PySem.W.codeIn K cd5 "read_fraction" = true) (k5 : PySem.W.keepIn K (.ref f5) = true)
    (a6 : PySem.W.nsIn K mainGlobals "fraction_of" = some (some (.ref f6))) (l6 : K.lookup f6 = some ⟨oc6, od6, .func (PySem.W.fnOf "fraction_of" "fraction_of" (defArgs s_fraction_of) (defBody s_fraction_of) (defScope s_fraction_of) .none kV6 dc6 pm6 an6 cd6 ct6), sl6⟩) (c6 : PySem.W.codeIn K cd6 "fraction_of" = true) (k6 : PySem.W.keepIn K (.ref f6) = true)
    (a7 : PySem.W.nsIn K mainGlobals "taken" = some (some (.ref f7))) (l7 : K.lookup f7 = some ⟨oc7, od7, .func (PySem.W.fnOf "taken" "taken" (defArgs s_taken) (defBody s_taken) (defScope s_taken) .none kV7 dc7 pm7 an7 cd7 ct7), sl7⟩) (c7 : PySem.W.codeIn K cd7 "taken" = true) (k7 : PySem.W.keepIn K (.ref f7) = true)
    (a8 : PySem.W.nsIn K mainGlobals "multiplied" = some (some (.ref f8))) (l8 : K.lookup f8 = some ⟨oc8, od8, .func (PySem.W.fnOf "multiplied" "multiplied" (defArgs s_multiplied) (defBody s_multiplied) (defScope s_multiplied) .none kV8 dc8 pm8 an8 cd8 ct8), sl8⟩) (c8 : PySem.W.codeIn K cd8 "multiplied" = true) (k8 : PySem.W.keepIn K (.ref f8) = true)
    (a9 : PySem.W.nsIn K mainGlobals "divided" = some (some (.ref f9))) (l9 : K.lookup f9 = some ⟨oc9, od9, .func (PySem.W.fnOf "divided" "divided" (defArgs s_divided) (defBody s_divided) (defScope s_divided) .none kV9 dc9 pm9 an9 cd9 ct9), sl9⟩) (c9 : PySem.W.codeIn K cd9 "divided" = true) (k9 : PySem.W.keepIn K (.ref f9) = true)
    (a10 : PySem.W.nsIn K mainGlobals "trimmed" = some (some (.ref f10))) (l10 : K.lookup f10 = some ⟨oc10, od10, .func (PySem.W.fnOf "trimmed" "trimmed" (defArgs s_trimmed) (defBody s_trimmed) (defScope s_trimmed) .none kV10 dc10 pm10 an10 cd10 ct10), sl10⟩) (c10 : PySem.W.codeIn K cd10 "trimmed" = true) (k10 : PySem.W.keepIn K (.ref f10) = true)
    (a11 : PySem.W.nsIn K mainGlobals "is_poly" = some (some (.ref f11))) (l11 : K.lookup f11 = some ⟨oc11, od11, .func (PySem.W.fnOf "is_poly" "is_poly" (defArgs s_is_poly) (defBody s_is_poly) (defScope s_is_poly) .none kV11 dc11 pm11 an11 cd11 ct11), sl11⟩) (c11 : PySem.W.codeIn K cd11 "is_poly" = true) (k11 : PySem.W.keepIn K (.ref f11) = true)
    (a12 : PySem.W.nsIn K mainGlobals "read_poly" = some (some (.ref f12))) (l12 : K.lookup f12 = some ⟨oc12, od12, .func (PySem.W.fnOf "read_poly" "read_poly" (defArgs s_read_poly) (defBody s_read_poly) (defScope s_read_poly) .none kV12 dc12 pm12 an12 cd12 ct12), sl12⟩) (c12 : PySem.W.codeIn K cd12 "read_poly" = true) (k12 : PySem.W.keepIn K (.ref f12) = true)
    (a13 : PySem.W.nsIn K mainGlobals "parted" = some (some (.ref f13))) (l13 : K.lookup f13 = some ⟨oc13, od13, .func (PySem.W.fnOf "parted" "parted" (defArgs s_parted) (defBody s_parted) (defScope s_parted) .none kV13 dc13 pm13 an13 cd13 ct13), sl13⟩) (c13 : PySem.W.codeIn K cd13 "parted" = true) (k13 : PySem.W.keepIn K (.ref f13) = true)
    (a14 : PySem.W.nsIn K mainGlobals "poly_parted" = some (some (.ref f14))) (l14 : K.lookup f14 = some ⟨oc14, od14, .func (PySem.W.fnOf "poly_parted" "poly_parted" (defArgs s_poly_parted) (defBody s_poly_parted) (defScope s_poly_parted) .none kV14 dc14 pm14 an14 cd14 ct14), sl14⟩) (c14 : PySem.W.codeIn K cd14 "poly_parted" = true) (k14 : PySem.W.keepIn K (.ref f14) = true)
    (a15 : PySem.W.nsIn K mainGlobals "slope_of" = some (some (.ref f15))) (l15 : K.lookup f15 = some ⟨oc15, od15, .func (PySem.W.fnOf "slope_of" "slope_of" (defArgs s_slope_of) (defBody s_slope_of) (defScope s_slope_of) .none kV15 dc15 pm15 an15 cd15 ct15), sl15⟩) (c15 : PySem.W.codeIn K cd15 "slope_of" = true) (k15 : PySem.W.keepIn K (.ref f15) = true)
    (a16 : PySem.W.nsIn K mainGlobals "_law_cellar" = some (some (.ref f16))) (l16 : K.lookup f16 = some ⟨oc16, od16, .func (PySem.W.fnOf "_law_cellar" "_law_cellar" (defArgs s__law_cellar) (defBody s__law_cellar) (defScope s__law_cellar) .none kV16 dc16 pm16 an16 cd16 ct16), sl16⟩) (c16 : PySem.W.codeIn K cd16 "_law_cellar" = true) (k16 : PySem.W.keepIn K (.ref f16) = true)
    (a17 : PySem.W.nsIn K mainGlobals "_law_barrel" = some (some (.ref f17))) (l17 : K.lookup f17 = some ⟨oc17, od17, .func (PySem.W.fnOf "_law_barrel" "_law_barrel" (defArgs s__law_barrel) (defBody s__law_barrel) (defScope s__law_barrel) .none kV17 dc17 pm17 an17 cd17 ct17), sl17⟩) (c17 : PySem.W.codeIn K cd17 "_law_barrel" = true) (k17 : PySem.W.keepIn K (.ref f17) = true)
    (a18 : PySem.W.nsIn K mainGlobals "_law_pick" = some (some (.ref f18))) (l18 : K.lookup f18 = some ⟨oc18, od18, .func (PySem.W.fnOf "_law_pick" "_law_pick" (defArgs s__law_pick) (defBody s__law_pick) (defScope s__law_pick) .none kV18 dc18 pm18 an18 cd18 ct18), sl18⟩) (c18 : PySem.W.codeIn K cd18 "_law_pick" = true) (k18 : PySem.W.keepIn K (.ref f18) = true)
    (a19 : PySem.W.nsIn K mainGlobals "_law_low" = some (some (.ref f19))) (l19 : K.lookup f19 = some ⟨oc19, od19, .func (PySem.W.fnOf "_law_low" "_law_low" (defArgs s__law_low) (defBody s__law_low) (defScope s__law_low) .none kV19 dc19 pm19 an19 cd19 ct19), sl19⟩) (c19 : PySem.W.codeIn K cd19 "_law_low" = true) (k19 : PySem.W.keepIn K (.ref f19) = true)
    (a20 : PySem.W.nsIn K mainGlobals "_law_plus" = some (some (.ref f20))) (l20 : K.lookup f20 = some ⟨oc20, od20, .func (PySem.W.fnOf "_law_plus" "_law_plus" (defArgs s__law_plus) (defBody s__law_plus) (defScope s__law_plus) .none kV20 dc20 pm20 an20 cd20 ct20), sl20⟩) (c20 : PySem.W.codeIn K cd20 "_law_plus" = true) (k20 : PySem.W.keepIn K (.ref f20) = true)
    (a21 : PySem.W.nsIn K mainGlobals "_law_times" = some (some (.ref f21))) (l21 : K.lookup f21 = some ⟨oc21, od21, .func (PySem.W.fnOf "_law_times" "_law_times" (defArgs s__law_times) (defBody s__law_times) (defScope s__law_times) .none kV21 dc21 pm21 an21 cd21 ct21), sl21⟩) (c21 : PySem.W.codeIn K cd21 "_law_times" = true) (k21 : PySem.W.keepIn K (.ref f21) = true)
    (a22 : PySem.W.nsIn K mainGlobals "_law_fraction" = some (some (.ref f22))) (l22 : K.lookup f22 = some ⟨oc22, od22, .func (PySem.W.fnOf "_law_fraction" "_law_fraction" (defArgs s__law_fraction) (defBody s__law_fraction) (defScope s__law_fraction) .none kV22 dc22 pm22 an22 cd22 ct22), sl22⟩) (c22 : PySem.W.codeIn K cd22 "_law_fraction" = true) (k22 : PySem.W.keepIn K (.ref f22) = true)
    (a23 : PySem.W.nsIn K mainGlobals "_law_as" = some (some (.ref f23))) (l23 : K.lookup f23 = some ⟨oc23, od23, .func (PySem.W.fnOf "_law_as" "_law_as" (defArgs s__law_as) (defBody s__law_as) (defScope s__law_as) .none kV23 dc23 pm23 an23 cd23 ct23), sl23⟩) (c23 : PySem.W.codeIn K cd23 "_law_as" = true) (k23 : PySem.W.keepIn K (.ref f23) = true)
    (a24 : PySem.W.nsIn K mainGlobals "_law_trimmed" = some (some (.ref f24))) (l24 : K.lookup f24 = some ⟨oc24, od24, .func (PySem.W.fnOf "_law_trimmed" "_law_trimmed" (defArgs s__law_trimmed) (defBody s__law_trimmed) (defScope s__law_trimmed) .none kV24 dc24 pm24 an24 cd24 ct24), sl24⟩) (c24 : PySem.W.codeIn K cd24 "_law_trimmed" = true) (k24 : PySem.W.keepIn K (.ref f24) = true)
    (a25 : PySem.W.nsIn K mainGlobals "_law_product" = some (some (.ref f25))) (l25 : K.lookup f25 = some ⟨oc25, od25, .func (PySem.W.fnOf "_law_product" "_law_product" (defArgs s__law_product) (defBody s__law_product) (defScope s__law_product) .none kV25 dc25 pm25 an25 cd25 ct25), sl25⟩) (c25 : PySem.W.codeIn K cd25 "_law_product" = true) (k25 : PySem.W.keepIn K (.ref f25) = true)
    (a26 : PySem.W.nsIn K mainGlobals "_law_sum" = some (some (.ref f26))) (l26 : K.lookup f26 = some ⟨oc26, od26, .func (PySem.W.fnOf "_law_sum" "_law_sum" (defArgs s__law_sum) (defBody s__law_sum) (defScope s__law_sum) .none kV26 dc26 pm26 an26 cd26 ct26), sl26⟩) (c26 : PySem.W.codeIn K cd26 "_law_sum" = true) (k26 : PySem.W.keepIn K (.ref f26) = true)
    (a27 : PySem.W.nsIn K mainGlobals "_law_row" = some (some (.ref f27))) (l27 : K.lookup f27 = some ⟨oc27, od27, .func (PySem.W.fnOf "_law_row" "_law_row" (defArgs s__law_row) (defBody s__law_row) (defScope s__law_row) .none kV27 dc27 pm27 an27 cd27 ct27), sl27⟩) (c27 : PySem.W.codeIn K cd27 "_law_row" = true) (k27 : PySem.W.keepIn K (.ref f27) = true)
    (a28 : PySem.W.nsIn K mainGlobals "_law_slope" = some (some (.ref f28))) (l28 : K.lookup f28 = some ⟨oc28, od28, .func (PySem.W.fnOf "_law_slope" "_law_slope" (defArgs s__law_slope) (defBody s__law_slope) (defScope s__law_slope) .none kV28 dc28 pm28 an28 cd28 ct28), sl28⟩) (c28 : PySem.W.codeIn K cd28 "_law_slope" = true) (k28 : PySem.W.keepIn K (.ref f28) = true)
    (a29 : PySem.W.nsIn K mainGlobals "law" = some (some (.ref f29))) (l29 : K.lookup f29 = some ⟨oc29, od29, .func (PySem.W.fnOf "law" "law" (defArgs s_law) (defBody s_law) (defScope s_law) .none kV29 dc29 pm29 an29 cd29 ct29), sl29⟩) (c29 : PySem.W.codeIn K cd29 "law" = true) (k29 : PySem.W.keepIn K (.ref f29) = true)
    (z0 : PySem.W.nsIn K mainGlobals "abs" = some none)
    (z1 : PySem.W.nsIn K mainGlobals "all" = some none)
    (z2 : PySem.W.nsIn K mainGlobals "bool" = some none)
    (z3 : PySem.W.nsIn K mainGlobals "enumerate" = some none)
    (z4 : PySem.W.nsIn K mainGlobals "int" = some none)
    (z5 : PySem.W.nsIn K mainGlobals "isinstance" = some none)
    (z6 : PySem.W.nsIn K mainGlobals "len" = some none)
    (z7 : PySem.W.nsIn K mainGlobals "list" = some none)
    (z8 : PySem.W.nsIn K mainGlobals "max" = some none)
    (z9 : PySem.W.nsIn K mainGlobals "range" = some none)
    (z10 : PySem.W.nsIn K mainGlobals "repr" = some none)
    (z11 : PySem.W.nsIn K mainGlobals "reversed" = some none)
    (z12 : PySem.W.nsIn K mainGlobals "tuple" = some none)
    (m0 : PySem.W.nsIn K mainGlobals "gcd" = some (some (.builtin "math.gcd")))
    (c90 : ∃ t, PySem.W.nsIn K mainGlobals "MOST_NUMBERS" = some (some (.int 80 t)))
    : ∃ fd : FuncData, (∀ (s : Shared) (u : Value), BindsTo s fd ⟨[u], []⟩ [("script", u)]) ∧ ∀ base : Heap, K.In base → base.Ns mainGlobals mg → FnG P w K mg base CX0 8 fa fd ["script"] (sp_law K) :=
  end_mk (h := h) hmg fun base => { d_is_integer := de_mk X G a0 l0 c0 k0, d_is_within := de_mk X G a1 l1 c1 k1, d_is_list := de_mk X G a2 l2 c2 k2, d_is_fraction := de_mk X G a3 l3 c3 k3, d_reduced := de_mk X G a4 l4 c4 k4, d_read_fraction := de_mk X G a5 l5 c5 k5, d_fraction_of := de_mk X G a6 l6 c6 k6, d_taken := de_mk X G a7 l7 c7 k7, d_multiplied := de_mk X G a8 l8 c8 k8, d_divided := de_mk X G a9 l9 c9 k9, d_trimmed := de_mk X G a10 l10 c10 k10, d_is_poly := de_mk X G a11 l11 c11 k11, d_read_poly := de_mk X G a12 l12 c12 k12, d_parted := de_mk X G a13 l13 c13 k13, d_poly_parted := de_mk X G a14 l14 c14 k14, d_slope_of := de_mk X G a15 l15 c15 k15, d__law_cellar := de_mk X G a16 l16 c16 k16, d__law_barrel := de_mk X G a17 l17 c17 k17, d__law_pick := de_mk X G a18 l18 c18 k18, d__law_low := de_mk X G a19 l19 c19 k19, d__law_plus := de_mk X G a20 l20 c20 k20, d__law_times := de_mk X G a21 l21 c21 k21, d__law_fraction := de_mk X G a22 l22 c22 k22, d__law_as := de_mk X G a23 l23 c23 k23, d__law_trimmed := de_mk X G a24 l24 c24 k24, d__law_product := de_mk X G a25 l25 c25 k25, d__law_sum := de_mk X G a26 l26 c26 k26, d__law_row := de_mk X G a27 l27 c27 k27, d__law_slope := de_mk X G a28 l28 c28 k28, d_law := de_mk X G a29 l29 c29 k29, n_abs := PySem.W.mg_none_of X G z0, n_all := PySem.W.mg_none_of X G z1, n_bool := PySem.W.mg_none_of X G z2, n_enumerate := PySem.W.mg_none_of X G z3, n_int := PySem.W.mg_none_of X G z4, n_isinstance := PySem.W.mg_none_of X G z5, n_len := PySem.W.mg_none_of X G z6, n_list := PySem.W.mg_none_of X G z7, n_max := PySem.W.mg_none_of X G z8, n_range := PySem.W.mg_none_of X G z9, n_repr := PySem.W.mg_none_of X G z10, n_reversed := PySem.W.mg_none_of X G z11, n_tuple := PySem.W.mg_none_of X G z12, m_gcd := PySem.W.mg_of X G m0, c_MOST_NUMBERS := Exists.elim c90 fun t e => ⟨t, PySem.W.mg_of X G e⟩ }
end Mf
open PySem PySem.W PyProof.Rows
set_option maxHeartbeats 0 in
theorem PySem.Challenge.cw_mapflow_k41_polynomials_divided_holds : PySem.Challenge.rw_mapflow_k41_polynomials_divided.Holds := by
  w_on; o_law; k_head; (case hw => w_witness2)
  k_fill
  refine Mf.walkG (l := PySem.Challenge.rw_mapflow_k41_polynomials_divided) (n := 63) (k := 8) (x := "script") (sp := Mf.sp_law) rfl (by decide) rfl ⟨rfl, by decide, by decide⟩ (fun w h Y => PySem.W.kIn_of Y) ?F (fun K H a ns hl _ hS => ⟨a, ns, rfl, hS, hl, fun _ => rfl⟩)
  case F =>
    intro w mg fa h KX G hmg
    refine' Mf.all_mk KX G hmg ?a0 ?l0 ?c0 ?k0 ?a1 ?l1 ?c1 ?k1 ?a2 ?l2 ?c2 ?k2 ?a3 ?l3 ?c3 ?k3 ?a4 ?l4 ?c4 ?k4 ?a5 ?l5 ?c5 ?k5 ?a6 ?l6 ?c6 ?k6 ?a7 ?l7 ?c7 ?k7 ?a8 ?l8 ?c8 ?k8 ?a9 ?l9 ?c9 ?k9 ?a10 ?l10 ?c10 ?k10 ?a11 ?l11 ?c11 ?k11 ?a12 ?l12 ?c12 ?k12 ?a13 ?l13 ?c13 ?k13 ?a14 ?l14 ?c14 ?k14 ?a15 ?l15 ?c15 ?k15 ?a16 ?l16 ?c16 ?k16 ?a17 ?l17 ?c17 ?k17 ?a18 ?l18 ?c18 ?k18 ?a19 ?l19 ?c19 ?k19 ?a20 ?l20 ?c20 ?k20 ?a21 ?l21 ?c21 ?k21 ?a22 ?l22 ?c22 ?k22 ?a23 ?l23 ?c23 ?k23 ?a24 ?l24 ?c24 ?k24 ?a25 ?l25 ?c25 ?k25 ?a26 ?l26 ?c26 ?k26 ?a27 ?l27 ?c27 ?k27 ?a28 ?l28 ?c28 ?k28 ?a29 ?l29 ?c29 ?k29 ?z0 ?z1 ?z2 ?z3 ?z4 ?z5 ?z6 ?z7 ?z8 ?z9 ?z10 ?z11 ?z12 ?m0 ?c90
    (case a0 => k_is); (case l0 => k_is); (case c0 => k_is); (case k0 => k_is); (case a1 => k_is); (case l1 => k_is); (case c1 => k_is); (case k1 => k_is); (case a2 => k_is); (case l2 => k_is); (case c2 => k_is); (case k2 => k_is); (case a3 => k_is); (case l3 => k_is); (case c3 => k_is); (case k3 => k_is); (case a4 => k_is); (case l4 => k_is); (case c4 => k_is); (case k4 => k_is); (case a5 => k_is); (case l5 => k_is); (case c5 => k_is); (case k5 => k_is); (case a6 => k_is); (case l6 => k_is); (case c6 => k_is); (case k6 => k_is); (case a7 => k_is); (case l7 => k_is); (case c7 => k_is); (case k7 => k_is); (case a8 => k_is); (case l8 => k_is); (case c8 => k_is); (case k8 => k_is); (case a9 => k_is); (case l9 => k_is); (case c9 => k_is); (case k9 => k_is); (case a10 => k_is); (case l10 => k_is); (case c10 => k_is); (case k10 => k_is); (case a11 => k_is); (case l11 => k_is); (case c11 => k_is); (case k11 => k_is); (case a12 => k_is); (case l12 => k_is); (case c12 => k_is); (case k12 => k_is); (case a13 => k_is); (case l13 => k_is); (case c13 => k_is); (case k13 => k_is); (case a14 => k_is); (case l14 => k_is); (case c14 => k_is); (case k14 => k_is); (case a15 => k_is); (case l15 => k_is); (case c15 => k_is); (case k15 => k_is); (case a16 => k_is); (case l16 => k_is); (case c16 => k_is); (case k16 => k_is); (case a17 => k_is); (case l17 => k_is); (case c17 => k_is); (case k17 => k_is); (case a18 => k_is); (case l18 => k_is); (case c18 => k_is); (case k18 => k_is); (case a19 => k_is); (case l19 => k_is); (case c19 => k_is); (case k19 => k_is); (case a20 => k_is); (case l20 => k_is); (case c20 => k_is); (case k20 => k_is); (case a21 => k_is); (case l21 => k_is); (case c21 => k_is); (case k21 => k_is); (case a22 => k_is); (case l22 => k_is); (case c22 => k_is); (case k22 => k_is); (case a23 => k_is); (case l23 => k_is); (case c23 => k_is); (case k23 => k_is); (case a24 => k_is); (case l24 => k_is); (case c24 => k_is); (case k24 => k_is); (case a25 => k_is); (case l25 => k_is); (case c25 => k_is); (case k25 => k_is); (case a26 => k_is); (case l26 => k_is); (case c26 => k_is); (case k26 => k_is); (case a27 => k_is); (case l27 => k_is); (case c27 => k_is); (case k27 => k_is); (case a28 => k_is); (case l28 => k_is); (case c28 => k_is); (case k28 => k_is); (case a29 => k_is); (case l29 => k_is); (case c29 => k_is); (case k29 => k_is); (case z0 => k_is); (case z1 => k_is); (case z2 => k_is); (case z3 => k_is); (case z4 => k_is); (case z5 => k_is); (case z6 => k_is); (case z7 => k_is); (case z8 => k_is); (case z9 => k_is); (case z10 => k_is); (case z11 => k_is); (case z12 => k_is); (case m0 => k_is); (case c90 => apply Exists.intro; k_is)
