import PyProof.Rows.All
import Wide.All
import OpenK.AllK
import Wide.FinOn
import HandS.ForMost
import HandS.ForExc
import HandS.IsInst
import HandS.Wide
import HandS.Gcd
import HandS.Flow
import HandS.Style
import PyProof.ReprRoads
import HandS.Star
import HandS.OwnEq
import HandS.DeepEq
import HandS.Conv
import HandS.TupAny
import PySem.Challenge.RW_mapflow_k01_papers_keep_what_they_tell
set_option Elab.async false
set_option linter.all false
set_option maxRecDepth 100000
set_option maxHeartbeats 4000000
namespace Mf
open PySem PySem.Spec PyProof.Rows L2

/-! ### a def that is run where nothing is being shown (the guards are known to be none) -/
structure FnG (P : Program) (w : World) (K : PySem.W.Frag) (mg : Str → Option Value) (base : Heap) (CX : CXT) (k : Nat) (f : Addr) (fd : FuncData) (ps : List Str) (sp : Sp) : Prop where
  size : ∀ vs H Q E, sp vs H Q E → vs.length = ps.length
  go : ∀ (A : Around), A.guards = some [] → ∀ (outer : List Env) (s : Shared) (H : Hp) (args : Args) (us : List Value) (vs : List V) (Q : VK) (E : XK),
    Room k A → Env0 P w K mg base A outer s H → BindsTo s fd args (ps.zip us) → Vals vs us → sp vs H Q E →
      codeAny (model P w) A (.call (.ref f) args) (CR CX outer P w H s Q E) s

section
variable {P : Program} {w : World} {K : PySem.W.Frag} {mg : Str → Option Value} {base : Heap}

theorem FnG.of {CX : CXT} {k : Nat} {f : Addr} {fd : FuncData} {ps : List Str} {sp : Sp} (F : FnOk P w K mg base CX k f fd ps sp) : FnG P w K mg base CX k f fd ps sp :=
  ⟨F.len, fun A _ outer s H args us vs Q E => F.run A outer s H args us vs Q E⟩

/-- a def of the text, by its body, where the guards are known -/
theorem okG {x qual : Str} {st : Stmt} {f : Addr} {fd : FuncData} {N ps : List Str} {k : Nat} {sp : Sp} (F : Fun K x qual st f fd) (S : FnScope N ps (defScope st))
    (len : ∀ vs H Q E, sp vs H Q E → vs.length = ps.length)
    (hbody : ∀ (cdv : Value) (A : Around) (outer : List Env) (s : Shared) (H : Hp) (vs : List V) (Q : VK) (E : XK),
      (A.deeper (envOfC qual (defScope st) s.heap.objs.size f cdv)).guards = some [] →
      Room k (A.deeper (envOfC qual (defScope st) s.heap.objs.size f cdv)) → sp vs H Q E →
      ∃ t, PSs (cxOf CX0 P w K mg base N qual (defScope st) f cdv A outer s H E).nox (defBody st) t ∧
        t { nx := fun _ H' => Q .non H', rt := Q } (start N vs) H) :
    FnG P w K mg base CX0 (k + 1) f fd ps sp := by
  obtain ⟨oc, od, kV, doc, pm, an, cdv, ct, osl, rfl, lk, hcd⟩ := F.ex
  refine ⟨len, ?_⟩
  intro A hA outer s H args us vs Q E hr e0 hb r hsp
  have KX : K.In s.heap := e0.mod.kin.keeps fun b o e => (e0.bs b o e).1
  have lim : s.heap.NoLimit := e0.mod.nolimit.keeps fun b o e => (e0.bs b o e).1
  have hl := len _ _ _ _ hsp
  have kinds : ∀ y ∈ ps.zip us, (defScope st).names.lookup y.1 = some .local ∨
      ((defScope st).names.lookup y.1 = some .cell ∧ ((cellsFrom (s.heap.objs.size + 1) (defScope st).names []).lookup y.1).isSome = true) := by
    intro y hy
    obtain ⟨n, v⟩ := y
    cases S.par n (List.of_mem_zip hy).1 with
    | inl q => exact Or.inl q
    | inr q => exact Or.inr ⟨q, PySem.W.cellsFrom_some _ _ _ (.inl q)⟩
  refine codeAny_call_function hr.depth (KX _ _ lk) rfl S.co S.gen rfl (PySem.W.codeRec_of KX hcd) (hb _ _ _ _ ?_)
  refine wpAny_newFunctionEnv_cells S.kind kinds ?_
  intro env he s1 x
  subst he
  refine ⟨lim.keeps x.toInCall.keep, codeAny_func ?_⟩
  have hAg : (A.deeper (envOfC qual (defScope st) s.heap.objs.size f cdv)).guards = some [] := hA
  obtain ⟨t, ht, hq⟩ := hbody cdv A outer s H vs Q E hAg (hr.deeper _) hsp
  have I := inv_start (CX := CX0) (mg := mg) (base := base) (N := N) (qual := qual) (f := f) (cd := cdv) (E := E) S hr.hd e0 hl r x
  refine wpAny_mono (ht.nox.run [] s1 (start N vs) H _ I hq) ?_ (fun e s' hs => hs)
  intro fl s' hs
  cases fl with
  | ret u =>
    obtain ⟨v, σ', H', J, rv, q⟩ := hs
    exact ⟨v, H', J.os, J.bare, J.base, J.hok, rv, q⟩
  | next =>
    obtain ⟨σ', H', J, q⟩ := hs
    exact ⟨V.non, H', J.os, J.bare, J.base, J.hok, (rfl : Value.none = Value.none), q⟩
  | brk => obtain ⟨_, _, _, q⟩ := hs; exact False.elim q
  | cont => obtain ⟨_, _, _, q⟩ := hs; exact False.elim q
end

section
variable {X : Cx} {CX : CXT} {k : Nat} {f C : Addr} {fd : FuncData} {ps : List Str} {sp : Sp} {E : XK} {x : Str} {p pos : Pos} {e : Expr} {es : List Expr} {t : TA}
theorem run_fnG {pins : List (Addr × Obj)} {σ : L2.St} {H : Hp} {s : Shared} {Q : VK} {us : List Value} {vs : List V} (F : FnG X.prog X.w X.K X.mg X.base CX k f fd ps sp)
    (hA : X.A.guards = some []) (hr : Room k X.A) (hb : Binds X.K fd ps []) (hx : Passes CX X E)
    (I : Inv X pins σ H s) (r : Vals vs us) (h : sp vs H Q E) : wpAny (model X.prog X.w) X.A (call (.ref f) us) (EP X pins σ Q) X.xe s := by
  have hl : (us ++ []).length = ps.length := by
    rw [List.append_nil, ← r.length]
    exact F.size _ _ _ _ h
  have hb' := hb s us I.kIn hl
  rw [List.append_nil] at hb'
  refine wpAny_call (codeAny_mono (F.go X.A hA X.stack s H ⟨us, []⟩ us vs Q E hr I.env0 hb' r h) ?_)
  intro r s' hq
  cases r with
  | error e => exact hx pins σ H s e s' I hq
  | ok fl => cases fl with
    | ret u => exact I.after hq
    | next => exact hq.elim
    | brk => exact hq.elim
    | cont => exact hq.elim
/-- f(e, ..) where the guards are known -/
theorem pe_callG (F : FnG X.prog X.w X.K X.mg X.base CX k f fd ps sp) (hA : X.A.guards = some []) (hr : Room k X.A) (hg : Gl X x) (hm : X.mg x = some (.ref f))
    (hk : PySem.W.keepIn X.K (.ref f) = true) (hb : Binds X.K fd ps []) (hx : Passes CX X E)
    (ha : PA X (e :: es) t) (hdb : (x == ("__debug__" : Str)) = false := by decide) (he : starEach (e :: es) X.env = (false, eval e X.env) :: starEach es X.env := by rfl)
    (hpl : (backTo pos (starEach es X.env)).any (·.1) = false := by rfl) :
    PE X (.Call (.Name x p) (e :: es) [] pos) (fun σ H Q => t σ H fun vs H1 => sp vs H1 Q E) := by
  refine ⟨fun pins s σ H Q I h => wpAny_Call_Name_kw (ld_glob I hg hm ?_ hdb)⟩
  refine PySem.W.callWith_K (h₀ := X.base) I.ok.mod.kin hk (thn (ha.run pos pins s σ H _ I h) ?_) he hpl
  intro us s1 ⟨vs, H1, I1, r, q⟩
  exact ⟨I1.kIn, run_fnG F hA hr hb hx I1 r q⟩
end

/-! ### the law's call, where its def is an FnG -/
theorem law_callG {P : Program} {w : World} {K : PySem.W.Frag} {mg mb : Str → Option Value} {k : Nat} {fa a : Addr} {fd : FuncData} {x : Str} {sp : Sp} {s₁ : Shared} {vs : List Value} {ns : List Int}
    (KX : K.In s₁.heap) (hns : s₁.heap.Ns mainGlobals mg) (hb : s₁.heap.Ns builtinsNs mb) (hbb : ∀ x : Str, x ≠ "__name__" → mb x = bootBuiltins x)
    (hlim : s₁.heap.NoLimit) (hg : s₁.gens = #[])
    (ha : s₁.heap.get? a = some { cls := .type "list", data := .seq vs.toArray }) (hi : IntsAre vs ns) (hl : ns.length ≤ sizeLine) (hr : Room k callerA)
    (F : ∀ base : Heap, K.In base → base.Ns mainGlobals mg → FnG P w K mg base CX0 k fa fd [x] sp)
    (hbind : ∀ (s : Shared) (u : Value), BindsTo s fd ⟨[u], []⟩ [(x, u)])
    (hsp : ∀ H : Hp, Only H → SqL K H a (ns.map V.int) → sp [.ref a] H (fun v _ => v = .bl true) fun _ _ _ => False) :
    codeAny (model P w) callerA (.call (.ref fa) ⟨[.ref a], []⟩)
      (fun r s' => r = .ok (.ret (.bool true)) ∧ OldK s₁.heap s'.heap ∧ s'.os = s₁.os ∧ AllBare s'.gens) s₁ := by
  have rv := vals_ints hi
  have lenV := hi.length
  have main : ∀ H : Hp, Only H → SqL K H a (ns.map V.int) → HOk P w H s₁.heap → (∀ b, H b ≠ none → b = a) → (H a ≠ none → K.lookup a = none) →
      codeAny (model P w) callerA (.call (.ref fa) ⟨[.ref a], []⟩)
        (fun r s' => r = .ok (.ret (.bool true)) ∧ OldK s₁.heap s'.heap ∧ s'.os = s₁.os ∧ AllBare s'.gens) s₁ := by
    intro H hO hS hok hA hK
    have unt : ∀ {b : Addr} {o : Obj}, s₁.heap.get? b = some o → (b = a → False) → H b = none := by
      intro b o e ne
      cases q : H b with
      | none => rfl
      | some u => exact (ne (hA b (by rw [q]; exact Option.some_ne_none _))).elim
    have nsK : ∀ {b : Addr} {m : Str → Option Value}, s₁.heap.Ns b m → (hidT s₁.heap H).Ns b m := by
      intro b m h
      obtain ⟨o, es, ep, e, d, r⟩ := h
      refine ⟨o, es, ep, hidT_get e (unt e fun z => ?_), d, r⟩
      subst z
      rw [ha] at e
      cases e
      cases d
    have hKb : K.In (hidT s₁.heap H) := by
      intro b o e
      refine hidT_get (KX b o e) ?_
      cases q : H b with
      | none => rfl
      | some u =>
        have nb : H b ≠ none := by
          rw [q]
          exact Option.some_ne_none _
        have z := hA b nb
        subst z
        rw [hK nb] at e
        cases e
    have hM : Mod K mg (hidT s₁.heap H) := by
      refine ⟨hKb, nsK hns, ⟨mb, nsK hb, hbb⟩, ?_⟩
      obtain ⟨mc, h1, h2⟩ := hlim
      exact ⟨mc, nsK h1, h2⟩
    have e0 : Env0 P w K mg (hidT s₁.heap H) callerA [] s₁ H :=
      { frames := rfl, mod := hM, bs := fun b o e => of_hidT e, bsz := Nat.le_of_eq (hidT_size _ _), funs := trivial,
        frf := fun b hb => absurd hb List.not_mem_nil, hok := hok, bare := .of_eq hg }
    have run := (F _ hKb (nsK hns)).go callerA rfl [] s₁ H ⟨[.ref a], []⟩ [.ref a] [.ref a] (fun v _ => v = .bl true) (fun _ _ _ => False) hr e0 (hbind s₁ (.ref a)) (.cons rfl .nil) (hsp H hO hS)
    refine codeAny_mono run ?_
    intro r s' h
    cases r with
    | error e => exact False.elim h
    | ok fl => cases fl with
      | next => exact False.elim h
      | brk => exact False.elim h
      | cont => exact False.elim h
      | ret u =>
        obtain ⟨v, H', os, bare, un, hok', r', q⟩ := h
        obtain rfl : v = .bl true := q
        obtain rfl : u = Value.bool true := r'
        refine ⟨rfl, OldK.of_keep ?_, os, bare⟩
        intro b o e
        cases q : H b with
        | none => exact un.keep b o e q List.not_mem_nil List.not_mem_nil
        | some u =>
          cases hO b with
          | inl z =>
            rw [q] at z
            cases z
          | inr z =>
            obtain ⟨ob, xs, z⟩ := z
            obtain ⟨e1, _⟩ := hok b _ z
            obtain ⟨e2, _⟩ := hok' b _ (un.frzs b ob _ z)
            rw [e] at e1
            cases e1
            exact e2
  cases hk : K.lookup a with
  | some o =>
    have e := KX a o hk
    rw [ha] at e
    cases e
    refine main (fun _ => none) (fun _ => Or.inl rfl) (Or.inr ⟨_, vs.toArray, _, hk, rfl, rfl, rfl, ?_, ?_⟩) ?_ (fun b z => absurd rfl z) (fun z => absurd rfl z)
    · rw [List.size_toArray, lenV]
      exact hl
    · simpa using rv
    · intro b u z
      have z' : (none : Option HO) = some u := z
      cases z'
  | none =>
    have hat : ∀ b : Addr, (fun b => if b = a then some (HO.frz { cls := .type "list", data := .seq vs.toArray } (.lst (ns.map V.int))) else none) b ≠ none → b = a := by
      intro b z
      by_cases hb : b = a
      · exact hb
      · exact absurd (if_neg hb) z
    refine main (fun b => if b = a then some (HO.frz { cls := .type "list", data := .seq vs.toArray } (.lst (ns.map V.int))) else none) ?_ (Or.inl (Or.inr ⟨_, if_pos rfl⟩)) ?_ hat (fun _ => hk)
    · intro b
      by_cases hb : b = a
      · exact Or.inr ⟨_, _, if_pos hb⟩
      · exact Or.inl (if_neg hb)
    · intro b u z
      by_cases hb : b = a
      · have z' := (if_pos hb).symm.trans z
        cases z'
        subst hb
        refine ⟨ha, ?_, vs, _, rv, ha⟩
        rw [List.length_map]
        exact hl
      · have z' := (if_neg hb).symm.trans z
        cases z'

/-- the law row from the promise of its def -/
theorem walkG {l : PySem.W.OpenLaw} {n k : Nat} {q : Program} {loose : List Str} {XP : (Str → Option Value) → Heap → Prop} {YP : World → Heap → Prop} {d : DefRec} {K : Params → PySem.W.Frag} {sp : PySem.W.Frag → Sp} {x : Str}
    (hn : l.most = some n) (hn2 : n ≤ sizeLine) (hdf : d.params.defaults = []) (hr : Room k callerA)
    (hY : ∀ (w : World) (h : Heap), YP w h → (K w.params).In h)
    (F : ∀ (w : World) (mg : Str → Option Value) (fa : Addr) (h : Heap), (K w.params).In h → h.Ns mainGlobals mg → mg d.name = some (.ref fa) →
      ∃ fd : FuncData, (∀ (s : Shared) (u : Value), BindsTo s fd ⟨[u], []⟩ [(x, u)]) ∧
        ∀ base : Heap, (K w.params).In base → base.Ns mainGlobals mg → FnG l.prog w (K w.params) mg base CX0 k fa fd [x] (sp (K w.params)))
    (hsp : ∀ (K : PySem.W.Frag) (H : Hp) (a : Addr) (ns : List Int), ns.length ≤ n → Only H → SqL K H a (ns.map V.int) → sp K [.ref a] H (fun v _ => v = .bl true) fun _ _ _ => False) :
    PySem.W.WalkO q loose XP YP l.row.toRowW d [] (fun f vs => PySem.call f vs) := by
  refine Att.attach_call hn hdf ?_
  intro w s₀ s₁ mg mb fa o pm cd doc a vs ns G Y ho hd hcd hmg hobj hints hlen hg
  have KX := hY w _ Y
  obtain ⟨fd, hb, hF⟩ := F w mg fa _ KX G.T.g hmg
  exact law_callG KX G.T.g G.T.b G.T.builtins G.T.nolimit hg hobj hints (Nat.le_trans hlen hn2) hr hF hb (fun H hO hS => hsp _ H a ns hlen hO hS)

/-! ### repr of data -/
section
variable {X : Cx}
theorem call_reprD (hA : X.A.guards = some []) (hu : X.A.units + 64 < cLine) : CallR X (.builtin "repr") (fun xs H Q => ∃ (a : Addr) (d : PyData), xs = [.ref a] ∧ Dp X.K H (.ref a) d ∧
    d.showable = true ∧ d.hasDict = false ∧ d.depth ≤ 60 ∧ d.shown.length ≤ sizeLine ∧ Q (.str d.shown) H) := by
  intro pins s σ H xs us Q I r h
  obtain ⟨a, d, rfl, hd, hs, hn, hdep, hz, q⟩ := h
  obtain ⟨u, rfl, rx⟩ := vals1 r
  cases (show u = Value.ref a from rx)
  obtain ⟨as, rd⟩ := Dp.reads I d _ _ hd rfl
  refine repr_of_reads' rd hs (PyData.noDict_hsm hn) hA (by omega) (fun b o e => e) ?_ hz
  intro h' u tk hk
  exact ⟨.str d.shown, H, I.kept hk, ⟨u, rfl⟩, q⟩
end
end Mf
namespace Mf
open PySem PySem.Spec PyProof.Rows L2
/-- where one stands: the program, the world, what is written, the module's names -/
structure Cn where
  P : Program
  w : World
  K : PySem.W.Frag
  mg : Str → Option Value
  base : Heap
abbrev cnOf (X : Cx) : Cn := ⟨X.prog, X.w, X.K, X.mg, X.base⟩
/-- a def that can be called by its name -/
structure Cl (c : Cn) (k : Nat) (x : Str) (st : Stmt) (ps : List Str) (sp : Sp) : Prop where
  ex : ∃ (f : Addr) (fd : FuncData), FnG c.P c.w c.K c.mg c.base CX0 k f fd ps sp ∧ c.mg x = some (.ref f) ∧ Fun c.K x x st f fd
/-- a def of the text as it stands -/
structure De (c : Cn) (x : Str) (st : Stmt) : Prop where
  ex : ∃ (f : Addr) (fd : FuncData), c.mg x = some (.ref f) ∧ Fun c.K x x st f fd
/-- the arguments written one behind another -/
def Pl (x : Str) (st : Stmt) (ps : List Str) : Prop := ∀ (kV doc pm : Value) (an : Option Addr) (cdv ct : Value) (us : List Value), us.length = ps.length →
  bindArgs (PySem.W.fnOf x x (defArgs st) (defBody st) (defScope st) .none kV doc pm an cdv ct) ⟨us, []⟩ = pure (ps.zip us)
/-- .. by names alone: the names as they are written, and how they are put in order -/
def Pk (x : Str) (st : Stmt) (ps ks : List Str) (g : List Value → List Value) : Prop := ∀ (kV doc pm : Value) (an : Option Addr) (cdv ct : Value) (ws : List Value), ws.length = ks.length →
  bindArgs (PySem.W.fnOf x x (defArgs st) (defBody st) (defScope st) .none kV doc pm an cdv ct) ⟨[], ks.zip ws⟩ = pure (ps.zip (g ws))

theorem De.cl {c : Cn} {x : Str} {st : Stmt} {N ps : List Str} {k : Nat} {sp : Sp} (D : De c x st) (S : FnScope N ps (defScope st))
    (len : ∀ vs H Q E, sp vs H Q E → vs.length = ps.length)
    (hbody : ∀ (f : Addr) (cdv : Value) (A : Around) (outer : List Env) (s : Shared) (H : Hp) (vs : List V) (Q : VK) (E : XK),
      (A.deeper (envOfC x (defScope st) s.heap.objs.size f cdv)).guards = some [] →
      Room k (A.deeper (envOfC x (defScope st) s.heap.objs.size f cdv)) → sp vs H Q E →
      ∃ t, PSs (cxOf CX0 c.P c.w c.K c.mg c.base N x (defScope st) f cdv A outer s H E).nox (defBody st) t ∧
        t { nx := fun _ H' => Q .non H', rt := Q } (start N vs) H) : Cl c (k + 1) x st ps sp := by
  obtain ⟨f, fd, hm, F⟩ := D.ex
  exact ⟨f, fd, okG F S len (hbody f), hm, F⟩

section
variable {X : Cx} {k j : Nat} {f : Addr} {ps ks : List Str} {sp : Sp} {x : Str} {p pos : Pos} {e : Expr} {es : List Expr} {t tk : TA} {st : Stmt} {kws : List Keyword}
def tCl (sp : Sp) (t : TA) : TE := fun σ H Q => t σ H fun vs H1 => sp vs H1 Q E0
def tClK (sp : Sp) (g : List V → List V) (t : TA) : TE := fun σ H Q => t σ H fun vs H1 => sp (g vs) H1 Q E0
/-- f(e, ..) -/
theorem pe_f (c : Cl (cnOf X) k x st ps sp) (hA : X.A.guards = some []) (hr : Room j X.A) (hk : k ≤ j) (hp : Pl x st ps) (hg : Gl X x) (ha : PA X (e :: es) t)
    (hdb : (x == ("__debug__" : Str)) = false := by decide) (he : starEach (e :: es) X.env = (false, eval e X.env) :: starEach es X.env := by rfl)
    (hpl : (backTo pos (starEach es X.env)).any (·.1) = false := by rfl) : PE X (.Call (.Name x p) (e :: es) [] pos) (tCl sp t) := by
  obtain ⟨f, fd, F, hm, W⟩ := c.ex
  exact pe_callG F hA (hr.mono hk) hg hm W.kp (W.binds hp) pass0 ha hdb he hpl
/-- f(k = e, ..) -/
theorem pe_fk {g : List Value → List Value} {gV : List V → List V} (c : Cl (cnOf X) k x st ps sp) (hA : X.A.guards = some []) (hr : Room j X.A) (hk : k ≤ j) (hp : Pk x st ps ks g)
    (rel : ∀ {vs : List V} {us : List Value}, Vals vs us → us.length = ks.length → Vals (gV vs) (g us)) (hl : ∀ vs : List V, (gV vs).length = ps.length → vs.length = ks.length) (hg : Gl X x) (hkw : PK X kws tk)
    (hall : (backToKw pos (keywordEach kws X.env)).all (·.1.isSome) = true := by rfl) (hks : (backToKw pos (keywordEach kws X.env)).filterMap (·.1) = ks := by rfl)
    (hdb : (x == ("__debug__" : Str)) = false := by decide)
    (hpl : ((backTo pos (starEach [] X.env)).any (·.1) || (backToKw pos (keywordEach kws X.env)).any (·.1.isNone)) = false := by rfl) :
    PE X (.Call (.Name x p) [] kws pos) (tClK sp gV tk) := by
  obtain ⟨f, fd, F, hm, W⟩ := c.ex
  refine ⟨fun pins s σ H Q I h => ?_⟩
  refine wpAny_Call_Name_kw (ld_glob I hg hm ?_ hdb)
  refine PySem.W.callWith_KW0 (h₀ := X.base) I.ok.mod.kin W.kp hall (thn (hkw.run pos pins s σ H _ I h) ?_) hpl
  intro ws s2 ⟨zs, H2, I2, rz, q2⟩
  refine ⟨I2.kIn, ?_⟩
  rw [hks]
  have l0 := F.size _ _ _ _ q2
  have l1 : ws.length = ks.length := by
    rw [← rz.length]
    exact hl _ l0
  have r2 := rel rz l1
  have hb : BindsTo s2 fd ⟨[], ks.zip ws⟩ (ps.zip (g ws)) := by
    obtain ⟨oc, od, kV, doc, pm, an, cdv, ct, osl, rfl, lk, hcd⟩ := W.ex
    exact .of_eq (hp kV doc pm an cdv ct ws l1)
  refine wpAny_call (codeAny_mono (F.go X.A hA X.stack s2 H2 ⟨[], ks.zip ws⟩ (g ws) (gV zs) Q E0 (hr.mono hk) I2.env0 hb r2 q2) ?_)
  intro r s' hq
  cases r with
  | error e => exact pass0 pins σ H2 s2 e s' I2 hq
  | ok fl => cases fl with
    | ret u => exact I2.after hq
    | next => exact hq.elim
    | brk => exact hq.elim
    | cont => exact hq.elim
end

/-! ### operators for whatever comes -/
section
variable {X : Cx}
theorem OpR_or {f : Value → Value → Sem Value} {r r' : R2} (h : OpR X f r) (h' : OpR X f r') : OpR X f (fun x y H Q => r x y H Q ∨ r' x y H Q) := by
  intro pins s σ H x y v u Q I rx ry q
  cases q with
  | inl q => exact h pins s σ H x y v u Q I rx ry q
  | inr q => exact h' pins s σ H x y v u Q I rx ry q
def CMulU (i j : Int) : Prop := CMul i j ∨ CMulW i j
theorem op_mulI : OpR X (binaryOp .Mult) (rI CMulU fun i j => .int (i * j)) := by
  intro pins s σ H x y v u Q I rx ry q
  obtain ⟨i, j, e1, e2, c, q⟩ := q
  cases c with
  | inl c => exact op_mul pins s σ H x y v u Q I rx ry ⟨i, j, e1, e2, c, q⟩
  | inr c => exact op_mulW pins s σ H x y v u Q I rx ry ⟨i, j, e1, e2, c, q⟩
def rAddU : R2 := fun x y H Q => rI0 (fun i j => .int (i + j)) x y H Q ∨ rCat x y H Q
theorem op_addU : OpR X (binaryOp .Add) rAddU := OpR_or op_add op_cat
def rMulU : R2 := fun x y H Q => rI CMulU (fun i j => .int (i * j)) x y H Q ∨ rRep x y H Q
theorem op_mulU : OpR X (binaryOp .Mult) rMulU := OpR_or op_mulI op_rep
def rEqU (K : PySem.W.Frag) : R2 := fun x y H Q => rEq x y H Q ∨ rEqD K x y H Q
def rNeU (K : PySem.W.Frag) : R2 := fun x y H Q => rNe x y H Q ∨ rNeD K x y H Q
theorem op_eqU (hu : X.A.units + 64 < cLine) : OpR X (compareOp .Eq) (rEqU X.K) := OpR_or op_eq (op_eqD hu)
theorem op_neU (hu : X.A.units + 64 < cLine) : OpR X (compareOp .NotEq) (rNeU X.K) := OpR_or op_ne (op_neD hu)
/-- is of a bool that is written -/
def rIsT (b : Bool) : R2 := fun x y H Q => y = .bl b ∧ ((∃ a, x = .bl a ∧ Q (.bl (decide (a = b))) H) ∨ (∃ i, x = .int i ∧ Q (.bl false) H))
def rNotT (b : Bool) : R2 := fun x y H Q => y = .bl b ∧ ((∃ a, x = .bl a ∧ Q (.bl (!decide (a = b))) H) ∨ (∃ i, x = .int i ∧ Q (.bl true) H))
theorem op_notT {b : Bool} : OpR X (compareOp .IsNot) (rNotT b) := by
  intro pins s σ H x y v u Q I rx ry h
  obtain ⟨rfl, h⟩ := h
  rcases h with ⟨a, rfl, q⟩ | ⟨i, rfl, q⟩
  · exact op_notBl pins s σ H _ _ v u Q I rx ry ⟨a, b, rfl, rfl, q⟩
  · obtain ⟨t, rfl⟩ := rx
    cases (show u = Value.bool b from ry)
    exact wpAny_isNot_other rfl (fun z => Value.noConfusion z) ⟨.bl true, H, I, rfl, q⟩
/-- is None, is not None -/
def rIsN : R2 := fun x y H Q => y = .non ∧ Q (.bl (decide (x = .non))) H
def rNotN : R2 := fun x y H Q => y = .non ∧ Q (.bl (!decide (x = .non))) H
theorem op_isNU : OpR X (compareOp .Is) rIsN := op_isN
theorem op_notNU : OpR X (compareOp .IsNot) rNotN := op_notN

/-- what a for walks: one rule or another -/
theorem pi_or {tg it : Expr} {w1 w2 : TI} (h1 : PI X tg it w1) (h2 : PI X tg it w2) : PI X tg it (fun σ H R => w1 σ H R ∨ w2 σ H R) := by
  refine ⟨fun pins s σ H R I h => ?_⟩
  cases h with
  | inl h => exact h1.run pins s σ H R I h
  | inr h => exact h2.run pins s σ H R I h
end

/-! ### isinstance(e, (list, tuple)): the tuple of classes is not tracked -/
def tSeqP (K : PySem.W.Frag) (te : TE) : TE := fun σ H Q => te σ H fun x H1 => ∃ t b, TyX K H1 x (.type t) ∧ PySem.W.kitAny K (.type t) [.type "list", .type "tuple"] = some b ∧ Q (.bl b) H1
section
variable {X : Cx} {e : Expr} {te : TE} {p p1 p2 pt pos : Pos} {kt : Nat}
theorem pe_isSeq (hg : Gl X "isinstance") (hm : X.mg "isinstance" = none) (hg1 : Gl X "list") (hm1 : X.mg "list" = none) (hg2 : Gl X "tuple") (hm2 : X.mg "tuple" = none) (he : PE X e te)
    (hs : starEach [e, .Tuple [.Name "list" p1, .Name "tuple" p2] kt pt] X.env = [(false, eval e X.env), (false, eval (.Tuple [.Name "list" p1, .Name "tuple" p2] kt pt) X.env)] := by rfl)
    (hi : starEach [.Name "list" p1, .Name "tuple" p2] X.env = [(false, eval (.Name "list" p1) X.env), (false, eval (.Name "tuple" p2) X.env)] := by rfl) :
    PE X (.Call (.Name "isinstance" p) [e, .Tuple [.Name "list" p1, .Name "tuple" p2] kt pt] [] pos) (tSeqP X.K te) := by
  refine ⟨fun pins s σ H Q I h => ?_⟩
  have hv : bootBuiltins "isinstance" = some (.builtin "isinstance") := by decide +kernel
  refine wpAny_Call_Name_kw (ld_blt I hg hm hv ?_ (by decide) (by decide))
  refine PyProof.Rows.callWith_builtin1 ?_ (by rw [hs]; rfl) (by rfl)
  rw [hs]
  show wpAny _ _ (spliced ((false, eval e X.env) :: backTo pos [(false, eval (.Tuple [.Name "list" p1, .Name "tuple" p2] kt pt) X.env)])) _ _ s
  refine Calls.spliced_cons (thn (he.run pins s σ H _ I h) ?_)
  intro u s1 ⟨x, H1, I1, r1, t, b, ty, kt', q⟩
  refine Calls.spliced_cons (wpAny_mono (Q := fun v s2 => v = .ref s1.heap.objs.size ∧ s2 = { s1 with heap := s1.heap.push { cls := .type "tuple", data := .seq [Value.type "list", Value.type "tuple"].toArray } }) ?_ ?_ (fun _ _ z => z))
  · refine wpAny_Tuple_spliced (x1 := kt) ?_
    rw [hi]
    show wpAny _ _ (spliced ((false, eval (.Name "list" p1) X.env) :: backTo pt [(false, eval (.Name "tuple" p2) X.env)])) _ _ s1
    refine Calls.spliced_cons (ld_blt I1 hg1 hm1 PyProof.Rows.boot_list ?_ (by decide) (by decide))
    refine Calls.spliced_cons (ld_blt I1 hg2 hm2 PyProof.Rows.boot_tuple ?_ (by decide) (by decide))
    refine Calls.spliced_nil ?_
    exact ⟨by show 2 ≤ sizeLine; decide, rfl, rfl⟩
  · intro v s2 hv
    obtain ⟨rfl, rfl⟩ := hv
    refine Calls.spliced_nil ?_
    have I2 := I1.kept (h' := s1.heap.push { cls := .type "tuple", data := .seq [Value.type "list", Value.type "tuple"].toArray }) (t' := s1.toks) (fun b u e => Heap.get?_push_of_some _ e)
    obtain ⟨Pz, Z, pz, hx⟩ := kit_of I2 r1 ty
    exact PySem.W.kia_tup Z I2.kIn pz (Heap.get?_push_size _ rfl) kt' hx fun tk => ⟨.bl b, H1, I2.tok tk, rfl, q⟩
end
end Mf
namespace Mf
open PySem PySem.Spec PyProof.Rows L2

/-! ### readings, step by step -/
section
variable {K : PySem.W.Frag} {σ : L2.St} {H : Hp} {Q : VK} {v x y : V} {ta tb te : TE} {t u tt : TT} {tr : TA} {r : R2} {D : Ends} {t1 t2 : TS}
theorem g_var {i : Nat} (h : σ[i]? = some (some v)) (q : Q v H) : tVar i σ H Q := ⟨v, h, q⟩
theorem g_c (q : Q v H) : tC v σ H Q := q
theorem g_op (q : ta σ H fun x H1 => tb σ H1 fun y H2 => r x y H2 Q) : tOp r ta tb σ H Q := q
theorem g_un {r : V → Hp → VK → Prop} (q : ta σ H fun x H1 => r x H1 Q) : tUn r ta σ H Q := q
theorem g_cb {r : List V → Hp → VK → Prop} (q : tr σ H fun vs H1 => r vs H1 Q) : tCB r tr σ H Q := q
theorem g_cl {sp : Sp} (q : tr σ H fun vs H1 => sp vs H1 Q E0) : tCl sp tr σ H Q := q
theorem g_clk {sp : Sp} {g : List V → List V} (q : tr σ H fun vs H1 => sp (g vs) H1 Q E0) : tClK sp g tr σ H Q := q
theorem g_nil {R : List V → Hp → Prop} (q : R [] H) : tNil σ H R := q
theorem g_cons {R : List V → Hp → Prop} (q : ta σ H fun x H1 => tr σ H1 fun xs H2 => R (x :: xs) H2) : tCons ta tr σ H R := q
theorem g_tB {R : Bool → Hp → Prop} (q : te σ H fun x H1 => ∃ c, x = .bl c ∧ R c H1) : tB te σ H R := q
theorem g_test {R : Bool → Hp → Prop} (q : te σ H fun x H1 => ∃ c, x = .bl c ∧ R c H1) : tTest te σ H R := q
theorem g_bl {b : Bool} {R : Bool → Prop} (q : R b) : ∃ c, V.bl b = .bl c ∧ R c := ⟨b, rfl, q⟩
theorem g_and {R : Bool → Hp → Prop} (q : t σ H fun c H1 => if c = true then u σ H1 R else R false H1) : tAnd t u σ H R := q
theorem g_or {R : Bool → Hp → Prop} (q : t σ H fun c H1 => if c = true then R true H1 else u σ H1 R) : tOr t u σ H R := q
theorem g_not {R : Bool → Hp → Prop} (q : t σ H fun c H1 => R (!c) H1) : tNot t σ H R := q
theorem g_andV (q : ta σ H fun x H1 => ∃ c, x = .bl c ∧ if c = true then tb σ H1 Q else Q (.bl false) H1) : tAndV ta tb σ H Q := q
theorem g_orV (q : ta σ H fun x H1 => ∃ c, x = .bl c ∧ if c = true then Q (.bl true) H1 else tb σ H1 Q) : tOrV ta tb σ H Q := q
theorem g_notV (q : ta σ H fun x H1 => ∃ c, x = .bl c ∧ Q (.bl (!c)) H1) : tNotV ta σ H Q := q
theorem g_if (q : t σ H fun c H1 => if c = true then ta σ H1 Q else tb σ H1 Q) : tIf t ta tb σ H Q := q
theorem g_ifS (q : t σ H fun b H1 => if b = true then t1 D σ H1 else t2 D σ H1) : tIfS t t1 t2 D σ H := q
theorem g_seq (q : t1 ⟨t2 D, D.rt, D.bk, D.ct⟩ σ H) : tSeq t1 t2 D σ H := q
theorem g_next (q : D.nx σ H) : tNext D σ H := q
theorem g_ret (q : te σ H D.rt) : tRet te D σ H := q
theorem g_drop (q : te σ H fun _ H1 => D.nx σ H1) : tDrop te D σ H := q
theorem g_asg {g : TG} (q : te σ H fun x H1 => g x σ H1 D.nx) : tAsg te g D σ H := q
theorem g_name {i : Nat} {R : L2.St → Hp → Prop} (q : R (σ.set i (some v)) H) : gName i v σ H R := q
theorem g_I0 {g : Int → Int → V} {i j : Int} (q : Q (g i j) H) : rI0 g (.int i) (.int j) H Q := ⟨i, j, rfl, rfl, q⟩
theorem g_I {C : Int → Int → Prop} {g : Int → Int → V} {i j : Int} (c : C i j) (q : Q (g i j) H) : rI C g (.int i) (.int j) H Q := ⟨i, j, rfl, rfl, c, q⟩
theorem g_addI {i j : Int} (q : Q (.int (i + j)) H) : rAddU (.int i) (.int j) H Q := .inl ⟨i, j, rfl, rfl, q⟩
theorem g_mulI {i j : Int} (c : CMulU i j) (q : Q (.int (i * j)) H) : rMulU (.int i) (.int j) H Q := .inl ⟨i, j, rfl, rfl, c, q⟩
theorem g_U {g : Int → V} {i : Int} (q : Q (g i) H) : rU g (.int i) H Q := ⟨i, rfl, q⟩
theorem g_isN (q : Q (.bl (decide (x = .non))) H) : rIsN x .non H Q := ⟨rfl, q⟩
theorem g_notN (q : Q (.bl (!decide (x = .non))) H) : rNotN x .non H Q := ⟨rfl, q⟩
theorem g_notTb {a b : Bool} (q : Q (.bl (!decide (a = b))) H) : rNotT b (.bl a) (.bl b) H Q := ⟨rfl, .inl ⟨a, rfl, q⟩⟩
theorem g_notT1 (q : Q (.bl false) H) : rNotT true (.bl true) (.bl true) H Q := ⟨rfl, .inl ⟨true, rfl, q⟩⟩
theorem g_notT2 (q : Q (.bl true) H) : rNotT true (.bl false) (.bl true) H Q := ⟨rfl, .inl ⟨false, rfl, q⟩⟩
theorem g_notT3 (q : Q (.bl true) H) : rNotT false (.bl true) (.bl false) H Q := ⟨rfl, .inl ⟨true, rfl, q⟩⟩
theorem g_notT4 (q : Q (.bl false) H) : rNotT false (.bl false) (.bl false) H Q := ⟨rfl, .inl ⟨false, rfl, q⟩⟩
theorem g_notTi {i : Int} {b : Bool} (q : Q (.bl true) H) : rNotT b (.int i) (.bl b) H Q := ⟨rfl, .inr ⟨i, rfl, q⟩⟩
theorem g_eqI {i j : Int} (q : Q (.bl (decide (i = j))) H) : rEqU K (.int i) (.int j) H Q := .inl ⟨rfl, by
  have e : decide (V.int i = V.int j) = decide (i = j) := by
    by_cases h : i = j
    · subst h; simp
    · simp [h]
  rw [e]; exact q⟩
theorem g_neI {i j : Int} (q : Q (.bl (!decide (i = j))) H) : rNeU K (.int i) (.int j) H Q := .inl ⟨rfl, by
  have e : decide (V.int i = V.int j) = decide (i = j) := by
    by_cases h : i = j
    · subst h; simp
    · simp [h]
  rw [e]; exact q⟩
theorem g_neS {a b : Str} (q : Q (.bl (!decide (a = b))) H) : rNeU K (.str a) (.str b) H Q := .inl ⟨rfl, by
  have e : decide (V.str a = V.str b) = decide (a = b) := by
    by_cases h : a = b
    · subst h; simp
    · simp [h]
  rw [e]; exact q⟩
theorem g_eqS {a b : Str} (q : Q (.bl (decide (a = b))) H) : rEqU K (.str a) (.str b) H Q := .inl ⟨rfl, by
  have e : decide (V.str a = V.str b) = decide (a = b) := by
    by_cases h : a = b
    · subst h; simp
    · simp [h]
  rw [e]; exact q⟩
theorem g_iteT {A B : Prop} (h : A) : if true = true then A else B := iteT h
theorem g_iteF {A B : Prop} (h : B) : if false = true then A else B := iteF h
theorem g_iteNT {A B : Prop} (h : B) : if (!true) = true then A else B := iteF h
theorem g_iteNF {A B : Prop} (h : A) : if (!false) = true then A else B := iteT h
theorem g_ite {b : Bool} {A B : Prop} (h1 : b = true → A) (h2 : b = false → B) : if b = true then A else B := by
  cases b with
  | true => exact iteT (h1 rfl)
  | false => exact iteF (h2 rfl)
/-- a new list, a new tuple -/
theorem same_new {H : Hp} {p : Addr} {o : HO} (h : H p = none) : Same H (upd H p o) := fun b z e => by
  rw [upd_ne (ne_of_none e h)]
  exact e
/-- a new list, a new tuple is laid -/
def NewL (xs : List V) (H : Hp) (Q : VK) : Prop := xs.length ≤ sizeLine ∧ ∀ p, H p = none → Q (.ref p) (upd H p (.lst xs))
def NewT (xs : List V) (H : Hp) (Q : VK) : Prop := xs.length ≤ sizeLine ∧ ∀ p, H p = none → Q (.ref p) (upd H p (.tup xs))
theorem g_newL {xs : List V} (hl : xs.length ≤ sizeLine) (q : ∀ p H2, H p = none → Same H H2 → H2 p = some (.lst xs) → Q (.ref p) H2) : NewL xs H Q :=
  ⟨hl, fun p hp => q p _ hp (same_new hp) upd_same⟩
theorem g_newT {xs : List V} (hl : xs.length ≤ sizeLine) (q : ∀ p H2, H p = none → Same H H2 → H2 p = some (.tup xs) → Q (.ref p) H2) : NewT xs H Q :=
  ⟨hl, fun p hp => q p _ hp (same_new hp) upd_same⟩
theorem g_lst (q : tr σ H fun xs H1 => NewL xs H1 Q) : tLst tr σ H Q := q
theorem g_tup (q : tr σ H fun xs H1 => NewT xs H1 Q) : tTup tr σ H Q := q
/-- a list and a list, one behind another -/
theorem g_cat {l b : Addr} {xs zs : List V} (h1 : H l = some (.lst xs)) (h2 : H b = some (.lst zs)) (hz : xs.length + zs.length ≤ sizeLine)
    (q : ∀ p H2, H p = none → Same H H2 → H2 p = some (.lst (xs ++ zs)) → Q (.ref p) H2) : rAddU (.ref l) (.ref b) H Q :=
  .inr ⟨l, b, xs, zs, rfl, rfl, h1, h2, hz, fun p hp => q p _ hp (same_new hp) upd_same⟩
theorem g_rep {l : Addr} {k : Int} {xs : List V} (h1 : H l = some (.lst xs)) (k0 : 0 ≤ k) (k1 : k ≤ 1000) (hz : xs.length * k.toNat ≤ sizeLine)
    (q : ∀ p H2, H p = none → Same H H2 → H2 p = some (.lst (List.replicate k.toNat xs).flatten) → Q (.ref p) H2) : rMulU (.ref l) (.int k) H Q :=
  .inr ⟨l, k, xs, rfl, rfl, h1, by omega, by omega, hz, fun p hp => q p _ hp (same_new hp) upd_same⟩
/-- built-in functions, their readings by name -/
def rIntU : List V → Hp → VK → Prop := fun xs H Q => (∃ i, xs = [.int i] ∧ Q (.int i) H) ∨ ∃ k, xs = [.bl k] ∧ Q (.int (if k then 1 else 0)) H
theorem call_intU {X : Cx} : CallR X (.type "int") rIntU := call_int1
def rAbsU : List V → Hp → VK → Prop := fun xs H Q => ∃ i, xs = [.int i] ∧ Q (.int (if i < 0 then -i else i)) H
theorem call_absU {X : Cx} : CallR X (.builtin "abs") rAbsU := call_abs
def rLenU (K : PySem.W.Frag) : List V → Hp → VK → Prop := fun xs H Q => ∃ x n, xs = [x] ∧ LenV K x H n ∧ Q (.int (n : Nat)) H
theorem call_lenU {X : Cx} : CallR X (.builtin "len") (rLenU X.K) := call_len
def rReprU (K : PySem.W.Frag) : List V → Hp → VK → Prop := fun xs H Q => ∃ (v : V) (d : PyData), xs = [v] ∧ Dp K H v d ∧
    d.showable = true ∧ d.hasDict = false ∧ d.depth ≤ 60 ∧ d.shown.length ≤ sizeLine ∧ Q (.str d.shown) H
theorem call_reprU {X : Cx} (hA : X.A.guards = some []) (hu : X.A.units + 64 < cLine) : CallR X (.builtin "repr") (rReprU X.K) := by
  intro pins s σ H xs us Q I r h
  obtain ⟨v, d, rfl, hd, hs, hn, hdep, hz, q⟩ := h
  have arm := @call_reprD X hA hu pins s σ H [v] us Q I r
  obtain ⟨u, rfl, rx⟩ := vals1 r
  cases hd with
  | non =>
    cases (show u = Value.none from rx)
    exact PySem.P.repr_of_none ⟨.str _, H, I.tok _, ⟨_, rfl⟩, q⟩
  | bl b =>
    cases (show u = Value.bool b from rx)
    exact PySem.P.repr_of_bool ⟨.str _, H, I.tok _, ⟨_, rfl⟩, q⟩
  | int i =>
    obtain ⟨t, rfl⟩ := (show ∃ t, u = Value.int i t from rx)
    exact PySem.P.repr_of_int (of_decide_eq_true hs) ⟨.str _, H, I.tok _, ⟨_, rfl⟩, q⟩
  | str x =>
    obtain ⟨t, rfl⟩ := (show ∃ t, u = Value.str x t from rx)
    exact PySem.P.repr_of_str ⟨.str _, H, I.tok _, ⟨_, rfl⟩, q⟩ hz
  | lst h1 h2 => exact arm ⟨_, _, rfl, .lst h1 h2, hs, hn, hdep, hz, q⟩
  | tup h1 h2 => exact arm ⟨_, _, rfl, .tup h1 h2, hs, hn, hdep, hz, q⟩
theorem g_int {i : Int} (q : Q (.int i) H) : rIntU [.int i] H Q := .inl ⟨i, rfl, q⟩
theorem g_intB {k : Bool} (q : Q (.int (if k then 1 else 0)) H) : rIntU [.bl k] H Q := .inr ⟨k, rfl, q⟩
theorem g_abs {i : Int} (q : Q (.int (if i < 0 then -i else i)) H) : rAbsU [.int i] H Q := ⟨i, rfl, q⟩
theorem g_isNn (q : Q (.bl true) H) : rIsN .non .non H Q := ⟨rfl, q⟩
theorem g_isNi {i : Int} (q : Q (.bl false) H) : rIsN (.int i) .non H Q := ⟨rfl, by simpa using q⟩
theorem g_repr {d : PyData} (h : Dp K H v d) (h1 : d.showable = true) (h2 : d.hasDict = false) (h3 : d.depth ≤ 60) (h4 : d.shown.length ≤ sizeLine) (q : Q (.str d.shown) H) : rReprU K [v] H Q :=
  ⟨v, d, rfl, h, h1, h2, h3, h4, q⟩
end

/-! ### what is kept but at q -/
structure SameX (q : Addr) (H H' : Hp) : Prop where
  kept : ∀ b o, b ≠ q → H b = some o → H' b = some o
  cell : ∀ c t r, H q = some (.lst [.ref c, t, r]) → ∃ t' r', H' q = some (.lst [.ref c, t', r'])
instance {q : Addr} {H H' : Hp} : CoeFun (SameX q H H') (fun _ => ∀ b o, b ≠ q → H b = some o → H' b = some o) := ⟨SameX.kept⟩
theorem Same.x {q : Addr} {H H' : Hp} (s : Same H H') : SameX q H H' := ⟨fun b o _ e => s b o e, fun c t r e => ⟨t, r, s _ _ e⟩⟩
theorem SameX.refl (q : Addr) (H : Hp) : SameX q H H := ⟨fun _ _ _ e => e, fun c t r e => ⟨t, r, e⟩⟩
theorem SameX.trans {q : Addr} {H H1 H2 : Hp} (a : SameX q H H1) (b : SameX q H1 H2) : SameX q H H2 := ⟨fun c o n e => b.kept c o n (a.kept c o n e), fun c t r e => by
  obtain ⟨t1, r1, e1⟩ := a.cell c t r e
  exact b.cell c t1 r1 e1⟩
theorem SameX.rd {q a : Addr} {H H' : Hp} {u : HO} (s : SameX q H H') (n : a ≠ q) (h : Rd H a u) : Rd H' a u := by
  rcases h with h | ⟨o, h⟩
  · exact .inl (s _ _ n h)
  · exact .inr ⟨o, s _ _ n h⟩
theorem SameX.seq {K : PySem.W.Frag} {q a : Addr} {H H' : Hp} {xs : List V} (s : SameX q H H') (n : a ≠ q) (h : SqL K H a xs) : SqL K H' a xs := by
  rcases h with h | h
  · exact .inl (s.rd n h)
  · exact .inr h
theorem SameX.tup {K : PySem.W.Frag} {q a : Addr} {H H' : Hp} {xs : List V} (s : SameX q H H') (n : a ≠ q) (h : SqT K H a xs) : SqT K H' a xs := by
  rcases h with h | h
  · exact .inl (s.rd n h)
  · exact .inr h
theorem seqU {K : PySem.W.Frag} {H : Hp} {a : Addr} {xs : List V} (h : H a = some (.lst xs)) : SqL K H a xs := .inl (.inl h)
theorem tupU {K : PySem.W.Frag} {H : Hp} {a : Addr} {xs : List V} (h : H a = some (.tup xs)) : SqT K H a xs := .inl (.inl h)

/-! ### what a value tells: any value of the laws' menus -/
mutual
inductive Dq (q : Addr) (K : PySem.W.Frag) (H : Hp) : V → PyData → Prop
  | non : Dq q K H .non .none
  | bl (b : Bool) : Dq q K H (.bl b) (.bool b)
  | int (i : Int) : Dq q K H (.int i) (.int i)
  | str (x : Str) : x.length ≤ 1000 → Dq q K H (.str x) (.str x)
  | lst {a : Addr} {xs : List V} {ds : List PyData} : a ≠ q → SqL K H a xs → DqAll q K H xs ds → Dq q K H (.ref a) (.list ds)
  | tup {a : Addr} {xs : List V} {ds : List PyData} : a ≠ q → SqT K H a xs → DqAll q K H xs ds → Dq q K H (.ref a) (.tuple ds)
  | dct {a : Addr} {kvs : List (Key × V)} : a ≠ q → H a = some (.dK kvs) → Dq q K H (.ref a) (.dict [])
inductive DqAll (q : Addr) (K : PySem.W.Frag) (H : Hp) : List V → List PyData → Prop
  | nil : DqAll q K H [] []
  | cons {v : V} {vs : List V} {d : PyData} {ds : List PyData} : Dq q K H v d → DqAll q K H vs ds → DqAll q K H (v :: vs) (d :: ds)
end
section
variable {q : Addr} {K : PySem.W.Frag} {H H' : Hp}
mutual
theorem Dq.go (s : SameX q H H') : ∀ {d : PyData} {v : V}, Dq q K H v d → Dq q K H' v d
  | _, _, .non => .non
  | _, _, .bl b => .bl b
  | _, _, .int i => .int i
  | _, _, .str x h => .str x h
  | _, _, .lst n h ha => .lst n (s.seq n h) (DqAll.go s ha)
  | _, _, .tup n h ha => .tup n (s.tup n h) (DqAll.go s ha)
  | _, _, .dct n h => .dct n (s _ _ n h)
theorem DqAll.go (s : SameX q H H') : ∀ {ds : List PyData} {vs : List V}, DqAll q K H vs ds → DqAll q K H' vs ds
  | _, _, .nil => .nil
  | _, _, .cons h t => .cons (Dq.go s h) (DqAll.go s t)
end
theorem DqAll.len : ∀ {vs : List V} {ds : List PyData}, DqAll q K H vs ds → vs.length = ds.length
  | _, _, .nil => rfl
  | _, _, .cons _ t => congrArg Nat.succ (DqAll.len t)
def noDct : PyData → Bool
  | .dict _ => false
  | .list ds | .tuple ds => all ds
  | _ => true
where all : List PyData → Bool
  | [] => true
  | d :: ds => noDct d && all ds
mutual
theorem Dq.dp : ∀ {d : PyData} {v : V}, Dq q K H v d → noDct d = true → Dp K H v d
  | _, _, .non, _ => .non
  | _, _, .bl b, _ => .bl b
  | _, _, .int i, _ => .int i
  | _, _, .str x h, _ => .str x
  | .list ds, _, .lst n h ha, e => .lst h (DqAll.dp ha (by unfold noDct at e; exact e))
  | .tuple ds, _, .tup n h ha, e => .tup h (DqAll.dp ha (by unfold noDct at e; exact e))
  | _, _, .dct n h, e => by unfold noDct at e; exact absurd e (by decide)
theorem DqAll.dp : ∀ {ds : List PyData} {vs : List V}, DqAll q K H vs ds → noDct.all ds = true → DpAll K H vs ds
  | _, _, .nil, _ => .nil
  | d :: ds, _, .cons h t, e => by
    unfold noDct.all at e
    rw [Bool.and_eq_true] at e
    exact .cons (Dq.dp h e.1) (DqAll.dp t e.2)
end
def tyN : PyData → String
  | .none => "NoneType"
  | .bool _ => "bool"
  | .int _ => "int"
  | .str _ => "str"
  | .list _ => "list"
  | .tuple _ => "tuple"
  | .dict _ => "dict"
theorem Dq.ty {d : PyData} {v : V} (h : Dq q K H v d) : TyX K H v (.type (tyN d)) := by
  cases h with
  | non => exact .base .non
  | bl b => exact .base (.bl b)
  | int i => exact .base (.int i)
  | str x => exact .base (.str x)
  | lst n h ha =>
    rcases h with (h | ⟨o, h⟩) | ⟨o, its, m, e, c, _⟩
    · exact .base (.lst h)
    · exact .base (.frz h)
    · exact .kList e c
  | tup n h ha =>
    rcases h with (h | ⟨o, h⟩) | ⟨o, its, m, e, c, _⟩
    · exact .base (.tup h)
    · exact .fTuple h
    · exact .kTuple e c
  | dct n h => exact .base (.dK h)
def isSeqD : PyData → Bool
  | .list _ | .tuple _ => true
  | _ => false
def isIntB : PyData → Bool
  | .int _ | .bool _ => true
  | _ => false
def isIntD : PyData → Bool
  | .int _ => true
  | _ => false
def posD : PyData → Bool
  | .int i => decide (1 ≤ i)
  | _ => false
def isFrD : PyData → Bool
  | .int _ => true
  | .list [a, b] | .tuple [a, b] => isIntD a && posD b
  | _ => false
theorem kit_seq (d : PyData) : PySem.W.kitAny K (.type (tyN d)) [.type "list", .type "tuple"] = some (isSeqD d) := by
  cases d with
  | none => exact kitAny_cons (b := false) (r := false) (kit_ty (show kitB "NoneType" "list" = some false by decide +kernel)) (fun _ => kitAny_cons (b := false) (r := false) (kit_ty (show kitB "NoneType" "tuple" = some false by decide +kernel)) (fun _ => kitAny_nil) (fun z => by cases z)) (fun z => by cases z)
  | bool _ => exact kitAny_cons (b := false) (r := false) (kit_ty (show kitB "bool" "list" = some false by decide +kernel)) (fun _ => kitAny_cons (b := false) (r := false) (kit_ty (show kitB "bool" "tuple" = some false by decide +kernel)) (fun _ => kitAny_nil) (fun z => by cases z)) (fun z => by cases z)
  | int _ => exact kitAny_cons (b := false) (r := false) (kit_ty (show kitB "int" "list" = some false by decide +kernel)) (fun _ => kitAny_cons (b := false) (r := false) (kit_ty (show kitB "int" "tuple" = some false by decide +kernel)) (fun _ => kitAny_nil) (fun z => by cases z)) (fun z => by cases z)
  | str _ => exact kitAny_cons (b := false) (r := false) (kit_ty (show kitB "str" "list" = some false by decide +kernel)) (fun _ => kitAny_cons (b := false) (r := false) (kit_ty (show kitB "str" "tuple" = some false by decide +kernel)) (fun _ => kitAny_nil) (fun z => by cases z)) (fun z => by cases z)
  | list _ => exact kitAny_cons (b := true) (r := true) (kit_ty (show kitB "list" "list" = some true by decide +kernel)) (fun z => by cases z) (fun _ => rfl)
  | tuple _ => exact kitAny_cons (b := false) (r := true) (kit_ty (show kitB "tuple" "list" = some false by decide +kernel)) (fun _ => kitAny_cons (b := true) (r := true) (kit_ty (show kitB "tuple" "tuple" = some true by decide +kernel)) (fun z => by cases z) (fun _ => rfl)) (fun z => by cases z)
  | dict _ => exact kitAny_cons (b := false) (r := false) (kit_ty (show kitB "dict" "list" = some false by decide +kernel)) (fun _ => kitAny_cons (b := false) (r := false) (kit_ty (show kitB "dict" "tuple" = some false by decide +kernel)) (fun _ => kitAny_nil) (fun z => by cases z)) (fun z => by cases z)
theorem kit_int (d : PyData) : PySem.W.kitOne K (.type (tyN d)) (.type "int") = some (isIntB d) := by
  cases d with
  | none => exact kit_ty (show kitB "NoneType" "int" = some false by decide +kernel)
  | bool _ => exact kit_ty (show kitB "bool" "int" = some true by decide +kernel)
  | int _ => exact kit_ty (show kitB "int" "int" = some true by decide +kernel)
  | str _ => exact kit_ty (show kitB "str" "int" = some false by decide +kernel)
  | list _ => exact kit_ty (show kitB "list" "int" = some false by decide +kernel)
  | tuple _ => exact kit_ty (show kitB "tuple" "int" = some false by decide +kernel)
  | dict _ => exact kit_ty (show kitB "dict" "int" = some false by decide +kernel)
def isTupD : PyData → Bool
  | .tuple _ => true
  | _ => false
theorem kit_tuple (d : PyData) : PySem.W.kitOne K (.type (tyN d)) (.type "tuple") = some (isTupD d) := by
  cases d with
  | none => exact kit_ty (show kitB "NoneType" "tuple" = some false by decide +kernel)
  | bool _ => exact kit_ty (show kitB "bool" "tuple" = some false by decide +kernel)
  | int _ => exact kit_ty (show kitB "int" "tuple" = some false by decide +kernel)
  | str _ => exact kit_ty (show kitB "str" "tuple" = some false by decide +kernel)
  | list _ => exact kit_ty (show kitB "list" "tuple" = some false by decide +kernel)
  | tuple _ => exact kit_ty (show kitB "tuple" "tuple" = some true by decide +kernel)
  | dict _ => exact kit_ty (show kitB "dict" "tuple" = some false by decide +kernel)
def isBoolD : PyData → Bool
  | .bool _ => true
  | _ => false
theorem kit_bool (d : PyData) : PySem.W.kitOne K (.type (tyN d)) (.type "bool") = some (isBoolD d) := by
  cases d with
  | none => exact kit_ty (show kitB "NoneType" "bool" = some false by decide +kernel)
  | bool _ => exact kit_ty (show kitB "bool" "bool" = some true by decide +kernel)
  | int _ => exact kit_ty (show kitB "int" "bool" = some false by decide +kernel)
  | str _ => exact kit_ty (show kitB "str" "bool" = some false by decide +kernel)
  | list _ => exact kit_ty (show kitB "list" "bool" = some false by decide +kernel)
  | tuple _ => exact kit_ty (show kitB "tuple" "bool" = some false by decide +kernel)
  | dict _ => exact kit_ty (show kitB "dict" "bool" = some false by decide +kernel)
variable {Q : VK} {σ : L2.St} {te : TE}
def SeqQ (K : PySem.W.Frag) (v : V) (H : Hp) (Q : VK) : Prop := ∃ t b, TyX K H v (.type t) ∧ PySem.W.kitAny K (.type t) [.type "list", .type "tuple"] = some b ∧ Q (.bl b) H
theorem g_seqP (h : te σ H fun x H1 => SeqQ K x H1 Q) : tSeqP K te σ H Q := h
theorem g_seqQ {v : V} {d : PyData} (h : Dq q K H v d) (k : Q (.bl (isSeqD d)) H) : SeqQ K v H Q :=
  ⟨_, _, h.ty, kit_seq d, k⟩
theorem g_isiI {v : V} {d : PyData} (h : Dq q K H v d) (k : Q (.bl (isIntB d)) H) : rIsi K [v, .ty "int"] H Q :=
  ⟨v, .ty "int", _, _, _, rfl, .ty "int", h.ty, kit_int d, k⟩
theorem g_isiT {v : V} {d : PyData} (h : Dq q K H v d) (k : Q (.bl (isTupD d)) H) : rIsi K [v, .ty "tuple"] H Q :=
  ⟨v, .ty "tuple", _, _, _, rfl, .ty "tuple", h.ty, kit_tuple d, k⟩
theorem g_isiB {v : V} {d : PyData} (h : Dq q K H v d) (k : Q (.bl (isBoolD d)) H) : rIsi K [v, .ty "bool"] H Q :=
  ⟨v, .ty "bool", _, _, _, rfl, .ty "bool", h.ty, kit_bool d, k⟩
/-- a list or a tuple -/
def Sq (K : PySem.W.Frag) (H : Hp) (a : Addr) (xs : List V) : Prop := SqL K H a xs ∨ SqT K H a xs
theorem Sq.go {a : Addr} {xs : List V} (s : SameX q H H') (n : a ≠ q) (h : Sq K H a xs) : Sq K H' a xs := by
  rcases h with h | h
  · exact .inl (s.seq n h)
  · exact .inr (s.tup n h)
theorem Dq.seq {d : PyData} {v : V} (h : Dq q K H v d) (e : isSeqD d = true) : ∃ a xs ds, v = .ref a ∧ a ≠ q ∧ Sq K H a xs ∧ DqAll q K H xs ds ∧ (d = .list ds ∨ d = .tuple ds) := by
  cases h with
  | lst n h ha => exact ⟨_, _, _, rfl, n, .inl h, ha, .inl rfl⟩
  | tup n h ha => exact ⟨_, _, _, rfl, n, .inr h, ha, .inr rfl⟩
  | _ => cases e
theorem g_ix {a : Addr} {xs : List V} {i : Int} {v : V} (h : Sq K H a xs) (e : atI xs i = some v) (k : Q v H) : rIx K (.ref a) (.int i) H Q := by
  rcases h with h | h
  · exact .inl ⟨a, xs, i, v, rfl, rfl, h, e, k⟩
  · exact .inr (.inl ⟨a, xs, i, v, rfl, rfl, h, e, k⟩)
theorem g_len {a : Addr} {xs : List V} (h : Sq K H a xs) (k : Q (.int (xs.length : Int)) H) : rLenU K [.ref a] H Q := by
  rcases h with h | h
  · exact ⟨.ref a, xs.length, rfl, .inl ⟨xs, h, rfl⟩, k⟩
  · exact ⟨.ref a, xs.length, rfl, .inr ⟨xs, h, rfl⟩, k⟩
def valD : PyData → Int
  | .int i => i
  | _ => 0
/-- a bound, or none -/
def bdV : Option Int → V
  | none => .non
  | some i => .int i
def loB (l : Option Int) (i : Int) : Bool := match l with | none => true | some m => decide (m ≤ i)
def hiB (l : Option Int) (i : Int) : Bool := match l with | none => true | some m => decide (i ≤ m)
def wthD (d : PyData) (l m : Option Int) : Bool := isIntD d && (loB l (valD d) && hiB m (valD d))
def isPlD : PyData → Bool
  | .list [a, b] | .tuple [a, b] => isFrD a && isFrD b
  | _ => false
theorem posD_eq (d : PyData) : posD d = wthD d (some 1) none := by
  cases d with
  | int i =>
    show decide (1 ≤ i) = (true && (decide (1 ≤ i) && true))
    rw [Bool.true_and, Bool.and_true]
  | _ => rfl
theorem Dq.int_of {d : PyData} {v : V} (h : Dq q K H v d) (e : isIntD d = true) : v = .int (valD d) ∧ d = .int (valD d) := by
  cases h with
  | int i => exact ⟨rfl, rfl⟩
  | _ => cases e
theorem frD_two {d : PyData} {ds : List PyData} (e : d = .list ds ∨ d = .tuple ds) (n : ds.length ≠ 2) : isFrD d = false ∧ isPlD d = false := by
  rcases e with rfl | rfl
  all_goals
    match ds, n with
    | [], _ => exact ⟨rfl, rfl⟩
    | [_], _ => exact ⟨rfl, rfl⟩
    | [_, _], n => exact absurd rfl n
    | _ :: _ :: _ :: _, _ => exact ⟨rfl, rfl⟩
theorem frD_of {d x y : PyData} (e : d = .list [x, y] ∨ d = .tuple [x, y]) : isFrD d = (isIntD x && posD y) ∧ isPlD d = (isFrD x && isFrD y) := by
  rcases e with rfl | rfl <;> exact ⟨rfl, rfl⟩
theorem frD_no {d : PyData} (e : isIntD d = false) (n : isSeqD d = false) : isFrD d = false := by
  cases d with
  | int i => cases e
  | list ds => cases n
  | tuple ds => cases n
  | _ => rfl
theorem plD_no {d : PyData} (n : isSeqD d = false) : isPlD d = false := by
  cases d with
  | list ds => cases n
  | tuple ds => cases n
  | _ => rfl
theorem frD_int {d : PyData} (e : isIntD d = true) : isFrD d = true := by
  cases d with
  | int i => rfl
  | _ => cases e
theorem two_of {vs : List V} {ds : List PyData} (h : DqAll q K H vs ds) (e : vs.length = 2) : ∃ x y a b, vs = [x, y] ∧ ds = [a, b] ∧ Dq q K H x a ∧ Dq q K H y b := by
  cases h with
  | nil => cases e
  | cons h1 t => cases t with
    | nil => cases e
    | cons h2 t => cases t with
      | nil => exact ⟨_, _, _, _, rfl, rfl, h1, h2⟩
      | cons h3 t =>
        rw [List.length_cons, List.length_cons, List.length_cons] at e
        omega
theorem relR {vs : List V} {us : List Value} {ks : List Str} (r : Vals vs us) (_ : us.length = ks.length) : Vals vs.reverse us.reverse := r.reverse
theorem lenR {ps ks : List Str} (h : ps.length = ks.length) (vs : List V) (e : vs.reverse.length = ps.length) : vs.length = ks.length := by
  rw [List.length_reverse] at e
  omega
end
end Mf
namespace Mf
open PySem PySem.Spec PyProof.Rows L2
section
variable {K : PySem.W.Frag} {σ : L2.St} {H H1 : Hp} {Q : VK} {v x y : V} {ta tb te tl : TE} {tt : TT} {tr : TA} {g : TG} {vs : List Nat}
/-! ### slices, comprehensions -/
theorem g_sl {r : V → Option Int → Option Int → Hp → VK → Prop} {to th : TO} (q : te σ H fun x H1 => to σ H1 fun l H2 => th σ H2 fun u H3 => r x l u H3 Q) : tSl r te to th σ H Q := q
theorem g_noPart {R : Option Int → Hp → Prop} (q : R none H) : tNoPart σ H R := q
theorem g_part {R : Option Int → Hp → Prop} (q : te σ H fun x H1 => ∃ i, x = .int i ∧ R (some i) H1) : tPart te σ H R := q
theorem g_ii {i : Int} {R : Int → Prop} (q : R i) : ∃ j, V.int i = .int j ∧ R j := ⟨i, rfl, q⟩
theorem g_slL {a : Addr} {xs : List V} {lo hi : Option Int} (h : SqL K H a xs) (q : ∀ p H2, H p = none → Same H H2 → H2 p = some (.lst (cutV xs lo hi)) → Q (.ref p) H2) : rSlL K (.ref a) lo hi H Q :=
  ⟨a, xs, rfl, h, fun p hp => q p _ hp (same_new hp) upd_same⟩
theorem cut_ints (ns : List Int) (lo hi : Option Int) : ∃ ms : List Int, cutV (ns.map V.int) lo hi = ms.map V.int ∧ ms.length ≤ ns.length := by
  unfold cutV
  refine ⟨(ns.drop (HT.sIx (ns.map V.int).length 0 lo)).take (HT.sIx (ns.map V.int).length (ns.map V.int).length hi - HT.sIx (ns.map V.int).length 0 lo), ?_, ?_⟩
  · rw [List.map_take, List.map_drop]
  · rw [List.length_take, List.length_drop]
    omega
/-- what a comprehension asks once its walked thing is there -/
def LcGo (J : It) (g : TG) (tt : TT) (te : TE) (vs : List Nat) (σ : L2.St) (H1 : Hp) (Q : VK) : Prop := ∀ D, H1 D = none → ∃ W : Nat → Nat → Hp → Prop, (∃ m, W 0 m (upd H1 D (.lst []))) ∧
  ∀ i m H, W i m H → (J.stop i H ∧ Q (.ref D) H) ∨ (J.go i H ∧ ∃ Nx : Hp → Prop, (∀ H', Nx H' → ∃ m', m' < m ∧ W (i + 1) m' H') ∧
    ∀ x H', J.yld i H x H' → g x (wipe σ vs) H' fun σ2 H2 => wipe σ2 vs = wipe σ vs ∧ tt σ2 H2 fun b H3 =>
      if b = true then te σ2 H3 fun y H4 => ∃ acc, H4 D = some (.lst acc) ∧ acc.length < sizeLine ∧ Nx (upd H4 D (.lst (acc ++ [y]))) else Nx H3)
theorem g_lcL (q : tl σ H fun x H1 => ∃ a, x = .ref a ∧ (∃ xs, SqL K H1 a xs) ∧ LcGo (Itl K a) g tt te vs σ H1 Q) : tLc (iList K tl) g tt te vs σ H Q := q
theorem g_lcR (q : tr σ H fun us H1 => ∃ j : Int, us = [.int j] ∧ -(2 ^ 62) ≤ j ∧ j < 2 ^ 62 ∧ LcGo (Itr 0 j.toNat) g tt te vs σ H1 Q) : tLc (iRng1 tr) g tt te vs σ H Q := q
theorem lcgo_list {a : Addr} {xs : List V} {j : Nat} (Pv : Addr → Nat → Hp → Prop) (hw : ∀ x, wipe ((wipe σ vs).set j (some x)) vs = wipe σ vs)
    (h0 : ∀ D, H1 D = none → Pv D 0 (upd H1 D (.lst []))) (hl : ∀ D i H, i ≤ xs.length → Pv D i H → SqL K H a xs)
    (hs : ∀ D i x H, H1 D = none → xs[i]? = some x → Pv D i H → te ((wipe σ vs).set j (some x)) H fun y H4 => ∃ acc, H4 D = some (.lst acc) ∧ acc.length < sizeLine ∧ Pv D (i + 1) (upd H4 D (.lst (acc ++ [y]))))
    (hd : ∀ D H, H1 D = none → Pv D xs.length H → Q (.ref D) H) : LcGo (Itl K a) (gName j) tYes te vs σ H1 Q :=
  fun D hD => lc_list (xs := xs) (Pv D) (h0 D hD) (hl D) (fun i x H e p => ⟨hw x, hs D i x H hD e p⟩) (fun H p => hd D H hD p)
theorem lcgo_range {n j : Nat} (Pv : Addr → Nat → Hp → Prop) (hw : ∀ x, wipe ((wipe σ vs).set j (some x)) vs = wipe σ vs)
    (h0 : ∀ D, H1 D = none → Pv D 0 (upd H1 D (.lst [])))
    (hs : ∀ D i H, H1 D = none → i < n → Pv D i H → te ((wipe σ vs).set j (some (.int (0 + (i : Int))))) H fun y H4 => ∃ acc, H4 D = some (.lst acc) ∧ acc.length < sizeLine ∧ Pv D (i + 1) (upd H4 D (.lst (acc ++ [y]))))
    (hd : ∀ D H, H1 D = none → Pv D n H → Q (.ref D) H) : LcGo (Itr 0 n) (gName j) tYes te vs σ H1 Q :=
  fun D hD => lc_range (lo := 0) (n := n) (Pv D) (h0 D hD) (fun i H e p => ⟨hw _, hs D i H hD e p⟩) (fun H p => hd D H hD p)

/-! ### numbers -/
theorem g_mod {i j : Int} (h : 0 < j) (q : Q (.int (i % j)) H) : rI (fun _ j => 0 < j) (fun i j => .int (i % j)) (.int i) (.int j) H Q := ⟨i, j, rfl, rfl, h, q⟩
theorem g_div {i j : Int} (h : 0 < j) (h2 : j.natAbs.log2 < 9000) (q : Q (.int (i / j)) H) : rI CDivW (fun i j => .int (i / j)) (.int i) (.int j) H Q := ⟨i, j, rfl, rfl, ⟨h, h2⟩, q⟩
theorem g_pow {i j : Int} (h1 : 0 ≤ j) (h2 : j ≤ 1000000) (h : i.natAbs < 2 ^ 64) (q : Q (.int (i ^ j.toNat)) H) : rI CPow (fun i j => .int (i ^ j.toNat)) (.int i) (.int j) H Q := ⟨i, j, rfl, rfl, ⟨h1, h2, h⟩, q⟩
theorem g_mulL {i j : Int} (h1 : -(2 ^ 64) < i) (h2 : i < 2 ^ 64) (q : Q (.int (i * j)) H) : rMulU (.int i) (.int j) H Q := .inl ⟨i, j, rfl, rfl, .inl (.inl ⟨h1, h2⟩), q⟩
theorem g_mulR {i j : Int} (h1 : -(2 ^ 64) < j) (h2 : j < 2 ^ 64) (q : Q (.int (i * j)) H) : rMulU (.int i) (.int j) H Q := .inl ⟨i, j, rfl, rfl, .inl (.inr ⟨h1, h2⟩), q⟩
theorem g_mulW {i j : Int} (h : i.natAbs.log2 + j.natAbs.log2 < 1000000) (q : Q (.int (i * j)) H) : rMulU (.int i) (.int j) H Q := .inl ⟨i, j, rfl, rfl, .inr h, q⟩
theorem g_ltI {i j : Int} (q : Q (.bl (decide (i < j))) H) : rI0 (fun i j => .bl (decide (i < j))) (.int i) (.int j) H Q := ⟨i, j, rfl, rfl, q⟩
theorem g_neNil {c p : Addr} {ns : List Int} (h1 : SqL K H c (ns.map V.int)) (h2 : SqL K H p []) (q : Q (.bl (!ns.isEmpty)) H) : rNeU K (.ref c) (.ref p) H Q := by
  have dall : ∀ l : List Int, DpAll K H (l.map V.int) (l.map PyData.int) := fun l => by
    induction l with
    | nil => exact .nil
    | cons z r ih => exact .cons (.int z) ih
  have lay : ∀ l : List Int, PyData.canLayAll0 (l.map PyData.int) = true := fun l => by
    induction l with
    | nil => rfl
    | cons z r ih =>
      show (true && PyData.canLayAll0 (r.map PyData.int)) = true
      rw [ih]
      rfl
  have dep : ∀ l : List Int, PyData.depthAll (l.map PyData.int) ≤ 1 := fun l => by
    induction l with
    | nil => decide
    | cons z r ih =>
      rw [List.map_cons]
      simp only [PyData.depthAll, PyData.depth]
      omega
  refine .inr ⟨.list (ns.map PyData.int), .list [], .lst h1 (dall ns), .lst h2 .nil, ?_, by decide, ?_⟩
  · unfold SeqAt.shaped
    rw [Bool.and_eq_true]
    refine ⟨lay ns, decide_eq_true ?_⟩
    have := dep ns
    simp only [PyData.depth]
    omega
  · cases ns with
    | nil => exact q
    | cons z r => exact q
theorem g_sub {to ti : TE} {t : TSet} {R : L2.St → Hp → Prop} (q : to σ H fun o H1 => ti σ H1 fun i H2 => t o i v H2 fun H3 => R σ H3) : gSub to ti t v σ H R := q
theorem g_setL {p : Addr} {xs : List V} {k : Int} {j : Nat} {R : Hp → Prop} (h : H p = some (.lst xs)) (e : ixN xs.length k = some j) (q : R (upd H p (.lst (xs.set j v)))) : rSetL (.ref p) (.int k) v H R := ⟨p, xs, k, j, rfl, rfl, h, e, q⟩
theorem stir_bd {s t a b c : Int} (hs0 : 0 ≤ s) (hs : s < 2147483648) (ht0 : 0 ≤ t) (ht : t ≤ 1000000) (ha0 : 0 ≤ a) (ha : a ≤ 100000) (hb0 : 0 ≤ b) (hb : b ≤ 1000000) (hc0 : 0 ≤ c) (hc : c ≤ 1000000) :
    (s * (2 * t + a) + b * t * t + c).natAbs < 2 ^ 64 := by
  have h1 : s * (2 * t + a) ≤ 2147483648 * 2100000 := Int.mul_le_mul (by omega) (by omega) (by omega) (by omega)
  have h2 : 0 ≤ s * (2 * t + a) := Int.mul_nonneg hs0 (by omega)
  have h3 : b * t ≤ 1000000 * 1000000 := Int.mul_le_mul hb ht ht0 (by omega)
  have h4 : 0 ≤ b * t := Int.mul_nonneg hb0 ht0
  have h5 : b * t * t ≤ 1000000000000 * 1000000 := Int.mul_le_mul (by omega) ht ht0 (by omega)
  have h6 : 0 ≤ b * t * t := Int.mul_nonneg h4 ht0
  generalize s * (2 * t + a) = p at *
  generalize b * t * t = r at *
  omega
end

/-! ### what draws -/
/-- q holds the cells, how many were begun, what is left -/
def Qy (K : PySem.W.Frag) (q : Addr) (t : Int) (H : Hp) : Prop := ∃ (c : Addr) (ns : List Int) (r : Int), H q = some (.lst [.ref c, .int t, .int r]) ∧ H c = some (.lst (ns.map V.int)) ∧ c ≠ q ∧ ns.length ≤ 63 ∧ 0 ≤ r ∧ 0 ≤ t
theorem Qy.same {K : PySem.W.Frag} {q : Addr} {t : Int} {H H' : Hp} (s : Same H H') (h : Qy K q t H) : Qy K q t H' := by
  obtain ⟨c, ns, r, h1, h2, h3, h4, h5, h6⟩ := h
  exact ⟨c, ns, r, s _ _ h1, s _ _ h2, h3, h4, h5, h6⟩
theorem Qy.nn {K : PySem.W.Frag} {q : Addr} {t : Int} {H : Hp} (h : Qy K q t H) : 0 ≤ t := by
  obtain ⟨c, ns, r, h1, h2, h3, h4, h5, h6⟩ := h
  exact h6
theorem Qy.at {K : PySem.W.Frag} {q : Addr} {t : Int} {H : Hp} (h : Qy K q t H) : ∃ o, H q = some o := by
  obtain ⟨c, ns, r, h1, _⟩ := h
  exact ⟨_, h1⟩
theorem Qy.ne {K : PySem.W.Frag} {q p : Addr} {t : Int} {H : Hp} (h : Qy K q t H) (e : H p = none) : p ≠ q := by
  obtain ⟨o, h1⟩ := h.at
  exact (ne_of_none h1 e).symm
theorem upd_x {q c : Addr} {H : Hp} {t r t' r' : V} (h : H q = some (.lst [.ref c, t, r])) : SameX q H (upd H q (.lst [.ref c, t', r'])) := by
  refine ⟨fun b z n e => ?_, fun c2 t2 r2 e => ⟨t', r', ?_⟩⟩
  · rw [upd_ne n]
    exact e
  · rw [h] at e
    cases e
    exact upd_same
/-- the cells' address is not d -/
def Qn (q d : Addr) (H : Hp) : Prop := ∀ c t r, H q = some (.lst [.ref c, t, r]) → c ≠ d
theorem Qn.go {K : PySem.W.Frag} {q d : Addr} {t : Int} {H H' : Hp} (h : Qn q d H) (hq : Qy K q t H) (s : SameX q H H') : Qn q d H' := by
  obtain ⟨c, ns, r, h1, _⟩ := hq
  obtain ⟨t2, r2, e2⟩ := s.cell c _ _ h1
  intro c' t' r' e'
  rw [e2] at e'
  cases e'
  exact h c _ _ h1
theorem Qn.new {K : PySem.W.Frag} {q d : Addr} {t : Int} {H : Hp} (hq : Qy K q t H) (e : H d = none) : Qn q d H := by
  obtain ⟨c, ns, r, h1, h2, _⟩ := hq
  intro c' t' r' e'
  rw [h1] at e'
  cases e'
  exact ne_of_none h2 e
theorem Qy.upd {K : PySem.W.Frag} {q d : Addr} {t : Int} {H : Hp} {o : HO} (hq : Qy K q t H) (hn : Qn q d H) (n : d ≠ q) : Qy K q t (upd H d o) := by
  obtain ⟨c, ns, r, h1, h2, h3, h4, h5, h6⟩ := hq
  refine ⟨c, ns, r, ?_, ?_, h3, h4, h5, h6⟩
  · rw [upd_ne n.symm]
    exact h1
  · rw [upd_ne (hn c _ _ h1)]
    exact h2
theorem Qn.upd {K : PySem.W.Frag} {q d : Addr} {t : Int} {H : Hp} {o : HO} (hq : Qy K q t H) (hn : Qn q d H) (n : d ≠ q) : Qn q d (L2.upd H d o) := by
  intro c' t' r' e'
  rw [upd_ne n.symm] at e'
  exact hn c' t' r' e'
def sp_quay (K : PySem.W.Frag) : Sp := fun vs H Q _ => ∃ (a : Addr) (ns : List Int), vs = [.ref a] ∧ SqL K H a (ns.map V.int) ∧ ns.length ≤ 63 ∧ ∀ q H', Same H H' → H q = none → Qy K q 0 H' → Q (.ref q) H'
def sp_moor (K : PySem.W.Frag) : Sp := fun vs H Q _ => ∃ (q : Addr) (t n : Int), vs = [.ref q, .int n] ∧ Qy K q t H ∧ t ≤ 1000000 ∧ 0 < n ∧ n.natAbs.log2 < 9000 ∧
  ∀ t' H' i, SameX q H H' → Qy K q t' H' → t ≤ t' → t' ≤ t + 1 → 0 ≤ i → i < n → Q (.int i) H'
def sp_pick (K : PySem.W.Frag) : Sp := fun vs H Q _ => ∃ (q a : Addr) (t : Int) (xs : List V), vs = [.ref q, .ref a] ∧ Qy K q t H ∧ t ≤ 1000000 ∧ a ≠ q ∧ Sq K H a xs ∧ xs ≠ [] ∧ xs.length ≤ 1000 ∧
  ∀ t' H' x, SameX q H H' → Qy K q t' H' → t ≤ t' → t' ≤ t + 1 → x ∈ xs → Q x H'
end Mf
namespace Mf
open PySem PySem.Spec PyProof.Rows L2
/-! ### what a menu's items come to -/
def EvD (q : Addr) (K : PySem.W.Frag) (te : TE) (σ : L2.St) (H : Hp) (d : PyData) : Prop := ∀ H1, Same H H1 → ∀ Q : VK, (∀ v H2, Same H1 H2 → Dq q K H2 v d → Q v H2) → te σ H1 Q
def EvDs (q : Addr) (K : PySem.W.Frag) (ta : TA) (σ : L2.St) (H : Hp) (ds : List PyData) : Prop := ∀ H1, Same H H1 → ∀ Q : List V → Hp → Prop, (∀ vs H2, Same H1 H2 → DqAll q K H2 vs ds → Q vs H2) → ta σ H1 Q
section
variable {q : Addr} {K : PySem.W.Frag} {σ : L2.St} {H : Hp} {te tb : TE} {ta : TA} {d : PyData} {ds : List PyData}
theorem ed_var {i : Nat} {v : V} (e : σ[i]? = some (some v)) (h : Dq q K H v d) : EvD q K (tVar i) σ H d := fun H1 s Q k => ⟨v, e, k v H1 (Same.refl _) (h.go (Same.x s))⟩
theorem ed_int {i : Int} : EvD q K (tC (.int i)) σ H (.int i) := fun H1 _ Q k => k _ H1 (Same.refl _) (.int i)
theorem ed_bl {b : Bool} : EvD q K (tC (.bl b)) σ H (.bool b) := fun H1 _ Q k => k _ H1 (Same.refl _) (.bl b)
theorem ed_non : EvD q K (tC .non) σ H .none := fun H1 _ Q k => k _ H1 (Same.refl _) .non
theorem ed_str {x : Str} (h : x.length ≤ 1000) : EvD q K (tC (.str x)) σ H (.str x) := fun H1 _ Q k => k _ H1 (Same.refl _) (.str x h)
theorem ed_neg {i : Int} (h : EvD q K te σ H (.int i)) : EvD q K (tUn (rU fun i => .int (-i)) te) σ H (.int (-i)) := fun H1 s Q k => h H1 s _ fun v H2 s2 hd => by
  cases hd
  exact ⟨i, rfl, k _ H2 s2 (.int _)⟩
theorem ed_pow {i j : Int} (h1 : EvD q K te σ H (.int i)) (h2 : EvD q K tb σ H (.int j)) (c : CPow i j) : EvD q K (tOp (rI CPow fun i j => .int (i ^ j.toNat)) te tb) σ H (.int (i ^ j.toNat)) := fun H1 s Q k => h1 H1 s _ fun v H2 s2 hd => by
  cases hd
  exact h2 H2 (s.trans s2) _ fun v H3 s3 hd => by
    cases hd
    exact ⟨i, j, rfl, rfl, c, k _ H3 (s2.trans s3) (.int _)⟩
theorem ed_mul {i j : Int} (h1 : EvD q K te σ H (.int i)) (h2 : EvD q K tb σ H (.int j)) (c : CMulU i j) : EvD q K (tOp rMulU te tb) σ H (.int (i * j)) := fun H1 s Q k => h1 H1 s _ fun v H2 s2 hd => by
  cases hd
  exact h2 H2 (s.trans s2) _ fun v H3 s3 hd => by
    cases hd
    exact .inl ⟨i, j, rfl, rfl, c, k _ H3 (s2.trans s3) (.int _)⟩
theorem eds_nil : EvDs q K tNil σ H [] := fun H1 _ Q k => k [] H1 (Same.refl _) .nil
theorem eds_cons (h : EvD q K te σ H d) (t : EvDs q K ta σ H ds) : EvDs q K (tCons te ta) σ H (d :: ds) := fun H1 s Q k => h H1 s _ fun v H2 s2 hd => t H2 (s.trans s2) _ fun vs H3 s3 hds =>
  k (v :: vs) H3 (s2.trans s3) (.cons (hd.go (Same.x s3)) hds)
theorem ed_tup {o : HO} (hq : H q = some o) (h : EvDs q K ta σ H ds) (hl : ds.length ≤ 1000) : EvD q K (tTup ta) σ H (.tuple ds) := fun H1 s Q k => h H1 s _ fun vs H2 s2 hds =>
  ⟨by rw [hds.len]; exact Nat.le_of_lt (small1000 hl), fun p hp => k _ _ (s2.trans (same_new hp)) (.tup (ne_of_none ((s.trans s2) _ _ hq) hp).symm (tupU upd_same) (hds.go (Same.x (same_new hp))))⟩
theorem ed_lst {o : HO} (hq : H q = some o) (h : EvDs q K ta σ H ds) (hl : ds.length ≤ 1000) : EvD q K (tLst ta) σ H (.list ds) := fun H1 s Q k => h H1 s _ fun vs H2 s2 hds =>
  ⟨by rw [hds.len]; exact Nat.le_of_lt (small1000 hl), fun p hp => k _ _ (s2.trans (same_new hp)) (.lst (ne_of_none ((s.trans s2) _ _ hq) hp).symm (seqU upd_same) (hds.go (Same.x (same_new hp))))⟩
theorem ed_dict0 {o : HO} (hq : H q = some o) : EvD q K tDNewK σ H (.dict []) := fun H1 s Q k p hp => k _ _ (same_new hp) (.dct (ne_of_none (s _ _ hq) hp).symm upd_same)
theorem ed_dict2 {o : HO} (hq : H q = some o) {a b c d : Int} : EvD q K (tDisp [(tC (.int a), tC (.int b)), (tC (.int c), tC (.int d))]) σ H (.dict []) := fun H1 s Q k p hp =>
  ⟨upd_same, [(.inl a, .int b), (.inl c, .int d)], rfl, by show 2 ≤ 15; decide, by
    rw [upd_upd]
    exact k _ _ (same_new hp) (.dct (ne_of_none (s _ _ hq) hp).symm upd_same)⟩
/-- .. and used -/
theorem EvDs.run {Q : List V → Hp → Prop} (h : EvDs q K ta σ H ds) (k : ∀ vs H2, Same H H2 → DqAll q K H2 vs ds → Q vs H2) : ta σ H Q := h H (Same.refl _) Q k
theorem EvD.run {Q : VK} (h : EvD q K te σ H d) (k : ∀ v H2, Same H H2 → Dq q K H2 v d → Q v H2) : te σ H Q := h H (Same.refl _) Q k
theorem DqAll.mem : ∀ {vs : List V} {ds : List PyData} {x : V}, DqAll q K H vs ds → x ∈ vs → ∃ d ∈ ds, Dq q K H x d
  | _, _, _, .nil, h => absurd h List.not_mem_nil
  | _, _, _, .cons h t, hx => by
    rcases List.mem_cons.mp hx with rfl | hx
    · exact ⟨_, List.mem_cons_self, h⟩
    · obtain ⟨d, m, e⟩ := DqAll.mem t hx
      exact ⟨d, List.mem_cons_of_mem _ m, e⟩
theorem DqAll.app : ∀ {vs ws : List V} {ds es : List PyData}, DqAll q K H vs ds → DqAll q K H ws es → DqAll q K H (vs ++ ws) (ds ++ es)
  | _, _, _, _, .nil, h => h
  | _, _, _, _, .cons h t, h2 => .cons h (DqAll.app t h2)
/-- data that can be compared and shown -/
def okD (d : PyData) : Bool := noDct d && (d.canLay0 && decide (d.depth ≤ 60))
def okV (d : PyData) : Bool := match d with | .dict _ => true | d => okD d
def okO (d : PyData) : Bool := match d with | .list [a, b] | .tuple [a, b] => okD a && okD b | _ => true
end
theorem noDct_parts : ∀ {ds : List PyData}, noDct.all ds = true → ∀ d ∈ ds, noDct d = true
  | [], _, d, hd => absurd hd List.not_mem_nil
  | x :: r, h, d, hd => by
    unfold noDct.all at h
    rw [Bool.and_eq_true] at h
    rcases List.mem_cons.mp hd with rfl | hd
    · exact h.1
    · exact noDct_parts h.2 d hd
theorem lay_parts : ∀ {ds : List PyData}, PyData.canLayAll0 ds = true → PyData.depthAll ds ≤ 60 → ∀ d ∈ ds, d.canLay0 = true ∧ d.depth ≤ 60
  | [], _, _, d, hd => absurd hd List.not_mem_nil
  | x :: r, h, e, d, hd => by
    have h' : (x.canLay0 && PyData.canLayAll0 r) = true := h
    rw [Bool.and_eq_true] at h'
    simp only [PyData.depthAll] at e
    rcases List.mem_cons.mp hd with rfl | hd
    · exact ⟨h'.1, by omega⟩
    · exact lay_parts h'.2 (by omega) d hd
theorem okD_parts {d : PyData} {ds : List PyData} (e : d = .list ds ∨ d = .tuple ds) (h : okD d = true) : ∀ x ∈ ds, okD x = true := by
  unfold okD at h
  rw [Bool.and_eq_true, Bool.and_eq_true] at h
  obtain ⟨h1, h2, h3⟩ := h
  have h3 := of_decide_eq_true h3
  intro x hx
  have key : noDct.all ds = true ∧ PyData.canLayAll0 ds = true ∧ PyData.depthAll ds ≤ 60 := by
    rcases e with rfl | rfl
    all_goals
      unfold noDct at h1
      simp only [PyData.depth] at h3
      exact ⟨h1, h2, by omega⟩
  obtain ⟨k1, k2, k3⟩ := key
  have := lay_parts k2 k3 x hx
  unfold okD
  rw [Bool.and_eq_true, Bool.and_eq_true]
  exact ⟨noDct_parts k1 x hx, this.1, decide_eq_true this.2⟩
theorem okO_of {d : PyData} (h : okV d = true) : okO d = true := by
  unfold okO
  split
  · rename_i a b
    rw [Bool.and_eq_true]
    exact ⟨okD_parts (.inl rfl) h a (List.mem_cons_self), okD_parts (.inl rfl) h b (List.mem_cons_of_mem _ List.mem_cons_self)⟩
  · rename_i a b
    rw [Bool.and_eq_true]
    exact ⟨okD_parts (.inr rfl) h a (List.mem_cons_self), okD_parts (.inr rfl) h b (List.mem_cons_of_mem _ List.mem_cons_self)⟩
  · rfl
section
variable {q : Addr} {K : PySem.W.Frag} {H : Hp} {Q : VK} {σ : L2.St} {te : TE}
theorem okD_all : ∀ {ds : List PyData}, (∀ d ∈ ds, okD d = true) → noDct.all ds = true ∧ PyData.canLayAll0 ds = true ∧ PyData.depthAll ds ≤ 60
  | [], _ => ⟨rfl, rfl, by decide⟩
  | d :: ds, h => by
    have h1 := h d List.mem_cons_self
    obtain ⟨i1, i2, i3⟩ := okD_all fun e he => h e (List.mem_cons_of_mem _ he)
    unfold okD at h1
    rw [Bool.and_eq_true, Bool.and_eq_true] at h1
    obtain ⟨k1, k2, k3⟩ := h1
    have k3 := of_decide_eq_true k3
    refine ⟨?_, ?_, ?_⟩
    · unfold noDct.all
      rw [k1, i1]
      rfl
    · show (d.canLay0 && PyData.canLayAll0 ds) = true
      rw [k2, i2]
      rfl
    · simp only [PyData.depthAll]
      omega
/-- a list of such == [] -/
theorem g_eqNilD {c p : Addr} {vs : List V} {ds : List PyData} (h1 : SqL K H c vs) (hall : DqAll q K H vs ds) (hok : ∀ d ∈ ds, okD d = true) (h2 : SqL K H p []) (k : Q (.bl vs.isEmpty) H) : rEqU K (.ref c) (.ref p) H Q := by
  obtain ⟨i1, i2, i3⟩ := okD_all hok
  refine .inr ⟨.list ds, .list [], .lst h1 (hall.dp i1), .lst h2 .nil, ?_, by decide, ?_⟩
  · unfold SeqAt.shaped
    rw [Bool.and_eq_true]
    refine ⟨i2, decide_eq_true ?_⟩
    simp only [PyData.depth]
    omega
  · cases hall with
    | nil => exact k
    | cons _ _ => exact k
/-- what is reckoned apart -/
theorem cut_te {v : V} (h1 : ∀ Q : VK, Q v H → te σ H Q) (h2 : Q v H) : te σ H Q := h1 Q h2
theorem cut_teS {v : V} (h1 : ∀ Q : VK, (∀ H', Same H H' → Q v H') → te σ H Q) (h2 : ∀ H', Same H H' → Q v H') : te σ H Q := h1 Q h2
theorem bb_len : ∀ b c : Bool, (PyData.list [.bool b, .bool c]).shown.length ≤ sizeLine := by decide +kernel
theorem b_len : ∀ b : Bool, (PyData.bool b).shown.length ≤ sizeLine := by decide +kernel
theorem g_reprBB {p : Addr} {b c : Bool} (e : H p = some (.lst [.bl b, .bl c])) (k : Q (.str (PyData.list [.bool b, .bool c]).shown) H) : rReprU K [.ref p] H Q :=
  g_repr (.lst (seqU e) (.cons (.bl b) (.cons (.bl c) .nil))) rfl rfl (Nat.le_of_ble_eq_true rfl) (bb_len b c) k
theorem g_reprB {b : Bool} (k : Q (.str (PyData.bool b).shown) H) : rReprU K [.bl b] H Q := g_repr (.bl b) rfl rfl (Nat.le_of_ble_eq_true rfl) (b_len b) k
theorem g_neSs {x : Str} (k : Q (.bl false) H) : rNeU K (.str x) (.str x) H Q := g_neS (by rw [decide_eq_true rfl]; exact k)
theorem g_par {i j : Nat} {ta : TA} {D : Ends} (k : ta σ H fun vs H1 => ∃ u v, vs = [u, v] ∧ D.nx ((σ.set i (some u)).set j (some v)) H1) : tPar i j ta D σ H := k
theorem g_par3 {i j l : Nat} {ta : TA} {D : Ends} (k : ta σ H fun vs H1 => ∃ u v w, vs = [u, v, w] ∧ D.nx (((σ.set i (some u)).set j (some v)).set l (some w)) H1) : tPar3 i j l ta D σ H := k
theorem g_vv {x y : V} {P : V → V → Prop} (k : P x y) : ∃ u v, [x, y] = [u, v] ∧ P u v := ⟨x, y, rfl, k⟩
theorem g_vvv {x y z : V} {P : V → V → V → Prop} (k : P x y z) : ∃ u v w, [x, y, z] = [u, v, w] ∧ P u v w := ⟨x, y, z, rfl, k⟩
/-- a for over range(n) -/
theorem g_for1 {n : Int} {j : Nat} {tb : TS} {D : Ends} (hn : 0 ≤ n ∧ n ≤ 1000) (Pv : Nat → L2.St → Hp → Prop) (h0 : Pv 0 σ H)
    (hs : ∀ i σ H, i < n.toNat → Pv i σ H → tb ⟨Pv (i + 1), D.rt, D.nx, Pv (i + 1)⟩ (σ.set j (some (.int (0 + (i : Int))))) H) (hd : ∀ σ H, Pv n.toNat σ H → D.nx σ H) :
    tFor (iRng1 (tCons (tC (.int n)) tNil)) (gName j) tb D σ H :=
  ⟨n, rfl, by omega, by omega, for_range (lo := 0) (n := n.toNat) Pv h0 (fun i σ H hi p => hs i σ H hi p) hd⟩
theorem mem_bd {x : V} {ls : List (Option Int)} (h : x ∈ ls.map bdV) : ∃ l, x = bdV l := by
  obtain ⟨l, _, e⟩ := List.mem_map.mp h
  exact ⟨l, e.symm⟩
end
section
variable {K : PySem.W.Frag} {σ : L2.St} {H H1 : Hp} {Q : VK} {te : TE} {tt : TT} {vs : List Nat}
theorem g_lcO1 {g : TG} {tl : TE} (q : tl σ H fun x H1 => ∃ a, x = .ref a ∧ (∃ xs, SqL K H1 a xs) ∧ LcGo (Itl K a) g tt te vs σ H1 Q) : tLc (fun σ H R => iList K tl σ H R ∨ iTup K tl σ H R) g tt te vs σ H Q := .inl q
theorem g_lcO2 {g : TG} {tl : TE} (q : tl σ H fun x H1 => ∃ a, x = .ref a ∧ (∃ xs, SqT K H1 a xs) ∧ LcGo (Itt K a) g tt te vs σ H1 Q) : tLc (fun σ H R => iList K tl σ H R ∨ iTup K tl σ H R) g tt te vs σ H Q := .inr q
/-- .. with a test -/
theorem lcgo_listF {a : Addr} {xs : List V} {j : Nat} (Pv : Addr → Nat → Hp → Prop) (hw : ∀ x, wipe ((wipe σ vs).set j (some x)) vs = wipe σ vs)
    (h0 : ∀ D, H1 D = none → Pv D 0 (upd H1 D (.lst []))) (hl : ∀ D i H, i ≤ xs.length → Pv D i H → SqL K H a xs)
    (hs : ∀ D i x H, H1 D = none → xs[i]? = some x → Pv D i H → tt ((wipe σ vs).set j (some x)) H fun b H3 => if b = true then te ((wipe σ vs).set j (some x)) H3 fun y H4 => ∃ acc, H4 D = some (.lst acc) ∧ acc.length < sizeLine ∧ Pv D (i + 1) (upd H4 D (.lst (acc ++ [y]))) else Pv D (i + 1) H3)
    (hd : ∀ D H, H1 D = none → Pv D xs.length H → Q (.ref D) H) : LcGo (Itl K a) (gName j) tt te vs σ H1 Q :=
  fun D hD => lc_list (xs := xs) (Pv D) (h0 D hD) (hl D) (fun i x H e p => ⟨hw x, hs D i x H hD e p⟩) (fun H p => hd D H hD p)
theorem lcgo_tupF {a : Addr} {xs : List V} {j : Nat} (Pv : Addr → Nat → Hp → Prop) (hw : ∀ x, wipe ((wipe σ vs).set j (some x)) vs = wipe σ vs)
    (h0 : ∀ D, H1 D = none → Pv D 0 (upd H1 D (.lst []))) (hl : ∀ D i H, i ≤ xs.length → Pv D i H → SqT K H a xs)
    (hs : ∀ D i x H, H1 D = none → xs[i]? = some x → Pv D i H → tt ((wipe σ vs).set j (some x)) H fun b H3 => if b = true then te ((wipe σ vs).set j (some x)) H3 fun y H4 => ∃ acc, H4 D = some (.lst acc) ∧ acc.length < sizeLine ∧ Pv D (i + 1) (upd H4 D (.lst (acc ++ [y]))) else Pv D (i + 1) H3)
    (hd : ∀ D H, H1 D = none → Pv D xs.length H → Q (.ref D) H) : LcGo (Itt K a) (gName j) tt te vs σ H1 Q :=
  fun D hD => lc_tup (xs := xs) (Pv D) (h0 D hD) (hl D) (fun i x H e p => ⟨hw x, hs D i x H hD e p⟩) (fun H p => hd D H hD p)
end
end Mf
/-! values within one another: trees -/
namespace Mf
open PySem PySem.Spec PyProof.Rows L2
inductive Tr where
  | at (v : V)
  | dct (a : Addr)
  | lst (ts : List Tr)
  | tup (ts : List Tr)
/-- a leaf of the menu -/
def okA : V → Bool
  | .non => true
  | .bl _ => true
  | .int i => decide (i.natAbs < 2 ^ 70)
  | .str x => decide (x.length ≤ 10) && x.cps.toList.all fun c => decide (c < 16 ^ 8)
  | _ => false
abbrev keyA : Key := .inr (Str.ofString "a")
/-- what a tree is made of -/
def NodeO : HO → Prop
  | .lst _ => True
  | .tup _ => True
  | .dK _ => True
  | _ => False
/-- lists, tuples, dicts stay, but at N -/
def KpN (N : Addr → Prop) (H H' : Hp) : Prop := ∀ b o, ¬ N b → NodeO o → H b = some o → H' b = some o
theorem KpN.of {N : Addr → Prop} {H H' : Hp} (s : Same H H') : KpN N H H' := fun b o _ _ e => s b o e
theorem KpN.trans {N : Addr → Prop} {H H1 H2 : Hp} (a : KpN N H H1) (b : KpN N H1 H2) : KpN N H H2 := fun c o n k e => b c o n k (a c o n k e)
theorem SameX.kn {q : Addr} {N : Addr → Prop} {H H' : Hp} (s : SameX q H H') (h : N q) : KpN N H H' := fun b o n _ e => s.kept b o (fun z => n (z ▸ h)) e
mutual
inductive Vt (q : Addr → Prop) (H : Hp) : V → Tr → Prop
  | at {v : V} : okA v = true → Vt q H v (.at v)
  | dct {a l : Addr} : ¬ q a → ¬ q l → l ≠ sysModules → H a = some (.dK [(keyA, .ref l)]) → H l = some (.lst [.int 1]) → Vt q H (.ref a) (.dct a)
  | lst {a : Addr} {xs : List V} {ts : List Tr} : ¬ q a → H a = some (.lst xs) → VtAll q H xs ts → Vt q H (.ref a) (.lst ts)
  | tup {a : Addr} {xs : List V} {ts : List Tr} : ¬ q a → H a = some (.tup xs) → VtAll q H xs ts → Vt q H (.ref a) (.tup ts)
inductive VtAll (q : Addr → Prop) (H : Hp) : List V → List Tr → Prop
  | nil : VtAll q H [] []
  | cons {v : V} {vs : List V} {t : Tr} {ts : List Tr} : Vt q H v t → VtAll q H vs ts → VtAll q H (v :: vs) (t :: ts)
end
section
variable {q : Addr → Prop} {H H' : Hp}
mutual
theorem Vt.go (s : KpN q H H') : ∀ {t : Tr} {v : V}, Vt q H v t → Vt q H' v t
  | _, _, .at h => .at h
  | _, _, .dct n m k h1 h2 => .dct n m k (s _ _ n trivial h1) (s _ _ m trivial h2)
  | _, _, .lst n h ha => .lst n (s _ _ n trivial h) (VtAll.go s ha)
  | _, _, .tup n h ha => .tup n (s _ _ n trivial h) (VtAll.go s ha)
theorem VtAll.go (s : KpN q H H') : ∀ {ts : List Tr} {vs : List V}, VtAll q H vs ts → VtAll q H' vs ts
  | _, _, .nil => .nil
  | _, _, .cons h t => .cons (Vt.go s h) (VtAll.go s t)
end
mutual
/-- fewer addresses are left out -/
theorem Vt.le {N N' : Addr → Prop} {H : Hp} (i : ∀ a, H a ≠ none → N' a → N a) : ∀ {t : Tr} {v : V}, Vt N H v t → Vt N' H v t
  | _, _, .at h => .at h
  | _, _, .dct n m k h1 h2 => .dct (fun z => n (i _ (by rw [h1]; exact Option.some_ne_none _) z)) (fun z => m (i _ (by rw [h2]; exact Option.some_ne_none _) z)) k h1 h2
  | _, _, .lst n h ha => .lst (fun z => n (i _ (by rw [h]; exact Option.some_ne_none _) z)) h (VtAll.le i ha)
  | _, _, .tup n h ha => .tup (fun z => n (i _ (by rw [h]; exact Option.some_ne_none _) z)) h (VtAll.le i ha)
theorem VtAll.le {N N' : Addr → Prop} {H : Hp} (i : ∀ a, H a ≠ none → N' a → N a) : ∀ {ts : List Tr} {vs : List V}, VtAll N H vs ts → VtAll N' H vs ts
  | _, _, .nil => .nil
  | _, _, .cons h t => .cons (Vt.le i h) (VtAll.le i t)
end
theorem VtAll.len : ∀ {vs : List V} {ts : List Tr}, VtAll q H vs ts → vs.length = ts.length
  | _, _, .nil => rfl
  | _, _, .cons _ t => congrArg Nat.succ (VtAll.len t)
theorem VtAll.app : ∀ {vs ws : List V} {ts us : List Tr}, VtAll q H vs ts → VtAll q H ws us → VtAll q H (vs ++ ws) (ts ++ us)
  | _, _, _, _, .nil, h => h
  | _, _, _, _, .cons h t, h2 => .cons h (VtAll.app t h2)
theorem VtAll.get : ∀ {vs : List V} {ts : List Tr}, VtAll q H vs ts → ∀ {i : Nat} {v : V}, vs[i]? = some v → ∃ t, ts[i]? = some t ∧ Vt q H v t
  | _, _, .nil, i, v, e => by simp at e
  | _, _, .cons h _, 0, v, e => by
    simp at e
    subst e
    exact ⟨_, rfl, h⟩
  | _, _, .cons _ r, i + 1, v, e => by
    obtain ⟨t, e1, h1⟩ := VtAll.get r (i := i) (by simpa using e)
    exact ⟨t, by simpa using e1, h1⟩
end
theorem VtAll.of_mem {q : Addr → Prop} {H : Hp} : ∀ {vs : List V} {ts : List Tr} {t : Tr}, VtAll q H vs ts → t ∈ ts → ∃ v, Vt q H v t
  | _, _, _, .nil, h => nomatch h
  | _, _, t, .cons h r, m => by
    rcases List.mem_cons.mp m with rfl | m
    · exact ⟨_, h⟩
    · exact VtAll.of_mem r m
/-! tuples for lists -/
mutual
def Tr.fx : Tr → Tr
  | .at v => .at v
  | .dct a => .dct a
  | .lst ts => .tup (Tr.fxs ts)
  | .tup ts => .tup (Tr.fxs ts)
def Tr.fxs : List Tr → List Tr
  | [] => []
  | t :: ts => t.fx :: Tr.fxs ts
end
theorem fxs_map : ∀ ts : List Tr, Tr.fxs ts = ts.map Tr.fx
  | [] => rfl
  | t :: ts => by
    show t.fx :: Tr.fxs ts = _
    rw [fxs_map ts] <;> rfl
mutual
theorem fx_fx : ∀ t : Tr, t.fx.fx = t.fx
  | .at v => rfl
  | .dct a => rfl
  | .lst ts => by
    show Tr.tup (Tr.fxs (Tr.fxs ts)) = Tr.tup (Tr.fxs ts)
    rw [fxs_fxs ts]
  | .tup ts => by
    show Tr.tup (Tr.fxs (Tr.fxs ts)) = Tr.tup (Tr.fxs ts)
    rw [fxs_fxs ts]
theorem fxs_fxs : ∀ ts : List Tr, Tr.fxs (Tr.fxs ts) = Tr.fxs ts
  | [] => rfl
  | t :: ts => by
    show t.fx.fx :: Tr.fxs (Tr.fxs ts) = t.fx :: Tr.fxs ts
    rw [fx_fx t, fxs_fxs ts]
end
/-- at most n levels, three items each -/
def Ok : Nat → Tr → Prop
  | _, .at _ => True
  | _, .dct _ => True
  | 0, .lst _ => False
  | 0, .tup _ => False
  | n + 1, .lst ts => ts.length ≤ 4 ∧ ∀ t ∈ ts, Ok n t
  | n + 1, .tup ts => ts.length ≤ 4 ∧ ∀ t ∈ ts, Ok n t
theorem Ok.fx : ∀ {n : Nat} {t : Tr}, Ok n t → Ok n t.fx
  | n, .at _, _ => by cases n <;> trivial
  | n, .dct _, _ => by cases n <;> trivial
  | 0, .lst _, h => h.elim
  | 0, .tup _, h => h.elim
  | n + 1, .lst ts, h => by
    refine ⟨by rw [fxs_map, List.length_map]; exact h.1, fun t ht => ?_⟩
    rw [fxs_map] at ht
    obtain ⟨u, hu, rfl⟩ := List.mem_map.mp ht
    exact Ok.fx (h.2 u hu)
  | n + 1, .tup ts, h => by
    refine ⟨by rw [fxs_map, List.length_map]; exact h.1, fun t ht => ?_⟩
    rw [fxs_map] at ht
    obtain ⟨u, hu, rfl⟩ := List.mem_map.mp ht
    exact Ok.fx (h.2 u hu)
theorem Ok.up : ∀ {n : Nat} {t : Tr}, Ok n t → Ok (n + 1) t
  | n, .at _, _ => trivial
  | n, .dct _, _ => trivial
  | 0, .lst _, h => h.elim
  | 0, .tup _, h => h.elim
  | n + 1, .lst ts, h => ⟨h.1, fun t ht => Ok.up (h.2 t ht)⟩
  | n + 1, .tup ts, h => ⟨h.1, fun t ht => Ok.up (h.2 t ht)⟩
/-! what is shown -/
def vd : V → PyData
  | .bl b => .bool b
  | .int i => .int i
  | .str x => .str x
  | _ => .none
def dctD : PyData := .dict [(.str (Str.ofString "a"), .list [.int 1])]
mutual
def Tr.pd : Tr → PyData
  | .at v => vd v
  | .dct _ => dctD
  | .lst ts => .list (Tr.pds ts)
  | .tup ts => .tuple (Tr.pds ts)
def Tr.pds : List Tr → List PyData
  | [] => []
  | t :: ts => t.pd :: Tr.pds ts
end
structure ShT (W d : Nat) (x : PyData) : Prop where
  sh : x.showable = true
  lv : x.leavesShort 72 = true
  wt : x.weight ≤ W
  dp : x.depth ≤ d
structure ShTs (W d : Nat) (xs : List PyData) : Prop where
  sh : PyData.showableAll xs = true
  lv : PyData.leavesShortAll 72 xs = true
  wt : PyData.weightAll xs ≤ W
  dp : PyData.depthAll xs ≤ d
theorem ShT.mono {W d W' d' : Nat} {x : PyData} (h : ShT W d x) (w : W ≤ W') (e : d ≤ d') : ShT W' d' x := ⟨h.sh, h.lv, Nat.le_trans h.wt w, Nat.le_trans h.dp e⟩
theorem sht_nil {W d : Nat} : ShTs W d [] := ⟨rfl, rfl, Nat.zero_le _, Nat.zero_le _⟩
theorem sht_cons {W W' d : Nat} {x : PyData} {xs : List PyData} (h : ShT W d x) (t : ShTs W' d xs) : ShTs (W + 1 + W') d (x :: xs) := by
  refine ⟨?_, ?_, ?_, ?_⟩
  · show (x.showable && PyData.showableAll xs) = true
    rw [h.sh, t.sh] <;> rfl
  · show (x.leavesShort 72 && PyData.leavesShortAll 72 xs) = true
    rw [h.lv, t.lv] <;> rfl
  · have := h.wt
    have := t.wt
    simp only [PyData.weightAll]
    omega
  · have := h.dp
    have := t.dp
    simp only [PyData.depthAll]
    omega
theorem sht_tup {W d : Nat} {xs : List PyData} (h : ShTs W d xs) : ShT (W + 1) (d + 1) (.tuple xs) := by
  refine ⟨h.sh, h.lv, ?_, ?_⟩
  · have := h.wt
    rw [PyData.weight]
    omega
  · have := h.dp
    simp only [PyData.depth]
    omega
theorem sht_lst {W d : Nat} {xs : List PyData} (h : ShTs W d xs) : ShT (W + 1) (d + 1) (.list xs) := by
  refine ⟨h.sh, h.lv, ?_, ?_⟩
  · have := h.wt
    rw [PyData.weight]
    omega
  · have := h.dp
    simp only [PyData.depth]
    omega
theorem sht_int {i : Int} (b : i.natAbs < 2 ^ 70) : ShT 100 3 (.int i) := by
  have lg : i.natAbs.log2 < 70 := by
    by_cases z : i.natAbs = 0
    · rw [z, Nat.log2_zero]
      omega
    · exact (Nat.log2_lt z).mpr b
  refine ⟨decide_eq_true (by omega), ?_, ?_, ?_⟩
  · show decide ((PyData.shown (.int i)).length ≤ 72) = true
    refine decide_eq_true ?_
    show (PySem.Str.ofString (toString i)).length ≤ 72
    rw [PySem.ofString_length]
    exact Nat.le_trans (PySem.int_text_length_le (by omega) lg) (by omega)
  · show (if (i == 0) = true then 0 else i.natAbs.log2 + 1) ≤ 100
    split <;> omega
  · simp [PyData.depth]
theorem sht_at : ∀ {v : V}, okA v = true → ShT 100 3 (vd v)
  | .non, _ => ⟨rfl, rfl, Nat.zero_le _, by simp [vd, PyData.depth]⟩
  | .bl b, _ => ⟨rfl, rfl, Nat.zero_le _, by simp [vd, PyData.depth]⟩
  | .int i, h => sht_int (of_decide_eq_true h)
  | .str x, h => by
    have h' := Bool.and_eq_true_iff.mp h
    exact ⟨rfl, h'.2, Nat.le_trans (of_decide_eq_true h'.1) (by decide), by simp [vd, PyData.depth]⟩
  | .byt _, h => absurd h Bool.false_ne_true
  | .flt _, h => absurd h Bool.false_ne_true
  | .ref _, h => absurd h Bool.false_ne_true
  | .ty _, h => absurd h Bool.false_ne_true
theorem sht_dct : ShT 100 3 dctD := ⟨by decide +kernel, by decide +kernel, by decide +kernel, by decide +kernel⟩
def Wb : Nat → Nat
  | 0 => 100
  | n + 1 => 4 * (Wb n + 1) + 1
theorem Wb_pos (n : Nat) : 100 ≤ Wb n := by
  induction n with
  | zero => exact Nat.le_refl _
  | succ n ih => show 100 ≤ 4 * (Wb n + 1) + 1; omega
theorem sht_list {W d : Nat} : ∀ {ts : List Tr}, (∀ t ∈ ts, ShT W d t.pd) → ShTs (ts.length * (W + 1)) d (Tr.pds ts)
  | [], _ => sht_nil
  | t :: ts, h => by
    have z := sht_cons (h t List.mem_cons_self) (sht_list (ts := ts) fun u hu => h u (List.mem_cons_of_mem _ hu))
    refine ⟨z.sh, z.lv, ?_, z.dp⟩
    have w := z.wt
    rw [List.length_cons, Nat.succ_mul]
    show PyData.weightAll (t.pd :: Tr.pds ts) ≤ _
    omega
theorem Ok.sht : ∀ {n : Nat} {t : Tr} {q : Addr → Prop} {H : Hp} {v : V}, Ok n t → Vt q H v t → ShT (Wb n) (n + 3) t.pd
  | n, .at _, _, _, _, _, .at h => (sht_at h).mono (Wb_pos n) (by omega)
  | n, .dct _, _, _, _, _, .dct .. => sht_dct.mono (Wb_pos n) (by omega)
  | 0, .lst _, _, _, _, h, _ => h.elim
  | 0, .tup _, _, _, _, h, _ => h.elim
  | n + 1, .lst ts, q, H, _, h, .lst _ _ ha => by
    have z := sht_lst (sht_list (W := Wb n) (d := n + 3) (ts := ts) fun t ht => by
      obtain ⟨v, hv⟩ := VtAll.of_mem ha ht
      exact Ok.sht (h.2 t ht) hv)
    refine z.mono ?_ (Nat.le_refl _)
    show ts.length * (Wb n + 1) + 1 ≤ 4 * (Wb n + 1) + 1
    exact Nat.add_le_add_right (Nat.mul_le_mul_right _ h.1) 1
  | n + 1, .tup ts, q, H, _, h, .tup _ _ ha => by
    have z := sht_tup (sht_list (W := Wb n) (d := n + 3) (ts := ts) fun t ht => by
      obtain ⟨v, hv⟩ := VtAll.of_mem ha ht
      exact Ok.sht (h.2 t ht) hv)
    refine z.mono ?_ (Nat.le_refl _)
    show ts.length * (Wb n + 1) + 1 ≤ 4 * (Wb n + 1) + 1
    exact Nat.add_le_add_right (Nat.mul_le_mul_right _ h.1) 1
/-! repr of a tree: only dicts' addresses matter -/
mutual
inductive Rp (h : Heap) : Value → PyData → Prop
  | leaf {v : Value} {d : PyData} {as : List Addr} : Reads h v d as → sysModules ∉ as → Rp h v d
  | lst {a : Addr} {o : Obj} {vs : Array Value} {n : Nat} {ds : List PyData} : h.get? a = some o → o.cls = .type "list" → o.data = .seq vs n → RpAll h vs.toList ds → Rp h (.ref a) (.list ds)
  | tup {a : Addr} {o : Obj} {vs : Array Value} {n : Nat} {ds : List PyData} : h.get? a = some o → o.cls = .type "tuple" → o.data = .seq vs n → RpAll h vs.toList ds → Rp h (.ref a) (.tuple ds)
inductive RpAll (h : Heap) : List Value → List PyData → Prop
  | nil : RpAll h [] []
  | cons {v : Value} {vs : List Value} {d : PyData} {ds : List PyData} : Rp h v d → RpAll h vs ds → RpAll h (v :: vs) (d :: ds)
end
mutual
theorem Rp.reads {h : Heap} : ∀ {d : PyData} {v : Value}, Rp h v d → ∃ as, Reads h v d as
  | _, _, .leaf r _ => ⟨_, r⟩
  | _, _, .lst h1 h2 h3 ha => let ⟨_, r⟩ := RpAll.reads ha; ⟨_, .list h1 h2 h3 r⟩
  | _, _, .tup h1 h2 h3 ha => let ⟨_, r⟩ := RpAll.reads ha; ⟨_, .tuple h1 h2 h3 r⟩
theorem RpAll.reads {h : Heap} : ∀ {ds : List PyData} {vs : List Value}, RpAll h vs ds → ∃ as, ReadsAll h vs ds as
  | _, _, .nil => ⟨_, .nil⟩
  | _, _, .cons x t => let ⟨_, r⟩ := Rp.reads x; let ⟨_, r2⟩ := RpAll.reads t; ⟨_, .cons r r2⟩
end
section
variable {prog : Program} {w : World} {h : Heap}
mutual
theorem Rp.rep : ∀ {d : PyData} {v : Value}, Rp h v d → d.showable = true → d.shown.length ≤ sizeLine → ∃ bs, ReadAtMost h d.depth bs ∧ ReprK prog w bs h d.depth v d.shown
  | _, _, .leaf r n, hs, hz => ReprK.of_reads r hs (fun _ => n) hz
  | .list ds, _, .lst (a := a) (vs := vs) h1 h2 h3 ha, hs, hz => by
    have hz' : (listText (PyData.shownAll ds)).length ≤ sizeLine := by simpa only [PyData.shown] using hz
    obtain ⟨bs, hb, hk⟩ := RpAll.rep ha hs fun t ht => Nat.le_trans (listText_mem_le ht) hz'
    obtain ⟨as, ra⟩ := RpAll.reads ha
    have r : Reads h (.ref a) (.list ds) (a :: as) := .list h1 h2 h3 ra
    have na : a ∉ bs := not_mem_of_deeper r (by rw [PyData.depth]; exact Nat.lt_succ_self _) hb
    refine ⟨a :: bs, ReadAtMost.cons r (by rw [PyData.depth]; exact Nat.le_succ _) hb, ?_⟩
    rw [PyData.depth, PyData.shown]
    obtain ⟨l⟩ := vs
    cases l with
    | nil =>
      cases (show RpAll h [] ds from ha)
      rw [PyData.shownAll, listText_nil]
      exact ReprK.listEmpty h1 h2 h3
    | cons x l => exact ReprK.list h1 h2 h3 na (by simpa using hk.length_eq) (fun i y e => hk.item i y (by simpa using e))
  | .tuple ds, _, .tup (a := a) h1 h2 h3 ha, hs, hz => by
    have hz' : (tupleText (PyData.shownAll ds)).length ≤ sizeLine := by simpa only [PyData.shown] using hz
    obtain ⟨bs, hb, hk⟩ := RpAll.rep ha hs fun t ht => Nat.le_trans (tupleText_mem_le ht) hz'
    obtain ⟨as, ra⟩ := RpAll.reads ha
    have r : Reads h (.ref a) (.tuple ds) as := .tuple h1 h2 h3 ra
    have na : a ∉ bs := not_mem_of_deeper r (by rw [PyData.depth]; exact Nat.lt_succ_self _) hb
    refine ⟨a :: bs, ReadAtMost.cons r (by rw [PyData.depth]; exact Nat.le_succ _) hb, ?_⟩
    rw [PyData.depth, PyData.shown]
    exact ReprK.tuple h1 h2 h3 na hk
theorem RpAll.rep : ∀ {ds : List PyData} {vs : List Value}, RpAll h vs ds → PyData.showableAll ds = true → (∀ t ∈ PyData.shownAll ds, t.length ≤ sizeLine) →
    ∃ bs, ReadAtMost h (PyData.depthAll ds) bs ∧ ReprAllK prog w bs h (PyData.depthAll ds) vs (PyData.shownAll ds)
  | _, _, .nil, _, _ => ⟨[], fun _ z => (nomatch z), by rw [PyData.shownAll]; exact .nil⟩
  | d :: ds, _, .cons x t, hs, hz => by
    have hs' := Bool.and_eq_true_iff.mp (show (d.showable && PyData.showableAll ds) = true from hs)
    obtain ⟨b1, p1, k1⟩ := Rp.rep x hs'.1 (hz _ (by rw [PyData.shownAll]; exact List.mem_cons_self))
    obtain ⟨b2, p2, k2⟩ := RpAll.rep t hs'.2 fun u hu => hz u (by rw [PyData.shownAll]; exact List.mem_cons_of_mem _ hu)
    refine ⟨b1 ++ b2, ?_, ?_⟩
    · rw [PyData.depthAll]
      exact (p1.mono (Nat.le_max_left _ _)).append (p2.mono (Nat.le_max_right _ _))
    · rw [PyData.depthAll, PyData.shownAll]
      exact .cons ((k1.more fun b hb => List.mem_append_left _ hb).level_le (Nat.le_max_left _ _)) (k2.more_le (fun b hb => List.mem_append_right _ hb) (Nat.le_max_right _ _))
end
theorem repr_tup {A : Around} {E : Value → Shared → Prop} {s : Shared} {Q : Value → Shared → Prop} {a : Addr} {ds : List PyData} (r : Rp s.heap (.ref a) (.tuple ds)) (hs : (PyData.tuple ds).showable = true) (hz : (PyData.tuple ds).shown.length ≤ sizeLine) (hg : A.guards = some [])
    (hu : A.units + ((PyData.tuple ds).depth + 1) < cLine) (hQ : ∀ h' u tk, (∀ b o, s.heap.get? b = some o → h'.get? b = some o) → Q (.str (PyData.tuple ds).shown u) { s with heap := h', toks := tk }) :
    wpAny (model prog w) A (call (.builtin "repr") [.ref a]) Q E s := by
  cases r with
  | leaf r n => exact repr_of_reads' r hs (fun _ => n) hg hu (fun _ _ e => e) hQ hz
  | tup h1 h2 h3 ha =>
    rw [PyData.shown] at hz hQ
    obtain ⟨bs, hb, hk⟩ := RpAll.rep (prog := prog) (w := w) ha hs fun t ht => Nat.le_trans (tupleText_mem_le ht) hz
    obtain ⟨as, ra⟩ := RpAll.reads ha
    have na : a ∉ bs := not_mem_of_deeper (.tuple h1 h2 h3 ra) (by rw [PyData.depth]; exact Nat.lt_succ_self _) hb
    rw [PyData.depth] at hu
    refine call_repr_slot (by omega) ⟨_, h1, h2⟩ PySem.F.slot_tuple_repr ?_
    exact call_tuple_reprK h1 h2 h3 na hk hg (fun b _ => Clear.nil b) (by show A.units + 1 + _ < cLine; omega) (fun _ _ e => e) (fun h' u tk k => ⟨_, _, rfl, hQ h' u tk k⟩) hz
theorem repr_lst {A : Around} {E : Value → Shared → Prop} {s : Shared} {Q : Value → Shared → Prop} {a : Addr} {ds : List PyData} (r : Rp s.heap (.ref a) (.list ds)) (hs : (PyData.list ds).showable = true) (hz : (PyData.list ds).shown.length ≤ sizeLine) (hg : A.guards = some [])
    (hu : A.units + ((PyData.list ds).depth + 1) < cLine) (hQ : ∀ h' u tk, (∀ b o, s.heap.get? b = some o → h'.get? b = some o) → Q (.str (PyData.list ds).shown u) { s with heap := h', toks := tk }) :
    wpAny (model prog w) A (call (.builtin "repr") [.ref a]) Q E s := by
  cases r with
  | leaf r n => exact repr_of_reads' r hs (fun _ => n) hg hu (fun _ _ e => e) hQ hz
  | @lst _ o vs n _ h1 h2 h3 ha =>
    rw [PyData.shown] at hz hQ
    obtain ⟨bs, hb, hk⟩ := RpAll.rep (prog := prog) (w := w) ha hs fun t ht => Nat.le_trans (listText_mem_le ht) hz
    obtain ⟨as, ra⟩ := RpAll.reads ha
    have na : a ∉ bs := not_mem_of_deeper (.list h1 h2 h3 ra) (by rw [PyData.depth]; exact Nat.lt_succ_self _) hb
    rw [PyData.depth] at hu
    refine call_repr_slot (by omega) ⟨_, h1, h2⟩ PySem.F.slot_list_repr.toG ?_
    obtain ⟨l⟩ := vs
    cases l with
    | nil =>
      cases (show RpAll s.heap [] ds from ha)
      rw [PyData.shownAll, listText_nil] at hQ
      exact call_list_repr_empty ⟨_, h1, h2⟩ h1 h3 ⟨_, _, rfl, hQ _ _ _ fun _ _ e => e⟩
    | cons x l =>
      exact call_list_reprK h1 h2 h3 na (by simpa using hk.length_eq) (fun i y e => hk.item i y (by simpa using e)) hg (fun b _ => Clear.nil b) (by show A.units + 1 + _ < cLine; omega) (fun _ _ e => e)
        (fun h' u tk k => ⟨_, _, rfl, hQ h' u tk k⟩) hz
end
end Mf
/-! trees read and shown -/
namespace Mf
open PySem PySem.Spec PyProof.Rows L2
section
variable {X : Cx} {pins : List (Addr × Obj)} {σ : L2.St} {H : Hp} {s : Shared} {q : Addr → Prop}
theorem rel_at {v : V} {u : Value} (h : okA v = true) (r : RelV v u) : Reads s.heap u (vd v) [] := by
  cases v with
  | non =>
    cases r
    exact .none
  | bl b =>
    cases r
    exact .bool b
  | int i =>
    obtain ⟨t, rfl⟩ := r
    exact .int i t
  | str x =>
    obtain ⟨t, rfl⟩ := r
    exact .str x t
  | byt b => exact absurd h Bool.false_ne_true
  | flt b => exact absurd h Bool.false_ne_true
  | ref a => exact absurd h Bool.false_ne_true
  | ty n => exact absurd h Bool.false_ne_true
theorem dct_reads (I : L2.Inv X pins σ H s) {a l : Addr} (m : l ≠ sysModules) (h1 : H a = some (.dK [(keyA, .ref l)])) (h2 : H l = some (.lst [.int 1])) : ∃ as, Reads s.heap (.ref a) dctD as ∧ sysModules ∉ as := by
  obtain ⟨_, hs, vs, kv, o, es, ep, h3, h4, h5, _, h6, _⟩ := (show ObjOk X.prog X.w H s.heap a (.dK [(keyA, .ref l)]) from I.hok a _ h1)
  obtain ⟨_, its, n, rv, e2⟩ := (show ObjOk X.prog X.w H s.heap l (.lst [.int 1]) from I.hok l _ h2)
  cases rv with
  | cons r3 rv =>
    cases rv
    obtain ⟨t3, rfl⟩ := r3
    have kv' : Paired (fun (p : Key × V) (q : Key × Value) => p.1 = q.1 ∧ RelV p.2 q.2) [(keyA, .ref l)] vs := kv
    obtain ⟨w2, rfl, k3⟩ : ∃ w2, vs = [(keyA, w2)] ∧ RelV (.ref l) w2 := by
      match vs, kv' with
      | [(w1, w2)], .cons ⟨k2, k3⟩ .nil => exact ⟨w2, by rw [← (show keyA = w1 from k2)], k3⟩
    cases (show w2 = Value.ref l from k3)
    generalize ez : es.toList = ez at h6
    cases h6 with
    | cons p3 p4 pr =>
      cases pr
      rename_i e
      obtain ⟨t, ek⟩ : ∃ t, e.key = Value.str (Str.ofString "a") t := by
        rcases keyIs_shape (show keyIs keyA e.key = true from p3) with ⟨i, t, z, _⟩ | ⟨x, t, z, z2⟩
        · cases z
        · cases z
          exact ⟨t, z2⟩
      have ev : e.val = Value.ref l := p4
      refine ⟨_, Reads.dict (kvs := [(.str (Str.ofString "a"), .list [.int 1])]) h3 h4.1 h5 (as := []) (bs := [l]) ?_ ?_, fun z => ?_⟩
      · rw [ez]
        show ReadsAll s.heap [e.key] [.str (Str.ofString "a")] []
        rw [ek]
        exact .cons (as := []) (bs := []) (.str _ t) .nil
      · rw [ez]
        show ReadsAll s.heap [e.val] [.list [.int 1]] [l]
        rw [ev]
        exact .cons (as := [l]) (bs := []) (.list (as := []) e2 rfl rfl (.cons (as := []) (bs := []) (.int 1 t3) .nil)) .nil
      · rcases List.mem_cons.mp z with z | z
        · rw [← z] at hs
          simp at hs
        · rcases List.mem_cons.mp z with z | z
          · exact m z.symm
          · cases z
mutual
theorem Vt.rp (I : L2.Inv X pins σ H s) : ∀ {t : Tr} {v : V} {u : Value}, Vt q H v t → RelV v u → Rp s.heap u t.pd
  | _, _, _, .at h, r => .leaf (rel_at h r) (fun z => nomatch z)
  | _, _, u, .dct (a := a) _ _ m h1 h2, r => by
    cases (show u = Value.ref a from r)
    obtain ⟨as, x, y⟩ := dct_reads I m h1 h2
    exact .leaf x y
  | _, _, u, .lst (a := a) (xs := xs) _ h ha, r => by
    cases (show u = Value.ref a from r)
    obtain ⟨_, its, n, rv, e⟩ := (show ObjOk X.prog X.w H s.heap a (.lst xs) from I.hok a _ h)
    exact .lst e rfl rfl (by simpa using VtAll.rp I ha rv)
  | _, _, u, .tup (a := a) (xs := xs) _ h ha, r => by
    cases (show u = Value.ref a from r)
    obtain ⟨_, its, rv, o, ho, hc, m, hd⟩ := (show ObjOk X.prog X.w H s.heap a (.tup xs) from I.hok a _ h)
    exact .tup ho hc hd (by simpa using VtAll.rp I ha rv)
theorem VtAll.rp (I : L2.Inv X pins σ H s) : ∀ {ts : List Tr} {vs : List V} {us : List Value}, VtAll q H vs ts → Vals vs us → RpAll s.heap us (Tr.pds ts)
  | _, _, _, .nil, .nil => .nil
  | _, _, _, .cons h t, .cons r1 r2 => .cons (Vt.rp I h r1) (VtAll.rp I t r2)
end
end
theorem shown_fits {W d : Nat} {x : PyData} (s : ShT W d x) (hw : 74 * W + 72 ≤ 16777216) : x.shown.length ≤ sizeLine := by
  rw [sizeLine_eq]
  have h1 := PyData.shown_le 72 (by decide) x s.lv
  have h2 : (72 + 2) * x.weight ≤ (72 + 2) * W := Nat.mul_le_mul_left _ s.wt
  omega
section
variable {X : Cx}
/-- repr(x) of a tree -/
def rReprT : List V → Hp → VK → Prop := fun xs H Q => ∃ (q : Addr → Prop) (v : V) (t : Tr) (n : Nat), xs = [v] ∧ Vt q H v t ∧ Ok n t ∧ n ≤ 5 ∧ Q (.str t.pd.shown) H
theorem Wb_le : ∀ {n : Nat}, n ≤ 5 → Wb n ≤ 110000 := by
  intro n h
  have : n = 0 ∨ n = 1 ∨ n = 2 ∨ n = 3 ∨ n = 4 ∨ n = 5 := by omega
  rcases this with rfl | rfl | rfl | rfl | rfl | rfl <;> decide
theorem call_reprT (hA : X.A.guards = some []) (hu : X.A.units + 64 < cLine) : CallR X (.builtin "repr") rReprT := by
  intro pins s σ H xs us Q I r h
  obtain ⟨q, v, t, n, rfl, hv, ho, hn, q1⟩ := h
  obtain ⟨u, rfl, rx⟩ := vals1 r
  have sh := ho.sht hv
  have hz := shown_fits sh (by have := Wb_le hn; omega)
  have hd := sh.dp
  have hk : ∀ h' u2 tk, (∀ b o, s.heap.get? b = some o → h'.get? b = some o) → EP X pins σ Q (.str t.pd.shown u2) { s with heap := h', toks := tk } := fun h' u2 tk k => ⟨.str _, H, I.kept k, ⟨u2, rfl⟩, q1⟩
  have rp := Vt.rp I hv rx
  cases hv with
  | @«at» v h =>
    cases v with
    | non =>
      cases (show u = Value.none from rx)
      exact PySem.P.repr_of_none ⟨.str _, H, I.tok _, ⟨_, rfl⟩, q1⟩
    | bl b =>
      cases (show u = Value.bool b from rx)
      exact PySem.P.repr_of_bool ⟨.str _, H, I.tok _, ⟨_, rfl⟩, q1⟩
    | int i =>
      obtain ⟨t, rfl⟩ := (show ∃ t, u = Value.int i t from rx)
      exact PySem.P.repr_of_int (of_decide_eq_true sh.sh) ⟨.str _, H, I.tok _, ⟨_, rfl⟩, q1⟩
    | str x =>
      obtain ⟨t, rfl⟩ := (show ∃ t, u = Value.str x t from rx)
      exact PySem.P.repr_of_str ⟨.str _, H, I.tok _, ⟨_, rfl⟩, q1⟩ hz
    | byt b => exact absurd h Bool.false_ne_true
    | flt b => exact absurd h Bool.false_ne_true
    | ref a => exact absurd h Bool.false_ne_true
    | ty n => exact absurd h Bool.false_ne_true
  | dct n1 n2 m h1 h2 =>
    cases rx
    obtain ⟨as, x, y⟩ := dct_reads I m h1 h2
    exact repr_of_reads' x sh.sh (fun _ => y) hA (by show X.A.units + (dctD.depth + 1) < cLine; have : dctD.depth ≤ 3 := sht_dct.dp; omega) (fun b o e => e) hk hz
  | lst n1 h1 ha =>
    cases rx
    exact repr_lst rp sh.sh hz hA (by show X.A.units + ((PyData.list (Tr.pds _)).depth + 1) < cLine; have h2 : (PyData.list (Tr.pds _)).depth ≤ n + 3 := hd; omega) hk
  | tup n1 h1 ha =>
    cases rx
    exact repr_tup rp sh.sh hz hA (by show X.A.units + ((PyData.tuple (Tr.pds _)).depth + 1) < cLine; have h2 : (PyData.tuple (Tr.pds _)).depth ≤ n + 3 := hd; omega) hk
/-- repr of a list of trees (six of them) that stands there -/
def rReprTs : List V → Hp → VK → Prop := fun xs H Q => ∃ (q : Addr → Prop) (a : Addr) (vs : List V) (ts : List Tr) (n : Nat), xs = [.ref a] ∧ H a = some (.lst vs) ∧ VtAll q H vs ts ∧ (∀ t ∈ ts, Ok n t) ∧ n ≤ 4 ∧ ts.length ≤ 6 ∧ Q (.str (PyData.list (Tr.pds ts)).shown) H
theorem call_reprTs (hA : X.A.guards = some []) (hu : X.A.units + 64 < cLine) : CallR X (.builtin "repr") rReprTs := by
  intro pins s σ H xs us Q I r h
  obtain ⟨q, a, vs, ts, n, rfl, h1, ha, ho, hn, hl, q1⟩ := h
  obtain ⟨u, rfl, rx⟩ := vals1 r
  cases (show u = Value.ref a from rx)
  have sh := sht_lst (sht_list (W := Wb n) (d := n + 3) (ts := ts) fun t ht => by
    obtain ⟨v, hv⟩ := VtAll.of_mem ha ht
    exact Ok.sht (ho t ht) hv)
  have hz := shown_fits sh (by
    have h1 := Wb_le (n := n) (by omega)
    have h2 : ts.length * (Wb n + 1) ≤ 6 * (Wb n + 1) := Nat.mul_le_mul_right _ hl
    have h3 : Wb n ≤ 28000 := by
      have : n = 0 ∨ n = 1 ∨ n = 2 ∨ n = 3 ∨ n = 4 := by omega
      rcases this with rfl | rfl | rfl | rfl | rfl <;> decide
    omega)
  obtain ⟨_, its, m, rv, e⟩ := (show ObjOk X.prog X.w H s.heap a (.lst vs) from I.hok a _ h1)
  have hd := sh.dp
  exact repr_lst (.lst e rfl rfl (by simpa using VtAll.rp I ha rv)) sh.sh hz hA (by omega) fun h' u2 tk k => ⟨.str _, H, I.kept k, ⟨u2, rfl⟩, q1⟩
/-- [..]: the new list is no table of modules -/
def NewS (xs : List V) (H : Hp) (Q : VK) : Prop := xs.length ≤ sizeLine ∧ ∀ p, H p = none → p ≠ sysModules → Q (.ref p) (upd H p (.lst xs))
def tLstS (t : TA) : TE := fun σ H Q => t σ H fun xs H1 => NewS xs H1 Q
theorem pe_lstS {es : List Expr} {pos : Pos} {t : TA} (h : PA X es t) : PE X (.List es pos) (tLstS t) := by
  refine ⟨fun pins s σ H Q I hq => ?_⟩
  refine wpAny_List_spliced (thn (h.run pos pins s σ H _ I hq) fun us s1 ⟨xs, H1, I1, r, z, q⟩ => ⟨by rw [← r.length]; exact z, ?_⟩)
  have hf : H1 s1.heap.objs.size = none := I1.hok.fresh (Nat.le_refl _)
  refine ⟨.ref s1.heap.objs.size, upd H1 s1.heap.objs.size (.lst xs), I1.laid (t' := s1.toks) (fun b u e => Heap.get?_push_of_some _ e) (Nat.le_refl _) ?_, rfl, q _ hf (Ne.symm (Nat.ne_of_lt I1.big))⟩
  exact ⟨z, us, 0, r, Heap.get?_push_size _ rfl⟩
theorem g_lstS {tr : TA} {σ : L2.St} {H : Hp} {Q : VK} (q : tr σ H fun xs H1 => NewS xs H1 Q) : tLstS tr σ H Q := q
theorem g_newS {xs : List V} {H : Hp} {Q : VK} (hl : xs.length ≤ sizeLine) (q : ∀ p H2, H p = none → p ≠ sysModules → Same H H2 → H2 p = some (.lst xs) → Q (.ref p) H2) : NewS xs H Q :=
  ⟨hl, fun p hp np => q p _ hp np (same_new hp) upd_same⟩
end
end Mf
/-! == of trees -/
namespace Mf
open PySem PySem.Spec PyProof.Rows L2
section
variable {A : Around} {s : Shared}
theorem eq_rcL {a : Addr} {y : Value} {k : Bool} (n : Value.ref a ≠ y) (g : SeqAt.RcAt A s (.ref a) y k) : SeqAt.EqAt A s (.ref a) y k := fun prog w E Q z => by
  unfold eqBool
  refine wpAny_holding (wpAny_ite_split (fun q => absurd (eq_of_beq q) n) fun _ => ?_)
  exact wpAny_bind (g prog w E _ (wpAny_truthy_bool z))
/-- a flat value of the model -/
inductive Fl (s : Shared) : Value → String → Prop
  | non : Fl s .none "NoneType"
  | bl (b : Bool) : Fl s (.bool b) "bool"
  | int (i : Int) (t : Tok) : Fl s (.int i t) "int"
  | str (x : Str) (t : Tok) : Fl s (.str x t) "str"
theorem Fl.ty {x : Value} {T : String} (f : Fl s x T) : s.TypeIs x T := by
  cases f with
  | non => rfl
  | bl b => rfl
  | int i t => exact typeIs_int s i t
  | str x t => exact typeIs_str s x t
theorem eq_rcR {a : Addr} {x : Value} {T : String} {k : Bool} (f : Fl s x T) (g : SeqAt.RcAt A s x (.ref a) k) : SeqAt.EqAt A s x (.ref a) k := fun prog w E Q z => by
  unfold eqBool
  refine wpAny_holding (wpAny_ite_split (fun q => ?_) fun _ => ?_)
  · have e := eq_of_beq q
    cases f <;> cases e
  · cases f <;> exact wpAny_bind (g prog w E _ (wpAny_truthy_bool z))
/-- an object that is a dict -/
def IsD (s : Shared) (a : Addr) : Prop := ∃ o, s.heap.get? a = some o ∧ o.cls = .type "dict" ∧ ∃ es n, o.data = .dict es n
theorem IsD.ty {a : Addr} (d : IsD s a) : s.TypeIs (.ref a) "dict" := let ⟨o, h, c, _⟩ := d; ⟨o, h, c⟩
theorem d_no {prog : Program} {w : World} {E : Value → Shared → Prop} {a : Addr} {name : Str} {y : Value} {T : String} (sl : Slot "dict" name "dict.__eq__") (d : IsD s a) (ty : s.TypeIs y T) (sub : isSubtype (.type T) (.type "dict") = pure false) (Q : Value → Shared → Prop) (z : Q .notImplemented s) :
    wpAny (model prog w) A (call (.builtin "dict.__eq__") [.ref a, y]) Q E s := by
  refine wpAny_call_entry sl d.ty PySem.F.entry_dict_eq ?_ (PySem.F.args_dict_eq_2 _ _)
  show wpAny _ _ (Builtin.Dict.dictSlotArgs "__eq__" ⟨[.ref a, y], []⟩ >>= _) _ _ s
  unfold Builtin.Dict.dictSlotArgs
  refine wpAny_bind (wpAny_bind (wpAny_notOrdered_dict d.ty ?_))
  show wpAny _ _ (pure (Value.ref a, y)) _ _ s
  refine wpAny_pure (wpAny_bind (wpAny_isInstance (T := T) ty sub ?_))
  rw [if_pos (by decide)]
  exact wpAny_bind (wpAny_rule (wpAny_bind (wpAny_pure (wpAny_pure ⟨_, rfl, z⟩))))
theorem ib_no (b : Bool) (a : Addr) (c : Value) (dd : Option Addr) (es : Array DictEntry) (n : Nat) (sl : Array (Option Value)) : Meets (Builtin.«int.__eq__» ⟨[.bool b, .ref a], []⟩) (fun _ R s => s.heap.get? a = some ⟨c, dd, .dict es n, sl⟩ ∧ R (.ok (.ret .notImplemented)) s) :=
  .of_wp fun prog w A R s h => by
    obtain ⟨hp, g, d, tk, os⟩ := s
    obtain ⟨ho, h⟩ := h
    wp_walk using AutoSeq1.wpAny_loadPart' ho, wpAny_load ho
    exact ⟨_, rfl, h⟩
theorem ii_no (b : Int) (u : Tok) (a : Addr) (c : Value) (dd : Option Addr) (es : Array DictEntry) (n : Nat) (sl : Array (Option Value)) : Meets (Builtin.«int.__eq__» ⟨[.int b u, .ref a], []⟩) (fun _ R s => s.heap.get? a = some ⟨c, dd, .dict es n, sl⟩ ∧ R (.ok (.ret .notImplemented)) s) :=
  .of_wp fun prog w A R s h => by
    obtain ⟨hp, g, d, tk, os⟩ := s
    obtain ⟨ho, h⟩ := h
    wp_walk using AutoSeq1.wpAny_loadPart' ho, wpAny_load ho
    exact ⟨_, rfl, h⟩
theorem is_no (b : Str) (u : Tok) (a : Addr) (c : Value) (dd : Option Addr) (es : Array DictEntry) (n : Nat) (sl : Array (Option Value)) : Meets (Builtin.«str.__eq__» ⟨[.str b u, .ref a], []⟩) (fun _ R s => s.heap.get? a = some ⟨c, dd, .dict es n, sl⟩ ∧ R (.ok (.ret .notImplemented)) s) :=
  .of_wp fun prog w A R s h => by
    obtain ⟨hp, g, d, tk, os⟩ := s
    obtain ⟨ho, h⟩ := h
    wp_walk using AutoSeq1.wpAny_loadPart' ho, wpAny_load ho
    exact ⟨_, rfl, h⟩
theorem it_no (l a : Addr) (xs : Array Value) (m : Nat) (d1 : Option Addr) (s1 : Array (Option Value)) (dd : Option Addr) (es : Array DictEntry) (n : Nat) (sl : Array (Option Value)) :
    Meets (Builtin.«tuple.__eq__» ⟨[.ref l, .ref a], []⟩) (fun _ R s => s.heap.get? l = some ⟨.type "tuple", d1, .seq xs m, s1⟩ ∧ s.heap.get? a = some ⟨.type "dict", dd, .dict es n, sl⟩ ∧ R (.ok (.ret .notImplemented)) s) :=
  .of_wp fun prog w A R s h => by
    obtain ⟨hp, g, d, tk, os⟩ := s
    obtain ⟨hl, ho, h⟩ := h
    have sb := PySem.F.sub_dict_tuple
    wp_walk using AutoSeq1.wpAny_loadPart' hl, AutoSeq1.wpAny_loadPart' ho
    exact ⟨_, rfl, h⟩
theorem fl_sub {x : Value} {T : String} (f : Fl s x T) : isSubtype (.type T) (.type "dict") = pure false ∧ isSubtype (.type "dict") (.type T) = pure false ∧ (Value.type T != Value.type "dict") = true ∧ (Value.type "dict" != Value.type T) = true := by
  cases f with
  | non => exact ⟨PySem.F.sub_NoneType_dict, PySem.F.sub_dict_NoneType, by decide, by decide⟩
  | bl b => exact ⟨PySem.F.sub_bool_dict, PySem.F.sub_dict_bool, by decide, by decide⟩
  | int i t => exact ⟨PySem.F.sub_int_dict, PySem.F.sub_dict_int, by decide, by decide⟩
  | str x t => exact ⟨PySem.F.sub_str_dict, PySem.F.sub_dict_str, by decide, by decide⟩
/-- what a flat value's own == says to a dict -/
theorem fl_slot {x : Value} {T : String} (f : Fl s x T) {a : Addr} (d : IsD s a) : ∃ id, Slot T (cmpInfo .Eq).2.1 id ∧ Slot T (cmpInfo .Eq).2.2 id ∧
    ∀ (prog : Program) (w : World) (A : Around) (E Q : Value → Shared → Prop), Q .notImplemented s → wpAny (model prog w) A (call (.builtin id) [x, .ref a]) Q E s := by
  obtain ⟨⟨c, dd, da, sl⟩, ho, hc, es, n, hd⟩ := d
  simp only at hc hd
  subst hc hd
  cases f with
  | non => exact ⟨_, PySem.F.slot_NoneType_eq, PySem.F.slot_NoneType_eq_refl, fun prog w A E Q z => call_gives PySem.F.slot_NoneType_eq rfl PySem.F.entry_NoneType_eq (PySem.F.args_NoneType_eq_2 _ _) (SeqAt.NoneType___eq___none_ref_0 a) z⟩
  | bl b => exact ⟨_, PySem.F.slot_bool_eq, PySem.F.slot_bool_eq_refl, fun prog w A E Q z => call_meets PySem.F.slot_bool_eq rfl PySem.F.entry_int_eq (PySem.F.args_int_eq_2 _ _) (ib_no b a _ dd es n sl) ⟨ho, z⟩⟩
  | int i t => exact ⟨_, PySem.F.slot_int_eq, PySem.F.slot_int_eq_refl, fun prog w A E Q z => call_meets PySem.F.slot_int_eq (typeIs_int s i t) PySem.F.entry_int_eq (PySem.F.args_int_eq_2 _ _) (ii_no i t a _ dd es n sl) ⟨ho, z⟩⟩
  | str x t => exact ⟨_, PySem.F.slot_str_eq, PySem.F.slot_str_eq_refl, fun prog w A E Q z => call_meets PySem.F.slot_str_eq (typeIs_str s x t) PySem.F.entry_str_eq (PySem.F.args_str_eq_2 _ _) (is_no x t a _ dd es n sl) ⟨ho, z⟩⟩
theorem rc_fd {x : Value} {T : String} (f : Fl s x T) {a : Addr} (d : IsD s a) (hu : A.units < cLine) : SeqAt.RcAt A s x (.ref a) false := fun prog w E Q z => by
  obtain ⟨id, s1, s2, g⟩ := fl_slot f d
  obtain ⟨u1, u2, n1, n2⟩ := fl_sub f
  refine SeqAt.rc_eq_decline_or (k := false) f.ty d.ty n1 u2 s1 PySem.F.slot_dict_eq_refl (fun Q' z' => g prog w A E Q' z') (fun Q' z' => d_no PySem.F.slot_dict_eq_refl d f.ty u1 Q' z') (fun Q' z' => ?_) (.inr hu) z
  cases f <;> exact wpAny_of_eq (show _ = pure false from rfl) z'
theorem rc_df {x : Value} {T : String} (f : Fl s x T) {a : Addr} (d : IsD s a) (hu : A.units < cLine) : SeqAt.RcAt A s (.ref a) x false := fun prog w E Q z => by
  obtain ⟨id, s1, s2, g⟩ := fl_slot f d
  obtain ⟨u1, u2, n1, n2⟩ := fl_sub f
  refine SeqAt.rc_eq_decline_or (k := false) d.ty f.ty n2 u1 PySem.F.slot_dict_eq s2 (fun Q' z' => d_no PySem.F.slot_dict_eq d f.ty u1 Q' z') (fun Q' z' => g prog w A E Q' z') (fun Q' z' => ?_) (.inr hu) z
  cases f <;> exact wpAny_of_eq (show _ = pure false from rfl) z'
theorem eq_fd {x : Value} {T : String} (f : Fl s x T) {a : Addr} (d : IsD s a) (hu : A.units < cLine) : SeqAt.EqAt A s x (.ref a) false := eq_rcR f (rc_fd f d hu)
theorem eq_df {x : Value} {T : String} (f : Fl s x T) {a : Addr} (d : IsD s a) (hu : A.units < cLine) : SeqAt.EqAt A s (.ref a) x false := eq_rcL (fun e => by cases f <;> cases e) (rc_df f d hu)
theorem ne_dt {l a : Addr} {xs : Array Value} (ht : s.heap.IsTuple l xs) (d : IsD s a) : l ≠ a := fun e => by
  subst e
  obtain ⟨o, ho, hc, _⟩ := ht
  obtain ⟨o2, ho2, hc2, _⟩ := d
  rw [ho] at ho2
  cases ho2
  rw [hc] at hc2
  exact absurd hc2 (by simp)
theorem eq_td {l a : Addr} {xs : Array Value} (ht : s.heap.IsTuple l xs) (d : IsD s a) (hu : A.units < cLine) : SeqAt.EqAt A s (.ref l) (.ref a) false := by
  have ne := ne_dt ht d
  have d2 := d
  obtain ⟨⟨c, dd, da, sl⟩, ho, hc, es, n, hd⟩ := d
  obtain ⟨⟨c2, dd2, da2, sl2⟩, ho2, hc2, n2, hd2⟩ := ht
  simp only at hc hd hc2 hd2
  subst hc hd hc2 hd2
  have t1 : s.TypeIs (.ref l) "tuple" := ⟨_, ho2, rfl⟩
  have t2 : s.TypeIs (.ref a) "dict" := ⟨_, ho, rfl⟩
  refine .of_refs ne fun prog w E Q z => ?_
  exact SeqAt.rc_eq_decline_or (k := false) t1 t2 (by decide) PySem.F.sub_dict_tuple PySem.F.slot_tuple_eq PySem.F.slot_dict_eq_refl
    (fun Q' z' => call_meets PySem.F.slot_tuple_eq t1 PySem.F.entry_tuple_eq (PySem.F.args_tuple_eq_2 _ _) (it_no l a xs n2 dd2 sl2 dd es n sl) ⟨ho2, ho, z'⟩)
    (fun Q' z' => d_no PySem.F.slot_dict_eq_refl d2 t1 PySem.F.sub_tuple_dict Q' z')
    (fun Q' z' => SeqAt.wpAny_isSame_ref_other' ne ho2 ho (by simp) z') (.inr hu) z
theorem eq_dt {l a : Addr} {xs : Array Value} (ht : s.heap.IsTuple l xs) (d : IsD s a) (hu : A.units < cLine) : SeqAt.EqAt A s (.ref a) (.ref l) false := by
  have ne := ne_dt ht d
  have d2 := d
  obtain ⟨⟨c, dd, da, sl⟩, ho, hc, es, n, hd⟩ := d
  obtain ⟨⟨c2, dd2, da2, sl2⟩, ho2, hc2, n2, hd2⟩ := ht
  simp only at hc hd hc2 hd2
  subst hc hd hc2 hd2
  have t1 : s.TypeIs (.ref l) "tuple" := ⟨_, ho2, rfl⟩
  have t2 : s.TypeIs (.ref a) "dict" := ⟨_, ho, rfl⟩
  refine .of_refs ne.symm fun prog w E Q z => ?_
  exact SeqAt.rc_eq_decline_or (k := false) t2 t1 (by decide) PySem.F.sub_tuple_dict PySem.F.slot_dict_eq PySem.F.slot_tuple_eq_refl
    (fun Q' z' => d_no PySem.F.slot_dict_eq d2 t1 PySem.F.sub_tuple_dict Q' z')
    (fun Q' z' => call_meets PySem.F.slot_tuple_eq_refl t1 PySem.F.entry_tuple_eq (PySem.F.args_tuple_eq_2 _ _) (it_no l a xs n2 dd2 sl2 dd es n sl) ⟨ho2, ho, z'⟩)
    (fun Q' z' => wpAny_isSame_ref_other ne.symm ho ho2 (by simp) z') (.inr hu) z
end
end Mf
/-! == of trees -/
namespace Mf
open PySem PySem.Spec PyProof.Rows L2
section
variable {X : Cx} {pins : List (Addr × Obj)} {σ : L2.St} {H : Hp} {s : Shared} {q : Addr → Prop}
theorem fl_at {v : V} {u : Value} (h : okA v = true) (r : RelV v u) : ∃ T, Fl s u T := by
  cases v with
  | non =>
    cases r
    exact ⟨_, .non⟩
  | bl b =>
    cases r
    exact ⟨_, .bl b⟩
  | int i =>
    obtain ⟨t, rfl⟩ := r
    exact ⟨_, .int i t⟩
  | str x =>
    obtain ⟨t, rfl⟩ := r
    exact ⟨_, .str x t⟩
  | byt b => exact absurd h Bool.false_ne_true
  | flt b => exact absurd h Bool.false_ne_true
  | ref a => exact absurd h Bool.false_ne_true
  | ty n => exact absurd h Bool.false_ne_true
theorem okA_flat : ∀ {v : V}, okA v = true → flatV v = true
  | .non, _ => rfl
  | .bl _, _ => rfl
  | .int _, _ => rfl
  | .str _, _ => rfl
  | .byt _, h => absurd h Bool.false_ne_true
  | .flt _, h => absurd h Bool.false_ne_true
  | .ref _, h => absurd h Bool.false_ne_true
  | .ty _, h => absurd h Bool.false_ne_true
theorem dct_isD (I : L2.Inv X pins σ H s) {a : Addr} {kvs : List (Key × V)} (h : H a = some (.dK kvs)) : IsD s a := by
  obtain ⟨_, _, vs, _, o, es, ep, h3, h4, h5, _⟩ := (show ObjOk X.prog X.w H s.heap a (.dK kvs) from I.hok a _ h)
  exact ⟨o, h3, h4.1, es, ep, h5⟩
theorem kv_one {l : Addr} {vs : List (Key × Value)} (kv : KV [(keyA, V.ref l)] vs) : vs = [(keyA, Value.ref l)] := by
  unfold KV at kv
  cases kv with
  | cons k1 kr =>
    cases kr
    rename_i p
    obtain ⟨p1, p2⟩ := p
    obtain ⟨k2, k3⟩ := k1
    have e1 : keyA = p1 := k2
    have e2 : p2 = Value.ref l := k3
    rw [e2, ← e1]
theorem dct_one (I : L2.Inv X pins σ H s) {a l : Addr} (h : H a = some (.dK [(keyA, .ref l)])) : (a == sysModules) = false ∧ s.heap.DictOf (mixKind X.prog X.w) a [(keyA, Value.ref l)] := by
  obtain ⟨_, hs, vs, kv, hd⟩ := (show ObjOk X.prog X.w H s.heap a (.dK [(keyA, .ref l)]) from I.hok a _ h)
  rw [kv_one kv] at hd
  exact ⟨hs, hd⟩
theorem one_lst (I : L2.Inv X pins σ H s) {l : Addr} (h : H l = some (.lst [.int 1])) : ∃ t, s.heap.IsList l [Value.int 1 t].toArray := by
  obtain ⟨_, its, n, rv, e⟩ := (show ObjOk X.prog X.w H s.heap l (.lst [.int 1]) from I.hok l _ h)
  cases rv with
  | cons r3 rv =>
    cases rv
    obtain ⟨t3, rfl⟩ := r3
    exact ⟨t3, _, e, rfl, _, rfl⟩
def oneL : PyData := .list [.int 1]
theorem oneL_c : oneL.canLay0 = true := by decide +kernel
theorem oneL_d : oneL.depth ≤ 3 := by decide +kernel
theorem one_one (I : L2.Inv X pins σ H s) {A : Around} (hu : A.units + 4 < cLine) {l m : Addr} (h2 : H l = some (.lst [.int 1])) (h4 : H m = some (.lst [.int 1])) : SeqAt.EqAt A s (.ref l) (.ref m) (PyData.eqv oneL oneL) := by
  obtain ⟨t1, o1, p1, p2, n1, p3⟩ := one_lst I h2
  obtain ⟨t2, o2, q1, q2, n2, q3⟩ := one_lst I h4
  have r1 : Reads s.heap (.ref l) oneL (l :: ([] ++ [])) := .list p1 p2 p3 (.cons (.int 1 t1) .nil)
  have r2 : Reads s.heap (.ref m) oneL (m :: ([] ++ [])) := .list q1 q2 q3 (.cons (.int 1 t2) .nil)
  have d := oneL_d
  have m := Nat.min_le_left oneL.depth oneL.depth
  exact SeqAt.eqAt_reads oneL oneL A s _ _ _ _ r1 r2 oneL_c oneL_c (by omega)
end
/-! == whose answer is known to be True where T holds -/
def EqW (P : Program) (w : World) (A : Around) (s : Shared) (x y : Value) (T : Prop) : Prop := ∀ (E : Value → Shared → Prop) (Q : Bool → Shared → Prop), (∀ b, (T → b = true) → Q b s) → wpAny (model P w) A (eqBool x y) Q E s
section
variable {P : Program} {w : World} {A : Around} {s : Shared}
theorem EqW.of {x y : Value} {k : Bool} {T : Prop} (g : SeqAt.EqAt A s x y k) (t : T → k = true) : EqW P w A s x y T := fun E Q z => g P w E Q (z k t)
theorem EqW.refs {l b : Addr} {T : Prop} (n : l ≠ b) (g : ∀ (E Q : Value → Shared → Prop), (∀ k, (T → k = true) → Q (.bool k) s) → wpAny (model P w) A (richCompare .Eq (.ref l) (.ref b)) Q E s) : EqW P w A s (.ref l) (.ref b) T := fun E Q z => by
  unfold eqBool
  refine wpAny_holding (wpAny_ite_split (fun q => absurd (Value.ref.inj (eq_of_beq q)) n) fun _ => ?_)
  exact wpAny_bind (g E _ fun k t => wpAny_truthy_bool (z k t))
theorem tq_in (l b : Addr) (xs ys : Array Value) (n1 n2 : Nat) (d1 d2 : Option Addr) (s1 s2 : Array (Option Value)) (T : Prop) :
    MeetsIn P w (Builtin.«tuple.__eq__» ⟨[.ref l, .ref b], []⟩)
      (fun A R s => s.heap.get? l = some ⟨.type "tuple", d1, .seq xs n1, s1⟩ ∧ s.heap.get? b = some ⟨.type "tuple", d2, .seq ys n2, s2⟩ ∧
        (∀ j (h1 : j < xs.size) (h2 : j < ys.size), EqW P w A.in1 s xs[j] ys[j] T) ∧
        ∀ k, (T → xs.size = ys.size → k = true) → (xs.size ≠ ys.size → k = false) → R (.ok (.ret (.bool k))) s) :=
  .of_wp fun A R s h => by
    obtain ⟨hp, g, d, tk, os⟩ := s
    obtain ⟨p1, p2, he, hR⟩ := h
    have sub := AutoSeq1.sub_tuple_tuple
    have hz : (xs.toList.zip ys.toList).length = min xs.size ys.size := by simp
    wp_walk using AutoSeq1.wpAny_loadPart' p1, AutoSeq1.wpAny_loadPart' p2, wpAny_forIn_list _ (fun rest c t => c.1 = none ∧ t = ⟨hp, g, d, tk, os⟩ ∧ ∃ i, rest = (xs.toList.zip ys.toList).drop i) _
    case turn =>
      rintro ⟨x, y⟩ rest c t ⟨hc, rfl, i, hr⟩
      have lt : i < (xs.toList.zip ys.toList).length := by
        rcases Nat.lt_or_ge i (xs.toList.zip ys.toList).length with h' | h'
        · exact h'
        · rw [List.drop_of_length_le h'] at hr
          cases hr
      have lm : i < min xs.size ys.size := hz ▸ lt
      have l1 : i < xs.size := Nat.lt_of_lt_of_le lm (Nat.min_le_left _ _)
      have l2 : i < ys.size := Nat.lt_of_lt_of_le lm (Nat.min_le_right _ _)
      rw [List.drop_eq_getElem_cons lt] at hr
      injection hr with e1 e2
      have ex : x = xs[i] := by have := congrArg Prod.fst e1; simpa using this
      have ey : y = ys[i] := by have := congrArg Prod.snd e1; simpa using this
      subst ex ey
      refine wpAny_bind (he i l1 l2 _ _ fun k hk => ?_)
      cases k with
      | true =>
        wp_walk
        exact ⟨rfl, rfl, i + 1, e2⟩
      | false =>
        wp_walk
        exact ⟨_, rfl, hR false (fun t _ => hk t) (fun _ => rfl)⟩
    case fin =>
      rintro ⟨c1, c2⟩ t ⟨hc, rfl, i, hr⟩
      simp only at hc
      subst hc
      wp_walk
      refine ⟨_, rfl, ?_⟩
      have z := hR (xs.size == ys.size) (fun _ e => by simpa using e) (fun e => by simpa using e)
      simpa [Builtin.Tuple.tupleCompareSizes] using z
    case h =>
      exact ⟨rfl, rfl, 0, rfl⟩
theorem rc_tt {l b : Addr} {xs ys : Array Value} {T : Prop} (hl : s.heap.IsTuple l xs) (hb : s.heap.IsTuple b ys) (hu : A.units < cLine) (he : ∀ j (h1 : j < xs.size) (h2 : j < ys.size), EqW P w A.in1 s xs[j] ys[j] T)
    (E Q : Value → Shared → Prop) (z : ∀ k, (T → xs.size = ys.size → k = true) → (xs.size ≠ ys.size → k = false) → Q (.bool k) s) : wpAny (model P w) A (richCompare .Eq (.ref l) (.ref b)) Q E s := by
  obtain ⟨⟨c1, d1, v1, s1⟩, o1, k1, n1, r1⟩ := id hl
  obtain ⟨⟨c2, d2, v2, s2⟩, o2, k2, n2, r2⟩ := id hb
  simp only at k1 r1 k2 r2
  subst k1 r1 k2 r2
  have t1 : s.TypeIs (.ref l) "tuple" := ⟨_, o1, rfl⟩
  have t2 : s.TypeIs (.ref b) "tuple" := ⟨_, o2, rfl⟩
  exact wpAny_richCompare_same_room (op := .Eq) t1 t2 PySem.F.slot_tuple_eq (call_meetsIn PySem.F.slot_tuple_eq t1 PySem.F.entry_tuple_eq (PySem.F.args_tuple_eq_2 _ _) (tq_in l b xs ys n1 n2 d1 d2 s1 s2 T)
    ⟨o1, o2, he, fun k h1 h2 => ⟨(fun x => nomatch x), z k h1 h2⟩⟩) hu
end
section
variable {X : Cx} {pins : List (Addr × Obj)} {σ : L2.St} {H : Hp} {s : Shared} {q : Addr → Prop}
/-- two dicts of the menu -/
theorem eq_dd (I : L2.Inv X pins σ H s) {A : Around} (hu : A.units + 5 < cLine) {a l b m : Addr} (h1 : H a = some (.dK [(keyA, .ref l)])) (h2 : H l = some (.lst [.int 1])) (h3 : H b = some (.dK [(keyA, .ref m)])) (h4 : H m = some (.lst [.int 1])) :
    EqW X.prog X.w A s (.ref a) (.ref b) (a = b) := by
  by_cases e : a = b
  · subst e
    exact .of (SeqAt.EqAt.same _) fun _ => rfl
  · obtain ⟨s1, d1⟩ := dct_one I h1
    obtain ⟨s2, d2⟩ := dct_one I h3
    have sub := (one_one I (A := A.in1) (by show A.units + 1 + 4 < cLine; omega) h2 h4).eqP (prog := X.prog) (w := X.w)
    have hits : PySem.W.KeqHitsP X.prog X.w A.in1 s [(keyA, Value.ref m)] [(keyA, Value.ref l)] (PyData.eqv oneL oneL && true) := .hit (y := Value.ref m) (by simp [valueAt]) sub .nil
    exact .refs e fun E Q z => PySem.W.rcP_dicts (r := PyData.eqv oneL oneL && true) s1 s2 d1 d2 (by omega) (fun _ => hits) E Q (z _ fun k => absurd k e)
end
end Mf
/-! == of fixed trees -/
namespace Mf
open PySem PySem.Spec PyProof.Rows L2
theorem EqW.mono {P : Program} {w : World} {A : Around} {s : Shared} {x y : Value} {T T' : Prop} (g : EqW P w A s x y T) (i : T' → T) : EqW P w A s x y T' := fun E Q z => g E Q fun b h => z b fun t => h (i t)
theorem fxs_get {ts : List Tr} {j : Nat} {t : Tr} (h : (Tr.fxs ts)[j]? = some t) : ∃ u, ts[j]? = some u ∧ u.fx = t := by
  rw [fxs_map, List.getElem?_map] at h
  cases e : ts[j]? with
  | none => rw [e] at h; cases h
  | some u =>
    rw [e] at h
    exact ⟨u, rfl, Option.some.inj h⟩
theorem Ok.lst {n : Nat} {ts : List Tr} (h : Ok n (.lst ts)) : ∃ m, n = m + 1 ∧ ts.length ≤ 4 ∧ ∀ t ∈ ts, Ok m t := by
  cases n with
  | zero => exact h.elim
  | succ m => exact ⟨m, rfl, h⟩
theorem Ok.tup {n : Nat} {ts : List Tr} (h : Ok n (.tup ts)) : ∃ m, n = m + 1 ∧ ts.length ≤ 4 ∧ ∀ t ∈ ts, Ok m t := by
  cases n with
  | zero => exact h.elim
  | succ m => exact ⟨m, rfl, h⟩
/-- what a fixed tree is -/
theorem fx_cases {n : Nat} {t : Tr} (h : Ok n t) : (∃ v, t.fx = .at v) ∨ (∃ a, t.fx = .dct a) ∨ ∃ m ts, n = m + 1 ∧ t.fx = .tup (Tr.fxs ts) ∧ ∀ t ∈ ts, Ok m t := by
  cases t with
  | «at» v => exact .inl ⟨v, rfl⟩
  | dct a => exact .inr (.inl ⟨a, rfl⟩)
  | lst ts =>
    obtain ⟨m, e, _, o⟩ := h.lst
    exact .inr (.inr ⟨m, ts, e, rfl, o⟩)
  | tup ts =>
    obtain ⟨m, e, _, o⟩ := h.tup
    exact .inr (.inr ⟨m, ts, e, rfl, o⟩)
section
variable {X : Cx} {pins : List (Addr × Obj)} {σ : L2.St} {H : Hp} {s : Shared} {q : Addr → Prop}
theorem items_eq {n : Nat} {A : Around} (ih : ∀ (t t' : Tr) (v v' : V) (u u' : Value), Ok n t → Ok n t' → Vt q H v t.fx → Vt q H v' t'.fx → RelV v u → RelV v' u' → EqW X.prog X.w A s u u' (t.fx = t'.fx))
    {xs ys : List V} {ts us : List Tr} {its its2 : List Value} (hx : VtAll q H xs (Tr.fxs ts)) (hy : VtAll q H ys (Tr.fxs us)) (ot : ∀ t ∈ ts, Ok n t) (ou : ∀ t ∈ us, Ok n t) (rx : Vals xs its) (ry : Vals ys its2)
    (j : Nat) (h1 : j < its.toArray.size) (h2 : j < its2.toArray.size) : EqW X.prog X.w A s its.toArray[j] its2.toArray[j] (Tr.fxs ts = Tr.fxs us) := by
  have l1 : j < xs.length := by rw [rx.length]; simpa using h1
  have l2 : j < ys.length := by rw [ry.length]; simpa using h2
  obtain ⟨u, hu, ru⟩ := rx.get (List.getElem?_eq_getElem l1)
  obtain ⟨v, hv, rv⟩ := ry.get (List.getElem?_eq_getElem l2)
  have g1 : its[j]? = some its.toArray[j] := by
    have k : j < its.length := by simpa using h1
    rw [List.getElem?_eq_getElem k] <;> simp
  have g2 : its2[j]? = some its2.toArray[j] := by
    have k : j < its2.length := by simpa using h2
    rw [List.getElem?_eq_getElem k] <;> simp
  rw [g1] at hu
  rw [g2] at hv
  rw [Option.some.inj hu, Option.some.inj hv]
  obtain ⟨t1, e1, w1⟩ := hx.get (List.getElem?_eq_getElem l1)
  obtain ⟨t2, e2, w2⟩ := hy.get (List.getElem?_eq_getElem l2)
  obtain ⟨b1, m1, f1⟩ := fxs_get e1
  obtain ⟨b2, m2, f2⟩ := fxs_get e2
  rw [← f1] at w1
  rw [← f2] at w2
  refine (ih b1 b2 _ _ u v (ot _ (List.mem_of_getElem? m1)) (ou _ (List.mem_of_getElem? m2)) w1 w2 ru rv).mono fun z => ?_
  rw [f1, f2]
  rw [z, e2] at e1
  exact (Option.some.inj e1).symm
theorem eqV_self : ∀ {v : V}, okA v = true → eqV v v = true
  | .non, _ => rfl
  | .bl b, _ => by simp [eqV]
  | .int i, _ => by simp [eqV]
  | .str x, _ => by simp [eqV]
  | .byt _, h => absurd h Bool.false_ne_true
  | .flt _, h => absurd h Bool.false_ne_true
  | .ref _, h => absurd h Bool.false_ne_true
  | .ty _, h => absurd h Bool.false_ne_true
def EqAll (X : Cx) (q : Addr → Prop) (H : Hp) (s : Shared) (A : Around) (n : Nat) : Prop := ∀ (t t' : Tr) (v v' : V) (u u' : Value), Ok n t → Ok n t' → Vt q H v t.fx → Vt q H v' t'.fx → RelV v u → RelV v' u' → EqW X.prog X.w A s u u' (t.fx = t'.fx)
theorem eq_ft {x : Value} {T : String} {A : Around} (f : Fl s x T) {l : Addr} {xs : Array Value} (h : s.heap.IsTuple l xs) (hu : A.units < cLine) : SeqAt.EqAt A s x (.ref l) false ∧ SeqAt.EqAt A s (.ref l) x false := by
  cases f with
  | non => exact ⟨SeqAt.EqAt.none_tuple h hu, SeqAt.EqAt.tuple_none h hu⟩
  | bl b => exact ⟨SeqAt.EqAt.bool_tuple b h hu, SeqAt.EqAt.tuple_bool b h hu⟩
  | int i t => exact ⟨SeqAt.EqAt.int_tuple i t h hu, SeqAt.EqAt.tuple_int i t h hu⟩
  | str x t => exact ⟨SeqAt.EqAt.str_tuple x t h hu, SeqAt.EqAt.tuple_str x t h hu⟩
theorem eqW_step (I : L2.Inv X pins σ H s) {n : Nat} {A : Around} (hu : A.units + n + 6 < cLine) (ih : ∀ m, n = m + 1 → EqAll X q H s A.in1 m) : EqAll X q H s A n := by
  intro t t' v v' u u' o o' hv hv' r r'
  have hc : A.units < cLine := by omega
  rcases fx_cases o with ⟨x, e⟩ | ⟨a, e⟩ | ⟨m, ts, em, e, ot⟩
  · rw [e] at hv ⊢
    cases hv with
    | «at» hx =>
      obtain ⟨T, f⟩ := fl_at (s := s) hx r
      rcases fx_cases o' with ⟨y, e'⟩ | ⟨b, e'⟩ | ⟨m', us, em', e', ou⟩
      · rw [e'] at hv' ⊢
        cases hv' with
        | «at» hy =>
          refine .of (eqAt_V (A := A) (s := s) r r' (okA_flat hx) (okA_flat hy)) fun z => ?_
          injection z with z
          rw [← z]
          exact eqV_self hx
      · rw [e'] at hv' ⊢
        cases hv' with
        | dct _ _ _ h1 h2 =>
          cases r'
          exact .of (eq_fd f (dct_isD I h1) hc) fun z => nomatch z
      · rw [e'] at hv' ⊢
        cases hv' with
        | tup _ h1 ha =>
          cases r'
          obtain ⟨its, rv, e1, z1⟩ := I.tuple (tupU (K := X.K) h1)
          exact .of (eq_ft f e1 hc).1 fun z => nomatch z
  · rw [e] at hv ⊢
    cases hv with
    | dct _ _ _ h1 h2 =>
      cases r
      have dd := dct_isD I h1
      rcases fx_cases o' with ⟨y, e'⟩ | ⟨b, e'⟩ | ⟨m', us, em', e', ou⟩
      · rw [e'] at hv' ⊢
        cases hv' with
        | «at» hy =>
          obtain ⟨T, f⟩ := fl_at (s := s) hy r'
          exact .of (eq_df f dd hc) fun z => nomatch z
      · rw [e'] at hv' ⊢
        cases hv' with
        | dct _ _ _ h3 h4 =>
          cases r'
          exact (eq_dd I (by omega) h1 h2 h3 h4).mono fun z => Tr.dct.inj z
      · rw [e'] at hv' ⊢
        cases hv' with
        | tup _ h3 ha =>
          cases r'
          obtain ⟨its, rv, e1, z1⟩ := I.tuple (tupU (K := X.K) h3)
          exact .of (eq_dt e1 dd hc) fun z => nomatch z
  · rw [e] at hv ⊢
    cases hv with
    | @tup a xs _ _ h1 ha =>
      cases r
      obtain ⟨its, rv, e1, z1⟩ := I.tuple (tupU (K := X.K) h1)
      rcases fx_cases o' with ⟨y, e'⟩ | ⟨b, e'⟩ | ⟨m', us, em', e', ou⟩
      · rw [e'] at hv' ⊢
        cases hv' with
        | «at» hy =>
          obtain ⟨T, f⟩ := fl_at (s := s) hy r'
          exact .of (eq_ft f e1 hc).2 fun z => nomatch z
      · rw [e'] at hv' ⊢
        cases hv' with
        | dct _ _ _ h3 h4 =>
          cases r'
          exact .of (eq_td e1 (dct_isD I h3) hc) fun z => nomatch z
      · rw [e'] at hv' ⊢
        cases hv' with
        | @tup b ys _ _ h2 hb =>
          cases r'
          obtain ⟨its2, rv2, e2, z2⟩ := I.tuple (tupU (K := X.K) h2)
          have em2 : m' = m := by omega
          subst em2
          by_cases q1 : a = b
          · subst q1
            exact .of (SeqAt.EqAt.same _) fun _ => rfl
          · refine .refs q1 fun E Q z => rc_tt (T := Tr.fxs ts = Tr.fxs us) e1 e2 hc (fun j h1 h2 => items_eq (ih m' em) ha hb ot ou rv rv2 j h1 h2) E Q fun k k1 k2 => z k fun zz => k1 (Tr.tup.inj zz) ?_
            have l1 := ha.len
            have l2 := hb.len
            have l3 := rv.length
            have l4 := rv2.length
            rw [List.size_toArray, List.size_toArray, ← l3, ← l4, l1, l2, Tr.tup.inj zz]
theorem eqW_tr (I : L2.Inv X pins σ H s) : ∀ (n : Nat) (A : Around), A.units + n + 6 < cLine → EqAll X q H s A n
  | 0, A, hu => eqW_step I hu fun m e => nomatch e
  | n + 1, A, hu => eqW_step I hu fun m e => by
    cases e
    exact eqW_tr I n A.in1 (by show A.units + 1 + n + 6 < cLine; omega)
end
section
variable {X : Cx}
/-- two tuples of fixed trees: the same, or not of one length; or one of them is empty -/
def rEqP : R2 := fun x y H Q => ∃ (a b : Addr) (xs ys : List V), x = .ref a ∧ y = .ref b ∧ H a = some (.tup xs) ∧ H b = some (.tup ys) ∧
  ((ys = [] ∧ Q (.bl xs.isEmpty) H) ∨ ∃ (q : Addr → Prop) (ts us : List Tr) (n : Nat), VtAll q H xs (Tr.fxs ts) ∧ VtAll q H ys (Tr.fxs us) ∧ (∀ t ∈ ts, Ok n t) ∧ (∀ t ∈ us, Ok n t) ∧ n ≤ 6 ∧
    ((Tr.fxs ts = Tr.fxs us ∧ Q (.bl true) H) ∨ (xs.length ≠ ys.length ∧ Q (.bl false) H)))
theorem op_eqP (hu : X.A.units + 64 < cLine) : OpR X (compareOp .Eq) rEqP := by
  intro pins s σ H x y v u Q I rx ry h
  obtain ⟨a, b, xs, ys, rfl, rfl, h1, h2, h⟩ := h
  cases (show v = Value.ref a from rx)
  cases (show u = Value.ref b from ry)
  obtain ⟨its, rv, e1, z1⟩ := I.tuple (tupU (K := X.K) h1)
  obtain ⟨its2, rv2, e2, z2⟩ := I.tuple (tupU (K := X.K) h2)
  have l1 := rv.length
  have l2 := rv2.length
  show wpAny (model X.prog X.w) X.A (richCompare .Eq (.ref a) (.ref b)) (EP X pins σ Q) X.xe s
  rcases h with ⟨rfl, h⟩ | ⟨q, ts, us, n, hx, hy, ot, ou, hn, h⟩
  · cases rv2
    refine rc_tt (T := True) e1 e2 (by omega) (fun j j1 j2 => absurd j2 (Nat.not_lt_zero j)) _ _ fun k k1 k2 => ⟨.bl k, H, I, rfl, ?_⟩
    cases xs with
    | nil =>
      cases rv
      rw [k1 trivial rfl]
      exact h
    | cons x xs =>
      rw [k2 (by rw [List.size_toArray, ← l1]; exact fun z => nomatch z)]
      exact h
  · refine rc_tt (T := Tr.fxs ts = Tr.fxs us) e1 e2 (by omega) (fun j j1 j2 => items_eq (eqW_tr I n X.A.in1 (by show X.A.units + 1 + n + 6 < cLine; omega)) hx hy ot ou rv rv2 j j1 j2) _ _ fun k k1 k2 => ⟨.bl k, H, I, rfl, ?_⟩
    rcases h with ⟨e, h⟩ | ⟨e, h⟩
    · rw [k1 e (by rw [List.size_toArray, List.size_toArray, ← l1, ← l2, hx.len, hy.len, e])]
      exact h
    · rw [k2 (by rw [List.size_toArray, List.size_toArray, ← l1, ← l2]; exact e)]
      exact h
end
end Mf
/-! instances with an own ==, an own truth -/
namespace Mf
open PySem PySem.Spec PyProof.Rows L2
section
variable {X : Cx} {k : Nat} {f C : Addr} {sp : Sp}
/-- an own def, called somewhere below -/
theorem run_below {A : Around} {pins : List (Addr × Obj)} {σ : L2.St} {H : Hp} {s : Shared} {us : List Value} {vs : List V} {Q : VK} (F : FnR X.prog X.w X.K X.mg X.base CX0 k f sp) (sb : Sub X k A) (I : L2.Inv X pins σ H s) (r : Vals vs us) (h : sp vs H Q E0) :
    wpAny (model X.prog X.w) A (call (.ref f) us) (EP X pins σ Q) X.xe s := by
  have e := I.env0
  have e0 : Env0 X.prog X.w X.K X.mg X.base A X.stack s H := ⟨by rw [sb.fr]; exact e.frames, e.mod, e.bs, e.bsz, e.funs, e.frf, e.hok, e.bare⟩
  refine wpAny_call (codeAny_mono (F A X.stack s H us vs Q E0 sb.room e0 r h) fun z s' q => ?_)
  cases z with
  | error e => exact pass0 pins σ H s e s' I q
  | ok fl => cases fl with
    | ret u => exact I.after q
    | next => exact q.elim
    | brk => exact q.elim
    | cont => exact q.elim
/-- an instance of a paper's class -/
def Pap (H : Hp) (C a : Addr) (w : Str) (p : Addr) : Prop := ∃ dx, H a = some (.ins C dx [("word", .str w), ("parts", .ref p)])
theorem pap_at {pins : List (Addr × Obj)} {σ : L2.St} {H : Hp} {s : Shared} {a p : Addr} {w : Str} (I : L2.Inv X pins σ H s) (h : Pap H C a w p) : ∃ ox od, PySem.W.InstAt s.heap a ox C (some od) := by
  obtain ⟨dx, h⟩ := h
  obtain ⟨mA, J, _⟩ := ins_get I.hok h
  obtain ⟨od, J, _⟩ := J.look
  exact ⟨_, _, J⟩
/-- type(x) -/
def rTyI : List V → Hp → VK → Prop := fun xs H Q => (∃ (a C p : Addr) (w : Str), xs = [.ref a] ∧ Pap H C a w p ∧ Q (.ref C) H) ∨ (∃ (x : V) (n : String), xs = [x] ∧ zTyV x H = some n ∧ Q (.ty n) H)
theorem call_tyI : CallR X (.type "type") rTyI := by
  intro pins s σ H xs us Q I r h
  rcases h with ⟨a, C, p, w, rfl, ha, q⟩ | ⟨x, n, rfl, hz, q⟩
  · rw [Vals.ref1 r]
    obtain ⟨ox, od, J⟩ := pap_at I ha
    exact PySem.W.kto_own J ⟨.ref C, H, I, rfl, q⟩
  · obtain ⟨u, rfl, rx⟩ := vals1 r
    exact rl_type pins s σ H x u Q I rx ⟨n, hz, q⟩
/-- is: classes, built-in types -/
def rIsI (K : PySem.W.Frag) : R2 := fun x y H Q => (∃ a b, x = V.ref a ∧ y = V.ref b ∧ (a = b ∨ (PySem.W.makesIn K a = true ∧ PySem.W.makesIn K b = true)) ∧ Q (.bl (decide (a = b))) H) ∨ (∃ a n, x = V.ref a ∧ y = V.ty n ∧ Q (.bl false) H)
theorem op_isI : OpR X (compareOp .Is) (rIsI X.K) := by
  intro pins s σ H x y v u Q I rx ry h
  rcases h with h | ⟨a, n, rfl, rfl, q⟩
  · exact op_is_cls pins s σ H x y v u Q I rx ry h
  · cases (show v = Value.ref a from rx)
    cases (show u = Value.type n from ry)
    exact wpAny_is_other rfl (fun z => nomatch z) ⟨.bl false, H, I, rfl, q⟩
/-! == -/
/-- what the own == of the class at C promises -/
def OthT (K : PySem.W.Frag) (H : Hp) (C : Addr) (y : V) : Prop := (∃ (b D p : Addr) (w : Str), y = .ref b ∧ Pap H D b w p ∧ C ≠ D ∧ PySem.W.makesIn K C = true ∧ PySem.W.makesIn K D = true) ∨ ∃ n, zTyV y H = some n
def spEqI (K : PySem.W.Frag) (C : Addr) : Sp := fun vs H Q _ => ∃ (a p : Addr) (w : Str) (y : V), vs = [.ref a, y] ∧ Pap H C a w p ∧
  ((OthT K H C y ∧ Q (.bl false) H) ∨ ∃ (b p' : Addr) (w' : Str), y = .ref b ∧ Pap H C b w' p' ∧ if w = w' then rEqP (.ref p) (.ref p') H Q else Q (.bl false) H)
structure EqC (X : Cx) (k : Nat) (C f : Addr) : Prop where
  at_ : PySem.W.findIn X.K (.ref C) "__eq__" = some (some (.ref f))
  fn : PySem.W.isFn X.K (.ref f) = true
  run : FnR X.prog X.w X.K X.mg X.base CX0 k f (spEqI X.K C)
  nt : ∀ n, n = "tuple" ∨ n = "str" → PySem.W.notFirst X.K C (.type n) = true
def isB (Q : VK) : VK := fun v H => ∃ b, v = .bl b ∧ Q (.bl b) H
theorem EqC.go {A : Around} {pins : List (Addr × Obj)} {σ : L2.St} {H : Hp} {s : Shared} {a p : Addr} {w : Str} {y : V} {u tb : Value} {Q : VK} (e : EqC X k C f) (sb : Sub X k A) (I : L2.Inv X pins σ H s) (ha : Pap H C a w p) (ry : RelV y u)
    (hb : PySem.W.Looks (model X.prog X.w) s.heap (typeOf u) tb) (hn : PySem.W.notFirst X.K C tb = true) (h : spEqI X.K C [.ref a, y] H (isB Q) E0) : wpAny (model X.prog X.w) A (richCompare .Eq (.ref a) u) (EP X pins σ Q) X.xe s := by
  obtain ⟨ox, od, J⟩ := pap_at I ha
  obtain ⟨m, hF⟩ := I.fr
  refine PySem.W.cmp_K (op := .Eq) sb.room.units0 hF I.ok.mod.kin J hb hn e.at_ e.fn (wpAny_mono (run_below e.run sb I (us := [.ref a, u]) (vs := [.ref a, y]) (.cons rfl (.cons ry .nil)) h) (fun v s' q => ?_) fun _ _ z => z)
  obtain ⟨x, H', I', rx, b, rfl, q⟩ := q
  cases (show v = Value.bool b from rx)
  exact ⟨.bl b, H', I', rfl, q⟩
theorem looks_zTy {M : Model} {pins : List (Addr × Obj)} {σ : L2.St} {H : Hp} {s : Shared} {y : V} {u : Value} {n : String} (I : L2.Inv X pins σ H s) (r : RelV y u) (h : (∃ xs b, y = .ref b ∧ H b = some (.tup xs) ∧ n = "tuple") ∨ (∃ x, y = .str x ∧ n = "str")) : PySem.W.Looks M s.heap (typeOf u) (.type n) := by
  rcases h with ⟨xs, b, rfl, hb, rfl⟩ | ⟨x, rfl, rfl⟩
  · cases (show u = Value.ref b from r)
    obtain ⟨_, its, rv, o, ho, hc, _⟩ := (show ObjOk X.prog X.w H s.heap b (.tup xs) from I.hok b _ hb)
    have z : PySem.W.Looks M s.heap (typeOf (.ref b)) o.cls := (PySem.W.Looks.ld ho).andThen .now
    rw [hc] at z
    exact z
  · obtain ⟨t, rfl⟩ := (show ∃ t, u = Value.str x t from r)
    exact PySem.W.Looks.of_pure rfl
end
/-- == with an instance of P or D on the left, where D is P's heir -/
structure EqPD (X : Cx) (k : Nat) (P D fP fD : Addr) : Prop where
  p : EqC X k P fP
  d : EqC X k D fD
  ne : P ≠ D
  mP : PySem.W.makesIn X.K P = true
  mD : PySem.W.makesIn X.K D = true
  sub : PySem.W.subIn X.K (.ref D) (.ref P) = some true
  nD : PySem.W.notFirst X.K D (.ref P) = true
section
variable {X : Cx} {k : Nat} {P D fP fD : Addr}
theorem back_first {A : Around} {pins : List (Addr × Obj)} {σ : L2.St} {H : Hp} {s : Shared} {a b p p' : Addr} {w w' : Str} {Q : VK} (e : EqPD X k P D fP fD) (sb : Sub X k A) (I : L2.Inv X pins σ H s) (ha : Pap H P a w p) (hb : Pap H D b w' p')
    (h : spEqI X.K D [.ref b, .ref a] H (isB Q) E0) : wpAny (model X.prog X.w) A (richCompare .Eq (.ref a) (.ref b)) (EP X pins σ Q) X.xe s := by
  obtain ⟨ox, od, J⟩ := pap_at I ha
  obtain ⟨oy, od', J'⟩ := pap_at I hb
  have KX := I.kIn
  have one : wpAny (model X.prog X.w) A (tryCompare (.ref b) "__eq__" (.ref a)) (fun r s' => ∃ v, r = some v ∧ EP X pins σ Q v s') X.xe s := by
    unfold tryCompare
    refine wpAny_bind (PySem.W.ifBound_K KX J' e.d.at_ e.d.fn (wpAny_mono (run_below e.d.run sb I (us := [.ref b, .ref a]) (vs := [.ref b, .ref a]) (.cons rfl (.cons rfl .nil)) h) (fun v s' q => ?_) fun _ _ z => z))
    obtain ⟨x, H', I', rx, c, rfl, q⟩ := q
    cases (show v = Value.bool c from rx)
    exact wpAny_pure ⟨_, rfl, .bl c, H', I', rfl, q⟩
  have ne : (Value.ref P != Value.ref D) = true := by
    have := e.ne
    simp [this]
  unfold richCompare
  simp only [oneThing_ref]
  refine wpAny_holding (wpAny_bind (wpAny_cRoomFor sb.room.units0 ?_))
  refine wpAny_bind (J.type.here (wpAny_bind (J'.type.here ?_)))
  rw [if_pos ne]
  refine wpAny_bind ((PySem.W.looks_subIn KX e.sub).here ?_)
  rw [if_pos rfl]
  refine wpAny_bind (wpAny_mono one (fun r s' z => ?_) fun _ _ z => z)
  obtain ⟨v, rfl, hq⟩ := z
  exact wpAny_bind (wpAny_rule (wpAny_pure hq))
end
end Mf
/-! own ==, !=, bool, isinstance as rules -/
namespace Mf
open PySem PySem.Spec PyProof.Rows L2
section
variable {M : Model} {A : Around} {E : Value → Shared → Prop} {s : Shared} {K : PySem.W.Frag} {x C : Addr} {ox : Obj} {od : Option Obj} {y : Value}
theorem bound_ne {Q : Option Value → Shared → Prop} (X : K.In s.heap) (I : PySem.W.InstAt s.heap x ox C od) (hs : PySem.W.findIn K (.ref C) "__ne__" = some (some (.builtin "object.__ne__")))
    (h : wpAny M A (call (.builtin "object.__ne__") [.ref x, y]) (fun v => Q (some v)) E s) : wpAny M A (callSpecialIfBound? (.ref x) "__ne__" [y]) Q E s := by
  unfold callSpecialIfBound? bindSpecialIfBound?
  refine wpAny_holding (wpAny_bind (wpAny_bind (wpAny_bind (I.type.here ((PySem.W.looks_findIn X hs).here ?_)))))
  have z : wpAny M A (call (.builtin "object.__ne__") ([.ref x] ++ [y]) >>= fun v => pure (some v)) Q E s := wpAny_bind (wpAny_mono h (fun v t q => wpAny_pure q) fun _ _ q => q)
  simp only [PySem.F.cmp_object.ne.bind]
  refine wpAny_bind (wpAny_askSetting (wpAny_ite ?_))
  split
  · exact wpAny_bind (wpAny_pure (wpAny_pure z))
  · exact wpAny_tryCatch (wpAny_bind (wpAny_pure (wpAny_pure z)))
theorem check_ne {Q : Unit → Shared → Prop} (X : K.In s.heap) (I : PySem.W.InstAt s.heap x ox C od) (hm : PySem.W.subIn K (.ref C) (.type "object") = some true) (q : Q () s) : wpAny M A (checkBuiltinCall "object.__ne__" ⟨[.ref x, y], []⟩) Q E s := by
  have ha := PySem.F.cmpArgs_ne (.ref x) y
  simp only [checkBuiltinCall, PySem.F.cmpKind_ne, PySem.F.cmpSplit_ne]
  refine wpAny_bind ?_
  unfold isInstance
  repeat (first | (with_reducible refine wpAny_bind ?_) | (refine I.type.here ?_) | (refine (PySem.W.looks_subIn X hm).here ?_))
  rw [if_neg (by decide)]
  unfold argsOk at ha
  cases sg : Manifest.signature? "object.__ne__" with
  | none => exact wpAny_pure q
  | some sig =>
    rw [sg] at ha
    have ha' : Bind.checkArgs "object.__ne__" sig ⟨[.ref x, y], []⟩ = pure () := ha
    show wpAny M A (Bind.checkArgs "object.__ne__" sig ⟨[.ref x, y], []⟩) Q E s
    rw [ha']
    exact wpAny_pure q
end
section
variable {X : Cx} {k : Nat} {C f : Addr}
/-- a class with an own == and no != of its own -/
structure NeC (X : Cx) (C : Addr) : Prop where
  ne : PySem.W.findIn X.K (.ref C) "__ne__" = some (some (.builtin "object.__ne__"))
  ob : PySem.W.subIn X.K (.ref C) (.type "object") = some true
theorem obj_ne {A : Around} {pins : List (Addr × Obj)} {σ : L2.St} {H : Hp} {s : Shared} {a b p : Addr} {w : Str} {Q : VK} {R : Fin → Shared → Prop} (e : EqC X k C f) (sb : Sub X k A) (I : L2.Inv X pins σ H s) (ha : Pap H C a w p)
    (h : spEqI X.K C [.ref a, .ref b] H (isB Q) E0) (hR : ∀ c H' s', L2.Inv X pins σ H' s' → Q (.bl c) H' → R (.done (.ret (.bool (!c)))) s') :
    wpAny (model X.prog X.w) A (Builtin.«object.__ne__» ⟨[.ref a, .ref b], []⟩) R X.xe s := by
  obtain ⟨ox, od, J⟩ := pap_at I ha
  have run := run_below e.run sb I (us := [.ref a, .ref b]) (vs := [.ref a, .ref b]) (.cons rfl (.cons rfl .nil)) h
  unfold Builtin.«object.__ne__»
  repeat (first
    | with_reducible refine wpAny_cRoomFor sb.room.units0 ?_
    | (refine wpAny_bind (m := callSpecialIfBound? (.ref a) (Str.ofString "__eq__") [.ref b]) (PySem.W.ifBound_K I.kIn J e.at_ e.fn (wpAny_mono run (fun v s' q => ?_) fun _ _ z => z)); obtain ⟨y, H', I', ry, c, rfl, q⟩ := q; cases (show v = Value.bool c from ry); (refine wpAny_bind (m := truthy (.bool c)) (wpAny_truthy_bool ?_)))
    | wp_step)
  exact hR c H' s' I' q
theorem room1 {A : Around} (sb : Sub X (k + 1) A) : Sub X k A.in1 := sb.in1
theorem run_ne {A : Around} {pins : List (Addr × Obj)} {σ : L2.St} {H : Hp} {s : Shared} {a b p p' : Addr} {w w' : Str} {Q : VK} (e : EqC X k C f) (n : NeC X C) (sb : Sub X (k + 1) A) (I : L2.Inv X pins σ H s) (ha : Pap H C a w p) (hb : Pap H C b w' p')
    (h : spEqI X.K C [.ref a, .ref b] H (isB fun v H' => ∃ c, v = .bl c ∧ Q (.bl (!c)) H') E0) : wpAny (model X.prog X.w) A (richCompare .NotEq (.ref a) (.ref b)) (EP X pins σ Q) X.xe s := by
  obtain ⟨ox, od, J⟩ := pap_at I ha
  obtain ⟨oy, od', J'⟩ := pap_at I hb
  have KX := I.kIn
  have one : wpAny (model X.prog X.w) A (tryCompare (.ref a) "__ne__" (.ref b)) (fun r s' => ∃ v, r = some v ∧ EP X pins σ Q v s') X.xe s := by
    unfold tryCompare
    refine wpAny_bind (bound_ne KX J n.ne (wpAny_call (codeAny_call_builtin PySem.F.cmp_object.ne.plain PySem.F.cmpEntry_ne (check_ne KX J n.ob ?_))))
    refine obj_ne e sb.in1 I ha h fun c H' s' I' q => ?_
    obtain ⟨c2, e2, q⟩ := q
    cases e2
    exact wpAny_pure ⟨_, rfl, .bl (!c), H', I', rfl, q⟩
  unfold richCompare
  simp only [oneThing_ref]
  refine wpAny_holding (wpAny_bind (wpAny_cRoomFor sb.room.units0 ?_))
  refine wpAny_bind (J.type.here (wpAny_bind (J'.type.here ?_)))
  rw [if_neg (by simp)]
  refine wpAny_bind (wpAny_pure ?_)
  rw [if_neg (by simp)]
  refine wpAny_bind (wpAny_mono one (fun r s' z => ?_) fun _ _ z => z)
  obtain ⟨v, rfl, hq⟩ := z
  exact wpAny_pure hq
end
/-! as rules -/
section
variable {X : Cx} {k : Nat} {P D fP fD : Addr}
theorem rEqP.mono {x y : V} {H : Hp} {Q Q' : VK} (h : rEqP x y H Q) (m : ∀ b, Q (.bl b) H → Q' (.bl b) H) : rEqP x y H Q' := by
  obtain ⟨a, b, xs, ys, e1, e2, h1, h2, h⟩ := h
  refine ⟨a, b, xs, ys, e1, e2, h1, h2, ?_⟩
  rcases h with ⟨e, h⟩ | ⟨q, ts, us, n, g1, g2, g3, g4, g5, h⟩
  · exact .inl ⟨e, m _ h⟩
  · refine .inr ⟨q, ts, us, n, g1, g2, g3, g4, g5, ?_⟩
    rcases h with ⟨e, h⟩ | ⟨e, h⟩
    · exact .inl ⟨e, m _ h⟩
    · exact .inr ⟨e, m _ h⟩
/-- both of one class -/
def SameC (H : Hp) (C : Addr) (x y : V) (Q : VK) : Prop := ∃ (a b p p' : Addr) (w w' : Str), x = .ref a ∧ y = .ref b ∧ Pap H C a w p ∧ Pap H C b w' p' ∧ if w = w' then rEqP (.ref p) (.ref p') H Q else Q (.bl false) H
def rEqO (P D : Addr) : R2 := fun x y H Q => SameC H P x y Q ∨ SameC H D x y Q ∨ ((∃ (a b p p' : Addr) (w w' : Str), ((x = .ref a ∧ y = .ref b) ∨ (x = .ref b ∧ y = .ref a)) ∧ Pap H P a w p ∧ Pap H D b w' p') ∧ Q (.bl false) H) ∨
  ((∃ (a p : Addr) (w : Str) (n : String), x = .ref a ∧ Pap H P a w p ∧ ((∃ xs b, y = .ref b ∧ H b = some (.tup xs) ∧ n = "tuple") ∨ (∃ x, y = .str x ∧ n = "str"))) ∧ Q (.bl false) H)
theorem zTy_of {H : Hp} {y : V} {n : String} (h : (∃ xs b, y = V.ref b ∧ H b = some (.tup xs) ∧ n = "tuple") ∨ (∃ x, y = .str x ∧ n = "str")) : zTyV y H = some n := by
  rcases h with ⟨xs, b, rfl, hb, rfl⟩ | ⟨x, rfl, rfl⟩
  · simp only [zTyV, hb]
  · rfl
theorem SameC.sp {K : PySem.W.Frag} {H : Hp} {C a b p p' : Addr} {w w' : Str} {Q : VK} (ha : Pap H C a w p) (hb : Pap H C b w' p') (h : if w = w' then rEqP (.ref p) (.ref p') H Q else Q (.bl false) H) : spEqI K C [.ref a, .ref b] H (isB Q) E0 := by
  refine ⟨a, p, w, .ref b, rfl, ha, .inr ⟨b, p', w', rfl, hb, ?_⟩⟩
  by_cases e : w = w'
  · rw [if_pos e] at h ⊢
    exact h.mono fun b q => ⟨b, rfl, q⟩
  · rw [if_neg e] at h ⊢
    exact ⟨false, rfl, h⟩
theorem op_eqO (e : EqPD X k P D fP fD) (hr : Room k X.A) : OpR X (compareOp .Eq) (rEqO P D) := by
  intro pins s σ H x y v u Q I rx ry h
  have sb : Sub X k X.A := ⟨hr, rfl⟩
  show wpAny (model X.prog X.w) X.A (richCompare .Eq v u) (EP X pins σ Q) X.xe s
  rcases h with ⟨a, b, p, p', w, w', rfl, rfl, ha, hb, h⟩ | ⟨a, b, p, p', w, w', rfl, rfl, ha, hb, h⟩ | ⟨⟨a, b, p, p', w, w', xy, ha, hb⟩, h⟩ | ⟨⟨a, p, w, n, rfl, ha, hy⟩, h⟩
  · cases (show v = Value.ref a from rx)
    cases (show u = Value.ref b from ry)
    obtain ⟨oy, od', J'⟩ := pap_at I hb
    exact e.p.go sb I ha ry J'.type (by simp [PySem.W.notFirst]) (SameC.sp ha hb h)
  · cases (show v = Value.ref a from rx)
    cases (show u = Value.ref b from ry)
    obtain ⟨oy, od', J'⟩ := pap_at I hb
    exact e.d.go sb I ha ry J'.type (by simp [PySem.W.notFirst]) (SameC.sp ha hb h)
  · have sp : spEqI X.K D [.ref b, .ref a] H (isB Q) E0 := ⟨b, p', w', .ref a, rfl, hb, .inl ⟨.inl ⟨a, P, p, w, rfl, ha, e.ne.symm, e.mD, e.mP⟩, false, rfl, h⟩⟩
    rcases xy with ⟨rfl, rfl⟩ | ⟨rfl, rfl⟩
    · cases (show v = Value.ref a from rx)
      cases (show u = Value.ref b from ry)
      exact back_first e sb I ha hb sp
    · cases (show v = Value.ref b from rx)
      cases (show u = Value.ref a from ry)
      obtain ⟨oy, od', J'⟩ := pap_at I ha
      exact e.d.go sb I hb ry J'.type e.nD sp
  · cases (show v = Value.ref a from rx)
    refine e.p.go sb I ha ry (looks_zTy I ry hy) (e.p.nt n ?_) ⟨a, p, w, y, rfl, ha, .inl ⟨.inr ⟨n, zTy_of hy⟩, false, rfl, h⟩⟩
    rcases hy with ⟨_, _, _, _, z⟩ | ⟨_, _, z⟩
    · exact .inl z
    · exact .inr z
def rNeO (P D : Addr) : R2 := fun x y H Q => SameC H P x y (fun v H' => ∃ c, v = .bl c ∧ Q (.bl (!c)) H') ∨ SameC H D x y (fun v H' => ∃ c, v = .bl c ∧ Q (.bl (!c)) H')
theorem op_neO (e : EqPD X k P D fP fD) (nP : NeC X P) (nD : NeC X D) (hr : Room (k + 1) X.A) : OpR X (compareOp .NotEq) (rNeO P D) := by
  intro pins s σ H x y v u Q I rx ry h
  have sb : Sub X (k + 1) X.A := ⟨hr, rfl⟩
  show wpAny (model X.prog X.w) X.A (richCompare .NotEq v u) (EP X pins σ Q) X.xe s
  rcases h with ⟨a, b, p, p', w, w', rfl, rfl, ha, hb, h⟩ | ⟨a, b, p, p', w, w', rfl, rfl, ha, hb, h⟩
  · cases (show v = Value.ref a from rx)
    cases (show u = Value.ref b from ry)
    exact run_ne e.p nP sb I ha hb (SameC.sp ha hb h)
  · cases (show v = Value.ref a from rx)
    cases (show u = Value.ref b from ry)
    exact run_ne e.d nD sb I ha hb (SameC.sp ha hb h)
end
end Mf
/-! defs that may be called anywhere; bool, isinstance of a paper -/
namespace Mf
open PySem PySem.Spec PyProof.Rows L2
/-- a def that can be called by its name, whatever is being shown -/
structure ClO (c : Cn) (k : Nat) (x : Str) (st : Stmt) (ps : List Str) (sp : Sp) : Prop where
  ex : ∃ (f : Addr) (fd : FuncData), FnOk c.P c.w c.K c.mg c.base CX0 k f fd ps sp ∧ c.mg x = some (.ref f) ∧ Fun c.K x x st f fd
theorem ClO.cl {c : Cn} {k : Nat} {x : Str} {st : Stmt} {ps : List Str} {sp : Sp} (d : ClO c k x st ps sp) : Cl c k x st ps sp :=
  let ⟨f, fd, F, h⟩ := d.ex
  ⟨f, fd, FnG.of F, h⟩
theorem ClO.mono {c : Cn} {j k : Nat} {x : Str} {st : Stmt} {ps : List Str} {sp : Sp} (d : ClO c j x st ps sp) (h : j ≤ k) : ClO c k x st ps sp :=
  let ⟨f, fd, F, r⟩ := d.ex
  ⟨f, fd, ⟨F.len, fun A outer s H args us vs Q E hr => F.run A outer s H args us vs Q E (hr.mono h)⟩, r⟩
theorem Cl.mono {c : Cn} {j k : Nat} {x : Str} {st : Stmt} {ps : List Str} {sp : Sp} (d : Cl c j x st ps sp) (h : j ≤ k) : Cl c k x st ps sp :=
  let ⟨f, fd, F, r⟩ := d.ex
  ⟨f, fd, ⟨F.size, fun A hA outer s H args us vs Q E hr => F.go A hA outer s H args us vs Q E (hr.mono h)⟩, r⟩
theorem De.clO {c : Cn} {x : Str} {st : Stmt} {N ps : List Str} {k : Nat} {sp : Sp} (D : De c x st) (S : FnScope N ps (defScope st))
    (len : ∀ vs H Q E, sp vs H Q E → vs.length = ps.length)
    (hbody : ∀ (f : Addr) (cdv : Value) (A : Around) (outer : List Env) (s : Shared) (H : Hp) (vs : List V) (Q : VK) (E : XK),
      Room k (A.deeper (envOfC x (defScope st) s.heap.objs.size f cdv)) → sp vs H Q E →
      ∃ t, PSs (cxOf CX0 c.P c.w c.K c.mg c.base N x (defScope st) f cdv A outer s H E).nox (defBody st) t ∧
        t { nx := fun _ H' => Q .non H', rt := Q } (start N vs) H) : ClO c (k + 1) x st ps sp := by
  obtain ⟨f, fd, hm, F⟩ := D.ex
  exact ⟨f, fd, F.ok S len (hbody f), hm, F⟩
theorem De.noneO {c : Cn} {x : Str} {st : Stmt} {N ps : List Str} (k : Nat) (D : De c x st) (S : FnScope N ps (defScope st)) : ClO c (k + 1) x st ps (fun _ _ _ _ => False) :=
  De.clO (N := N) D S (fun _ _ _ _ h => h.elim) (fun _ _ _ _ _ _ _ _ _ _ h => h.elim)
theorem De.noneG {c : Cn} {x : Str} {st : Stmt} {N ps : List Str} (k : Nat) (D : De c x st) (S : FnScope N ps (defScope st)) : Cl c (k + 1) x st ps (fun _ _ _ _ => False) := (De.noneO k D S).cl
section
variable {X : Cx} {k j : Nat} {ps : List Str} {sp : Sp} {x : Str} {p pos : Pos} {e : Expr} {es : List Expr} {t : TA} {st : Stmt} {kws : List Keyword} {ks : List Str} {tk : TA}
theorem pe_fO (c : ClO (cnOf X) k x st ps sp) (hr : Room j X.A) (hk : k ≤ j) (hp : Pl x st ps) (hg : Gl X x) (ha : PA X (e :: es) t)
    (hdb : (x == ("__debug__" : Str)) = false := by decide) (he : starEach (e :: es) X.env = (false, eval e X.env) :: starEach es X.env := by rfl)
    (hpl : (backTo pos (starEach es X.env)).any (·.1) = false := by rfl) : PE X (.Call (.Name x p) (e :: es) [] pos) (tCl sp t) := by
  obtain ⟨f, fd, F, hm, W⟩ := c.ex
  refine ⟨fun pins s σ H Q I h => wpAny_Call_Name_kw (ld_glob I hg hm ?_ hdb)⟩
  refine PySem.W.callWith_K (h₀ := X.base) I.ok.mod.kin W.kp (thn (ha.run pos pins s σ H _ I h) ?_) he hpl
  intro us s1 ⟨vs, H1, I1, r, q⟩
  have hl : (us ++ []).length = ps.length := by
    rw [List.append_nil, ← r.length]
    exact F.len _ _ _ _ q
  have hb' := W.binds hp s1 us I1.kIn hl
  rw [List.append_nil] at hb'
  refine ⟨I1.kIn, wpAny_call (codeAny_mono (F.run X.A X.stack s1 H1 ⟨us, []⟩ us vs Q E0 (hr.mono hk) I1.env0 hb' r q) ?_)⟩
  intro z s' hq
  cases z with
  | error e => exact pass0 pins σ H1 s1 e s' I1 hq
  | ok fl => cases fl with
    | ret u => exact I1.after hq
    | next => exact hq.elim
    | brk => exact hq.elim
    | cont => exact hq.elim
end
/-! ### bool(x), isinstance(x, C) of a paper -/
section
variable {X : Cx} {k : Nat} {C f : Addr}
def spTruI (C : Addr) (b : Bool) : Sp := fun vs H Q _ => ∃ (a p : Addr) (w : Str), vs = [.ref a] ∧ Pap H C a w p ∧ Q (.bl b) H
structure TruC (X : Cx) (k : Nat) (C f : Addr) (b : Bool) : Prop where
  at_ : PySem.W.findIn X.K (.ref C) "__bool__" = some (some (.ref f))
  fn : PySem.W.isFn X.K (.ref f) = true
  run : FnR X.prog X.w X.K X.mg X.base CX0 k f (spTruI C b)
theorem boolnew_in {P : Program} {w : World} {a : Addr} : MeetsIn P w (Builtin.«bool.__new__» ⟨[.type "bool", .ref a], []⟩) (fun A R s => wpAny (model P w) A.in1 (truthy (.ref a)) (fun b s' => R (.ok (.ret (.bool b))) s') (fun e s' => R (.error e) s') s) :=
  MeetsIn.of_wp fun A R s hs => by
    obtain ⟨hp, g, d, tk, os⟩ := s
    have f1 := PySem.F.conv_sub_bool
    repeat (any_goals (first | assumption | (refine wpAny_bind (m := truthy (.ref a)) (wpAny_mono hs (fun b s' q => ?_) fun _ _ z => z)) | wp_step))
    exact ⟨_, rfl, q⟩
theorem TruC.go {b : Bool} {A : Around} {pins : List (Addr × Obj)} {σ : L2.St} {H : Hp} {s : Shared} {a p : Addr} {w : Str} {Q : VK} (e : TruC X k C f b) (sb : Sub X (k + 2) A) (I : L2.Inv X pins σ H s) (ha : Pap H C a w p) (q : Q (.bl b) H) :
    wpAny (model X.prog X.w) A (call (.type "bool") [.ref a]) (EP X pins σ Q) X.xe s := by
  obtain ⟨ox, od, J⟩ := pap_at I ha
  obtain ⟨m, hF⟩ := I.fr
  refine callType_newIn PySem.F.called_bool PySem.F.newNe_bool (PySem.F.typeCall_bool_1 _) (PySem.F.newCall_bool_1 _) (fun obj => PySem.F.args_object_init_2 obj _) PySem.F.entry_bool_new boolnew_in ?_
  refine PySem.W.truthy_K hF I.ok.mod.kin J e.at_ e.fn (wpAny_mono (run_below e.run sb.in1.in1 I (us := [.ref a]) (vs := [.ref a]) (Q := fun v H' => v = .bl b ∧ Q (.bl b) H') (.cons rfl .nil) ⟨a, p, w, rfl, ha, rfl, q⟩) (fun v s' z => ?_) fun _ _ z => z)
  obtain ⟨y, H', I', ry, rfl, z⟩ := z
  cases (show v = Value.bool b from ry)
  exact ⟨rfl, .bl b, H', I', rfl, z⟩
/-- bool(x) of an instance of P (True) or of D (False) -/
def rBoolI (P D : Addr) : List V → Hp → VK → Prop := fun xs H Q => ∃ (a p : Addr) (w : Str), xs = [.ref a] ∧ ((Pap H P a w p ∧ Q (.bl true) H) ∨ (Pap H D a w p ∧ Q (.bl false) H))
theorem call_boolI {P D fP fD : Addr} (tP : TruC X k P fP true) (tD : TruC X k D fD false) (hr : Room (k + 2) X.A) : CallR X (.type "bool") (rBoolI P D) := by
  intro pins s σ H xs us Q I r h
  obtain ⟨a, p, w, rfl, h⟩ := h
  rw [Vals.ref1 r]
  rcases h with ⟨h, q⟩ | ⟨h, q⟩
  · exact tP.go ⟨hr, rfl⟩ I h q
  · exact tD.go ⟨hr, rfl⟩ I h q
/-- what a class says of its instances' type -/
structure TyC (K : PySem.W.Frag) (C : Addr) : Prop where
  cl : Cls K C
  ca : PySem.W.findIn K (.ref C) "__class__" = some (some (.builtin "object.__class__"))
  mo : PySem.W.mroIn K C (.type "object") = some true
theorem pap_ty {K : PySem.W.Frag} {H : Hp} {C a p : Addr} {w : Str} (t : TyC K C) (hn : PySem.W.specialIn K (.builtin "object.__class__") "__get__" = some (some (.builtin "getset_descriptor.__get__")))
    (htk : PySem.W.takesIn K (.builtin "object.__class__") = some true) (h : Pap H C a w p) : TyX K H (.ref a) (.ref C) :=
  let ⟨_, h⟩ := h
  .base (.ins h t.cl t.ca hn htk t.mo)
/-- isinstance(x, (list, tuple)) of a tree -/
def isSq : Tr → Bool
  | .lst _ => true
  | .tup _ => true
  | _ => false
theorem kit_sq {K : PySem.W.Frag} : ∀ n, n = "NoneType" ∨ n = "bool" ∨ n = "int" ∨ n = "str" ∨ n = "dict" → PySem.W.kitAny K (.type n) [.type "list", .type "tuple"] = some false := by
  intro n h
  have no : ∀ m, kitB n m = some false → PySem.W.kitOne K (.type n) (.type m) = some false := fun m e => kit_ty e
  refine kitAny_cons (b := false) (no "list" ?_) (fun _ => kitAny_cons (b := false) (no "tuple" ?_) (fun _ => rfl) (fun z => nomatch z)) (fun z => nomatch z)
  · rcases h with rfl | rfl | rfl | rfl | rfl <;> decide +kernel
  · rcases h with rfl | rfl | rfl | rfl | rfl <;> decide +kernel
theorem isT {q : Addr → Prop} {x : V} {t : Tr} {H : Hp} {Q : VK} {K : PySem.W.Frag} (v : Vt q H x t) (h : Q (.bl (isSq t)) H) : SeqQ K x H Q := by
  cases v with
  | «at» hv =>
    cases x with
    | non => exact ⟨_, _, .base .non, kit_sq _ (.inl rfl), h⟩
    | bl b => exact ⟨_, _, .base (.bl b), kit_sq _ (.inr (.inl rfl)), h⟩
    | int i => exact ⟨_, _, .base (.int i), kit_sq _ (.inr (.inr (.inl rfl))), h⟩
    | str z => exact ⟨_, _, .base (.str z), kit_sq _ (.inr (.inr (.inr (.inl rfl)))), h⟩
    | byt b => exact absurd hv Bool.false_ne_true
    | flt b => exact absurd hv Bool.false_ne_true
    | ref a => exact absurd hv Bool.false_ne_true
    | ty n => exact absurd hv Bool.false_ne_true
  | dct _ _ _ h1 _ => exact ⟨_, _, .base (.dK h1), kit_sq _ (.inr (.inr (.inr (.inr rfl)))), h⟩
  | lst _ h1 _ => exact ⟨_, true, .base (.lst h1), kitAny_cons (b := true) (kit_ty (by decide +kernel)) (fun z => nomatch z) (fun _ => rfl), h⟩
  | tup _ h1 _ => exact ⟨_, true, .base (.tup h1), kitAny_cons (b := false) (kit_ty (by decide +kernel)) (fun _ => kitAny_cons (b := true) (kit_ty (by decide +kernel)) (fun z => nomatch z) (fun _ => rfl)) (fun z => nomatch z), h⟩
end
end Mf
/-! tuples for lists: the defs that call themselves -/
namespace Mf
open PySem PySem.Spec PyProof.Rows L2
/-- what the def does for trees of at most n levels -/
def spF (n : Nat) : Sp := fun vs H Q _ => ∃ (v : V) (N : Addr → Prop) (t : Tr), vs = [v] ∧ (∀ a, N a → H a ≠ none) ∧ Vt N H v t ∧ Ok n t ∧ ∀ v' H', Same H H' → Vt N H' v' t.fx → Q v' H'
def spRF : Nat → Sp
  | 0 => fun _ _ _ _ => False
  | n + 1 => spF n
theorem fxs_take {ts : List Tr} {i : Nat} {t : Tr} (e : ts[i]? = some t) : Tr.fxs (ts.take (i + 1)) = Tr.fxs (ts.take i) ++ [t.fx] := by
  rw [fxs_map, fxs_map, List.take_add_one, e, List.map_append]
  rfl
/-- a place left out besides -/
def Nd (N : Addr → Prop) (D : Addr) : Addr → Prop := fun a => N a ∨ a = D
theorem Vt.nd {N : Addr → Prop} {D : Addr} {H : Hp} {t : Tr} {v : V} (h : Vt N H v t) (e : H D = none) : Vt (Nd N D) H v t :=
  h.le fun a n z => z.elim id fun z => absurd (z ▸ e) n
theorem VtAll.nd {N : Addr → Prop} {D : Addr} {H : Hp} {ts : List Tr} {vs : List V} (h : VtAll N H vs ts) (e : H D = none) : VtAll (Nd N D) H vs ts :=
  h.le fun a n z => z.elim id fun z => absurd (z ▸ e) n
theorem VtAll.dn {N : Addr → Prop} {D : Addr} {H : Hp} {ts : List Tr} {vs : List V} (h : VtAll (Nd N D) H vs ts) : VtAll N H vs ts := h.le fun _ _ z => .inl z
theorem kp_upd {N : Addr → Prop} {D : Addr} {H : Hp} {o : HO} : KpN (Nd N D) H (upd H D o) := fun b u n _ e => by
  rw [upd_ne (fun z => n (.inr z))]
  exact e
theorem kp_new {N : Addr → Prop} {p : Addr} {H : Hp} {o : HO} (h : H p = none) : KpN N H (upd H p o) := fun b u _ _ e => by
  rw [upd_ne (ne_of_none e h)]
  exact e
section
variable {K : PySem.W.Frag} {σ : L2.St} {H H1 : Hp} {Q : VK} {te : TE} {vs : List Nat}
theorem lcgo_tup {a : Addr} {xs : List V} {j : Nat} (Pv : Addr → Nat → Hp → Prop) (hw : ∀ x, wipe ((wipe σ vs).set j (some x)) vs = wipe σ vs)
    (h0 : ∀ D, H1 D = none → Pv D 0 (upd H1 D (.lst []))) (hl : ∀ D i H, i ≤ xs.length → Pv D i H → SqT K H a xs)
    (hs : ∀ D i x H, H1 D = none → xs[i]? = some x → Pv D i H → te ((wipe σ vs).set j (some x)) H fun y H4 => ∃ acc, H4 D = some (.lst acc) ∧ acc.length < sizeLine ∧ Pv D (i + 1) (upd H4 D (.lst (acc ++ [y]))))
    (hd : ∀ D H, H1 D = none → Pv D xs.length H → Q (.ref D) H) : LcGo (Itt K a) (gName j) tYes te vs σ H1 Q :=
  fun D hD => lc_tup (xs := xs) (Pv D) (h0 D hD) (hl D) (fun i x H e p => ⟨hw x, hs D i x H hD e p⟩) (fun H p => hd D H hD p)
/-- [f(item) for item in value], behind it a tuple of it -/
theorem lc_fx {n : Nat} {v : V} {N : Addr → Prop} {t : Tr} {ts : List Tr} (ht : t = .lst ts ∨ t = .tup ts) (hN : ∀ a, N a → H a ≠ none) (hv : Vt N H v t) (ho : Ok n t) (k : ∀ v' H', Same H H' → Vt N H' v' (.tup (Tr.fxs ts)) → Q v' H') :
    tLc (fun σ H R => iList K (tVar 0) σ H R ∨ iTup K (tVar 0) σ H R) (gName 1) tYes (tCl (spRF n) (tCons (tVar 1) tNil)) [1] [some v, none] H (fun x H1 => kTup K x H1 Q) := by
  obtain ⟨m, rfl, hl, hk⟩ : ∃ m, n = m + 1 ∧ ts.length ≤ 4 ∧ ∀ t ∈ ts, Ok m t := by
    rcases ht with rfl | rfl
    · exact ho.lst
    · exact ho.tup
  obtain ⟨a, xs, rfl, na, hx, ha⟩ : ∃ a xs, v = .ref a ∧ ¬ N a ∧ (H a = some (.lst xs) ∧ t = .lst ts ∨ H a = some (.tup xs) ∧ t = .tup ts) ∧ VtAll N H xs ts := by
    rcases ht with rfl | rfl
    · cases hv with
      | lst n h ha => exact ⟨_, _, rfl, n, .inl ⟨h, rfl⟩, ha⟩
    · cases hv with
      | tup n h ha => exact ⟨_, _, rfl, n, .inr ⟨h, rfl⟩, ha⟩
  have key : ∀ (D : Addr) (i : Nat) (x : V) (G : Hp), H D = none → xs[i]? = some x → (Same H G ∧ ∃ acc, G D = some (.lst acc) ∧ VtAll (Nd N D) G acc (Tr.fxs (ts.take i))) →
      tCl (spRF (m + 1)) (tCons (tVar 1) tNil) [some (.ref a), some x] G fun y H4 => ∃ acc, H4 D = some (.lst acc) ∧ acc.length < sizeLine ∧ (Same H (upd H4 D (.lst (acc ++ [y]))) ∧ ∃ acc2, (upd H4 D (.lst (acc ++ [y]))) D = some (.lst acc2) ∧ VtAll (Nd N D) (upd H4 D (.lst (acc ++ [y]))) acc2 (Tr.fxs (ts.take (i + 1)))) := by
    intro D i x G hD ex ⟨s1, acc, e1, e2⟩
    obtain ⟨u, eu, hu⟩ := ha.get ex
    refine g_cl (g_cons (g_var (v := x) rfl (g_nil ?_)))
    refine ⟨x, Nd N D, u, rfl, fun b z => ?_, (hu.nd hD).go (.of s1), hk u (List.mem_of_getElem? eu), fun y G2 s2 hy => ⟨acc, s2 _ _ e1, ?_, ?_, acc ++ [y], upd_same, ?_⟩⟩
    · rcases z with z | rfl
      · intro e
        have := hN b z
        cases q : H b with
        | none => exact this q
        | some o => rw [s1 _ _ q] at e; cases e
      · rw [e1]
        exact Option.some_ne_none _
    · have l1 := e2.len
      rw [fxs_map, List.length_map, List.length_take] at l1
      exact small1000 (by omega)
    · intro b o e
      rw [upd_ne (ne_of_none e hD)]
      exact s2 _ _ (s1 _ _ e)
    · rw [fxs_take eu]
      exact ((e2.go (.of s2)).app (.cons hy .nil)).go kp_upd
  have last : ∀ (D : Addr) (G : Hp), H D = none → (Same H G ∧ ∃ acc, G D = some (.lst acc) ∧ VtAll (Nd N D) G acc (Tr.fxs (ts.take xs.length))) → kTup K (.ref D) G Q := by
    intro D G hD ⟨s1, acc, e1, e2⟩
    rw [ha.len, List.take_length] at e2
    refine .inl ⟨D, acc, rfl, seqU e1, fun p hp => k (.ref p) _ (s1.trans (same_new hp)) (.tup (fun z => hN p z (s1.free hp)) upd_same (e2.dn.go (kp_new hp)))⟩
  rcases hx with ⟨hx, _⟩ | ⟨hx, _⟩
  · refine g_lcO1 (g_var (v := .ref a) rfl ⟨a, rfl, ⟨_, seqU hx⟩, ?_⟩)
    exact lcgo_list (fun D i G => Same H G ∧ ∃ acc, G D = some (.lst acc) ∧ VtAll (Nd N D) G acc (Tr.fxs (ts.take i))) (fun x => rfl) (fun D hD => ⟨same_new hD, [], upd_same, .nil⟩) (fun D i G _ h => seqU (h.1 _ _ hx)) key last
  · refine g_lcO2 (g_var (v := .ref a) rfl ⟨a, rfl, ⟨_, tupU hx⟩, ?_⟩)
    exact lcgo_tup (fun D i G => Same H G ∧ ∃ acc, G D = some (.lst acc) ∧ VtAll (Nd N D) G acc (Tr.fxs (ts.take i))) (fun x => rfl) (fun D hD => ⟨same_new hD, [], upd_same, .nil⟩) (fun D i G _ h => tupU (h.1 _ _ hx)) key last
end
end Mf
/-! papers made -/
namespace Mf
open PySem PySem.Spec PyProof.Rows L2
theorem FnR.ofOk {P : Program} {w : World} {K : PySem.W.Frag} {mg : Str → Option Value} {base : Heap} {k : Nat} {f : Addr} {fd : FuncData} {ps : List Str} {sp : Sp} (F : FnOk P w K mg base CX0 k f fd ps sp) (b : Binds K fd ps []) : FnR P w K mg base CX0 k f sp :=
  fun A outer s H us vs Q E hr e0 r h => F.run A outer s H ⟨us, []⟩ us vs Q E hr e0 (by
    have KX : K.In s.heap := e0.mod.kin.keeps fun b o e => (e0.bs b o e).1
    have l := F.len _ _ _ _ h
    have z := b s us KX (by rw [List.append_nil, ← r.length]; exact l)
    rw [List.append_nil] at z
    exact z) r h
theorem wp_ne : ¬ (("word" : Str) = "parts") := by decide +kernel
theorem put2 (w : Str) (p : Addr) : putF "parts" (.ref p) (putF "word" (.str w) []) = ([("word", V.str w), ("parts", V.ref p)] : List (Str × V)) := by
  show (if ("word" : Str) = "parts" then [(("word" : Str), V.ref p)] else (("word" : Str), V.str w) :: putF "parts" (V.ref p) []) = _
  rw [if_neg wp_ne]
  all_goals rfl
theorem lk_word (w : Str) (p : Addr) : ([("word", V.str w), ("parts", V.ref p)] : List (Str × V)).lookup ("word" : Str) = some (V.str w) := by simp [List.lookup]
theorem lk_parts (w : Str) (p : Addr) : ([("word", V.str w), ("parts", V.ref p)] : List (Str × V)).lookup ("parts" : Str) = some (V.ref p) := by
  have h : (("parts" : Str) == ("word" : Str)) = false := by decide +kernel
  simp [List.lookup, h]
/-- what __init__ does: the word stands as it is, the parts are fixed -/
def sp_init (C : Addr) : Sp := fun vs H Q _ => ∃ (x dx p : Addr) (w : Str) (xs : List V) (ts : List Tr) (N : Addr → Prop), vs = [.ref x, .str w, .ref p] ∧ H x = some (.ins C dx []) ∧ H p = some (.tup xs) ∧ VtAll N H xs ts ∧ (∀ t ∈ ts, Ok 5 t) ∧ ts.length ≤ 4 ∧
  (∀ a, N a → H a ≠ none) ∧ ¬ N p ∧ ∀ H' p' ys, (∀ b o, H b = some o → b ≠ x → H' b = some o) → Pap H' C x w p' → H' p' = some (.tup ys) → VtAll N H' ys (Tr.fxs ts) → ¬ N p' → Q .non H'
def spStar (sp : Sp) : Sp := fun vs H Q E => ∃ ws rest, vs = ws ++ rest ∧ ws.length = ["self", "word"].length ∧ rest.length ≤ sizeLine ∧ ∀ p, H p = Option.none → sp (ws ++ [V.ref p]) (upd H p (.tup rest)) Q E
/-- C(word, e, ..) -/
def MkQ (C : Addr) (vs : List V) (H : Hp) (Q : VK) : Prop := ∀ x dx, H x = Option.none → H dx = Option.none → dx ≠ x → spStar (sp_init C) (V.ref x :: vs) (upd (upd H dx (.own x)) x (.ins C dx [])) (fun v H2 => v = .non ∧ Q (.ref x) H2) E0
theorem g_mkR {C : Addr} {t : TA} {σ : L2.St} {H : Hp} {Q : VK} (q : t σ H fun vs H1 => MkQ C vs H1 Q) : StX.tMakeR C (spStar (sp_init C)) E0 t σ H Q := q
theorem made_rd {C : Addr} {w : Str} {rest : List V} {ts : List Tr} {N : Addr → Prop} {H : Hp} {Q : VK} (hv : VtAll N H rest ts) (ho : ∀ t ∈ ts, Ok 5 t) (hl : ts.length ≤ 4) (hN : ∀ a, N a → H a ≠ none)
    (k : ∀ x p' ys H', Same H H' → Pap H' C x w p' → H' p' = some (.tup ys) → VtAll N H' ys (Tr.fxs ts) → ¬ N x → ¬ N p' → Q (.ref x) H') : MkQ C (.str w :: rest) H Q := by
  intro x dx hx hdx ne
  have nx : ¬ N x := fun z => hN x z hx
  have nd : ¬ N dx := fun z => hN dx z hdx
  have s1 : Same H (upd (upd H dx (.own x)) x (.ins C dx [])) := fun b o e => by
    rw [upd_ne (ne_of_none e hx), upd_ne (ne_of_none e hdx)]
    exact e
  refine ⟨[.ref x, .str w], rest, rfl, rfl, ?_, fun p hp => ?_⟩
  · rw [hv.len]
    exact Nat.le_of_lt (small1000 (by omega))
  · have px : x ≠ p := ne_of_none upd_same hp
    have s2 : Same H (upd (upd (upd H dx (.own x)) x (.ins C dx [])) p (.tup rest)) := s1.trans (same_new hp)
    have np : ¬ N p := fun z => hN p z (s1.free hp)
    refine ⟨x, dx, p, w, rest, ts, N, rfl, by rw [upd_ne px, upd_same], upd_same, hv.go (.of s2), ho, hl, fun a z => ?_, np, fun H' p' ys kp hp' e' hv' np' => ⟨rfl, k x p' ys H' (fun b o e => kp b o (s2 b o e) (ne_of_none e hx)) hp' e' hv' nx np'⟩⟩
    cases q : H a with
    | none => exact absurd q (hN a z)
    | some o =>
      rw [s2 _ _ q]
      exact Option.some_ne_none _
end Mf
namespace Mf
open PySem PySem.Spec PyProof.Rows L2
local macro_rules | `(tactic| walk_at "mf1") => `(tactic| first
  | ((with_reducible apply g_var); exact rfl)
  | with_reducible first
    | refine g_c ?_ | refine g_op ?_ | refine g_un ?_ | refine g_cb ?_ | refine g_cl ?_ | refine g_clk ?_ | refine g_nil ?_ | refine g_cons ?_
    | refine g_tB ?_ | refine g_test ?_ | refine g_bl ?_ | refine g_and ?_ | refine g_or ?_ | refine g_not ?_ | refine g_andV ?_ | refine g_orV ?_ | refine g_notV ?_
    | refine g_if ?_ | refine g_ifS ?_ | refine g_seq ?_ | refine g_next ?_ | refine g_ret ?_ | refine g_drop ?_ | refine g_asg ?_ | refine g_name ?_ | refine g_sub ?_
    | refine g_int ?_ | refine g_intB ?_ | refine g_abs ?_ | refine g_I0 ?_ | refine g_addI ?_ | refine g_U ?_ | refine g_isNn ?_ | refine g_isNi ?_ | refine g_notN ?_ | refine g_notT1 ?_ | refine g_notT2 ?_ | refine g_notT3 ?_ | refine g_notT4 ?_ | refine g_notTb ?_ | refine g_notTi ?_ | refine g_eqI ?_ | refine g_neI ?_ | refine g_neSs ?_ | refine g_neS ?_ | refine g_eqS ?_
    | refine g_iteT ?_ | refine g_iteF ?_ | refine g_iteNT ?_ | refine g_iteNF ?_ | refine g_lst ?_ | refine g_tup ?_ | refine g_seqP ?_ | refine g_sl ?_ | refine g_noPart ?_ | refine g_part ?_ | refine g_yes ?_ | refine g_thenT ?_ | refine g_consG ?_ | refine g_nilG ?_ | refine g_ii ?_ | refine g_par ?_ | refine g_par3 ?_ | refine g_vv ?_ | refine g_vvv ?_ | refine g_reprB ?_ | refine g_lcL ?_ | refine g_lcR ?_
  | ((with_reducible refine g_mod ?_ ?_); (first | omega | decide))
  | ((with_reducible refine g_div ?_ ?_ ?_); (first | omega | decide); (first | assumption | decide))
  | ((with_reducible refine g_mulL ?_ ?_ ?_); (first | omega | decide); (first | omega | decide))
  | ((with_reducible refine g_mulR ?_ ?_ ?_); (first | omega | decide); (first | omega | decide))
  | ((with_reducible refine g_pow ?_ ?_ ?_ ?_); decide; decide; (first | omega | decide))
  | dsimp only)
local macro_rules | `(tactic| walk_at "mf1s") => `(tactic| first
  | ((with_reducible apply g_var); exact rfl)
  | with_reducible first
    | refine g_c ?_ | refine g_op ?_ | refine g_un ?_ | refine g_cb ?_ | refine g_cl ?_ | refine g_clk ?_ | refine g_nil ?_ | refine g_cons ?_
    | refine g_tB ?_ | refine g_test ?_ | refine g_bl ?_ | refine g_and ?_ | refine g_or ?_ | refine g_not ?_ | refine g_andV ?_ | refine g_orV ?_ | refine g_notV ?_
    | refine g_if ?_ | refine g_ifS ?_ | refine g_next ?_ | refine g_ret ?_ | refine g_drop ?_ | refine g_asg ?_ | refine g_name ?_ | refine g_sub ?_
    | refine g_int ?_ | refine g_intB ?_ | refine g_abs ?_ | refine g_I0 ?_ | refine g_addI ?_ | refine g_U ?_ | refine g_isNn ?_ | refine g_isNi ?_ | refine g_notN ?_ | refine g_notT1 ?_ | refine g_notT2 ?_ | refine g_notT3 ?_ | refine g_notT4 ?_ | refine g_notTb ?_ | refine g_notTi ?_ | refine g_eqI ?_ | refine g_neI ?_ | refine g_neSs ?_ | refine g_neS ?_ | refine g_eqS ?_
    | refine g_iteT ?_ | refine g_iteF ?_ | refine g_iteNT ?_ | refine g_iteNF ?_ | refine g_lst ?_ | refine g_tup ?_ | refine g_seqP ?_ | refine g_sl ?_ | refine g_noPart ?_ | refine g_part ?_ | refine g_yes ?_ | refine g_thenT ?_ | refine g_consG ?_ | refine g_nilG ?_ | refine g_ii ?_ | refine g_par ?_ | refine g_par3 ?_ | refine g_vv ?_ | refine g_vvv ?_ | refine g_reprB ?_ | refine g_lcL ?_ | refine g_lcR ?_
  | ((with_reducible refine g_mod ?_ ?_); (first | omega | decide))
  | ((with_reducible refine g_div ?_ ?_ ?_); (first | omega | decide); (first | assumption | decide))
  | ((with_reducible refine g_mulL ?_ ?_ ?_); (first | omega | decide); (first | omega | decide))
  | ((with_reducible refine g_mulR ?_ ?_ ?_); (first | omega | decide); (first | omega | decide))
  | ((with_reducible refine g_pow ?_ ?_ ?_ ?_); decide; decide; (first | omega | decide))
  | dsimp only)
local macro_rules | `(tactic| walk_at "mfs") => `(tactic| repeat walk_at "mf1s")
local macro_rules | `(tactic| walk_at "mf") => `(tactic| repeat walk_at "mf1")
local macro_rules | `(tactic| walk_at "ed") => `(tactic| repeat (first
  | with_reducible first
    | exact eds_nil | apply eds_cons | exact ed_int | exact ed_bl | exact ed_non | apply ed_neg
  | ((with_reducible apply ed_str); decide)
  | ((with_reducible apply ed_var); (exact rfl); (first | assumption | exact Dq.int _))
  | ((with_reducible apply ed_dict0); assumption)
  | ((with_reducible apply ed_dict2); assumption)
  | ((with_reducible apply ed_tup); assumption)
  | ((with_reducible apply ed_lst); assumption)
  | (with_reducible apply ed_pow)
  | (with_reducible apply ed_mul)
  | assumption
  | (exact Dq.int _)
  | (exact ⟨by decide, by decide, by decide⟩)
  | (show List.length _ ≤ 1000; simp only [List.length_cons, List.length_nil]; decide)))
def topS (i : Nat) : Stmt := PySem.Challenge.pw_mapflow_k01_papers_keep_what_they_tell.main.body.getD i (.Pass ⟨0, 0, 0, 0⟩)
abbrev s_is_list : Stmt := topS 1
theorem sc_is_list : FnScope ["value"] ["value"] (defScope s_is_list) := ⟨rfl, rfl, rfl, by decide +kernel, rfl, by decide +kernel, by decide +kernel⟩
theorem pl_is_list : Pl "is_list" s_is_list ["value"] := fun _ _ _ _ _ _ us hl => match us, hl with | [_], _ => rfl
abbrev s_fixed : Stmt := topS 3
theorem sc_fixed : FnScope ["value", "item"] ["value"] (defScope s_fixed) := ⟨rfl, rfl, rfl, by decide +kernel, rfl, by decide +kernel, by decide +kernel⟩
theorem pl_fixed : Pl "fixed" s_fixed ["value"] := fun _ _ _ _ _ _ us hl => match us, hl with | [_], _ => rfl
abbrev s__law_quay : Stmt := topS 7
theorem sc__law_quay : FnScope ["script", "cell"] ["script"] (defScope s__law_quay) := ⟨rfl, rfl, rfl, by decide +kernel, rfl, by decide +kernel, by decide +kernel⟩
theorem pl__law_quay : Pl "_law_quay" s__law_quay ["script"] := fun _ _ _ _ _ _ us hl => match us, hl with | [_], _ => rfl
abbrev s__law_moor : Stmt := topS 8
theorem sc__law_moor : FnScope ["quay", "many", "rest", "turn", "cell", "stirred"] ["quay", "many"] (defScope s__law_moor) := ⟨rfl, rfl, rfl, by decide +kernel, rfl, by decide +kernel, by decide +kernel⟩
theorem pl__law_moor : Pl "_law_moor" s__law_moor ["quay", "many"] := fun _ _ _ _ _ _ us hl => match us, hl with | [_, _], _ => rfl
abbrev s__law_pick : Stmt := topS 9
theorem sc__law_pick : FnScope ["quay", "some"] ["quay", "some"] (defScope s__law_pick) := ⟨rfl, rfl, rfl, by decide +kernel, rfl, by decide +kernel, by decide +kernel⟩
theorem pl__law_pick : Pl "_law_pick" s__law_pick ["quay", "some"] := fun _ _ _ _ _ _ us hl => match us, hl with | [_, _], _ => rfl
abbrev s__law_value : Stmt := topS 10
theorem sc__law_value : FnScope ["quay", "deep", "way", "parts", "turn"] ["quay", "deep"] (defScope s__law_value) := ⟨rfl, rfl, rfl, by decide +kernel, rfl, by decide +kernel, by decide +kernel⟩
theorem pl__law_value : Pl "_law_value" s__law_value ["quay", "deep"] := fun _ _ _ _ _ _ us hl => match us, hl with | [_, _], _ => rfl
abbrev s__law_fixed : Stmt := topS 11
theorem sc__law_fixed : FnScope ["value", "part"] ["value"] (defScope s__law_fixed) := ⟨rfl, rfl, rfl, by decide +kernel, rfl, by decide +kernel, by decide +kernel⟩
theorem pl__law_fixed : Pl "_law_fixed" s__law_fixed ["value"] := fun _ _ _ _ _ _ us hl => match us, hl with | [_], _ => rfl
abbrev s__law_made : Stmt := topS 12
theorem sc__law_made : FnScope ["word", "parts", "is_denial"] ["word", "parts", "is_denial"] (defScope s__law_made) := ⟨rfl, rfl, rfl, by decide +kernel, rfl, by decide +kernel, by decide +kernel⟩
theorem pl__law_made : Pl "_law_made" s__law_made ["word", "parts", "is_denial"] := fun _ _ _ _ _ _ us hl => match us, hl with | [_, _, _], _ => rfl
abbrev s_law : Stmt := topS 13
theorem sc_law : FnScope ["script", "quay", "turn", "word", "other", "parts", "kept", "due", "paper", "denial", "value", "part"] ["script"] (defScope s_law) := ⟨rfl, rfl, rfl, by decide +kernel, rfl, by decide +kernel, by decide +kernel⟩
theorem pl_law : Pl "law" s_law ["script"] := fun _ _ _ _ _ _ us hl => match us, hl with | [_], _ => rfl
theorem pk_fixed : Pk "fixed" s_fixed ["value"] ["value"] List.reverse := fun _ _ _ _ _ _ us hl => match us, hl with | [_], _ => rfl
abbrev s_Paper0 : Stmt := inClass (topS 4) 0
theorem sc_Paper0 : FnScope ["self", "word", "parts"] ["self", "word", "parts"] (defScope s_Paper0) := ⟨rfl, rfl, rfl, by decide +kernel, rfl, by decide +kernel, by decide +kernel⟩
abbrev s_Paper1 : Stmt := inClass (topS 4) 1
theorem sc_Paper1 : FnScope ["self", "other"] ["self", "other"] (defScope s_Paper1) := ⟨rfl, rfl, rfl, by decide +kernel, rfl, by decide +kernel, by decide +kernel⟩
abbrev s_Paper2 : Stmt := inClass (topS 4) 2
theorem sc_Paper2 : FnScope ["self"] ["self"] (defScope s_Paper2) := ⟨rfl, rfl, rfl, by decide +kernel, rfl, by decide +kernel, by decide +kernel⟩
abbrev s_Denial0 : Stmt := inClass (topS 5) 0
theorem sc_Denial0 : FnScope ["self", "word", "parts"] ["self", "word", "parts"] (defScope s_Denial0) := ⟨rfl, rfl, rfl, by decide +kernel, rfl, by decide +kernel, by decide +kernel⟩
abbrev s_Denial1 : Stmt := inClass (topS 5) 1
theorem sc_Denial1 : FnScope ["self", "other"] ["self", "other"] (defScope s_Denial1) := ⟨rfl, rfl, rfl, by decide +kernel, rfl, by decide +kernel, by decide +kernel⟩
abbrev s_Denial2 : Stmt := inClass (topS 5) 2
theorem sc_Denial2 : FnScope ["self"] ["self"] (defScope s_Denial2) := ⟨rfl, rfl, rfl, by decide +kernel, rfl, by decide +kernel, by decide +kernel⟩
structure Ad where
  (P D pi pe pb di de db : Addr)
structure Tx (c : Cn) (a : Ad) : Prop where
  n_abs : c.mg "abs" = none
  n_bool : c.mg "bool" = none
  n_int : c.mg "int" = none
  n_isinstance : c.mg "isinstance" = none
  n_len : c.mg "len" = none
  n_list : c.mg "list" = none
  n_range : c.mg "range" = none
  n_repr : c.mg "repr" = none
  n_tuple : c.mg "tuple" = none
  n_type : c.mg "type" = none
  d_is_list : De c "is_list" s_is_list
  d_fixed : De c "fixed" s_fixed
  d__law_quay : De c "_law_quay" s__law_quay
  d__law_moor : De c "_law_moor" s__law_moor
  d__law_pick : De c "_law_pick" s__law_pick
  d__law_value : De c "_law_value" s__law_value
  d__law_fixed : De c "_law_fixed" s__law_fixed
  d__law_made : De c "_law_made" s__law_made
  d_law : De c "law" s_law
  g_Paper : c.mg "Paper" = some (.ref a.P)
  g_Denial : c.mg "Denial" = some (.ref a.D)
  mk_Paper : Mk c.K a.P a.pi
  mk_Denial : Mk c.K a.D a.di
  ty_Paper : TyC c.K a.P
  ty_Denial : TyC c.K a.D
  oc : PySem.W.specialIn c.K (.builtin "object.__class__") "__get__" = some (some (.builtin "getset_descriptor.__get__"))
  ot : PySem.W.takesIn c.K (.builtin "object.__class__") = some true
  nw_Paper : NoAttr c.K a.P "word"
  np_Paper : NoAttr c.K a.P "parts"
  fi_Paper : ∃ fd, Fun c.K "__init__" "Paper.__init__" s_Paper0 a.pi fd
  fe_Paper : ∃ fd, Fun c.K "__eq__" "Paper.__eq__" s_Paper1 a.pe fd
  fb_Paper : ∃ fd, Fun c.K "__bool__" "Paper.__bool__" s_Paper2 a.pb fd
  eq_Paper : PySem.W.findIn c.K (.ref a.P) "__eq__" = some (some (.ref a.pe)) ∧ PySem.W.isFn c.K (.ref a.pe) = true
  bo_Paper : PySem.W.findIn c.K (.ref a.P) "__bool__" = some (some (.ref a.pb)) ∧ PySem.W.isFn c.K (.ref a.pb) = true
  ne_Paper : PySem.W.findIn c.K (.ref a.P) "__ne__" = some (some (.builtin "object.__ne__"))
  nt_Paper : PySem.W.notFirst c.K a.P (.type "tuple") = true
  ns_Paper : PySem.W.notFirst c.K a.P (.type "str") = true
  nw_Denial : NoAttr c.K a.D "word"
  np_Denial : NoAttr c.K a.D "parts"
  fi_Denial : ∃ fd, Fun c.K "__init__" "Denial.__init__" s_Denial0 a.di fd
  fe_Denial : ∃ fd, Fun c.K "__eq__" "Denial.__eq__" s_Denial1 a.de fd
  fb_Denial : ∃ fd, Fun c.K "__bool__" "Denial.__bool__" s_Denial2 a.db fd
  eq_Denial : PySem.W.findIn c.K (.ref a.D) "__eq__" = some (some (.ref a.de)) ∧ PySem.W.isFn c.K (.ref a.de) = true
  bo_Denial : PySem.W.findIn c.K (.ref a.D) "__bool__" = some (some (.ref a.db)) ∧ PySem.W.isFn c.K (.ref a.db) = true
  ne_Denial : PySem.W.findIn c.K (.ref a.D) "__ne__" = some (some (.builtin "object.__ne__"))
  nt_Denial : PySem.W.notFirst c.K a.D (.type "tuple") = true
  ns_Denial : PySem.W.notFirst c.K a.D (.type "str") = true
  sub : PySem.W.subIn c.K (.ref a.D) (.ref a.P) = some true
  nD : PySem.W.notFirst c.K a.D (.ref a.P) = true
  yP : PySem.W.typeIn c.K (.ref a.P) = some (.type "type")
  yD : PySem.W.typeIn c.K (.ref a.D) = some (.type "type")
  sPD : PySem.W.subIn c.K (.ref a.P) (.ref a.D) = some false
theorem kit_sub {K : PySem.W.Frag} {C D : Addr} {b : Bool} (m : PySem.W.makesIn K D = true) (t : PySem.W.typeIn K (.ref D) = some (.type "type")) (s : PySem.W.subIn K (.ref C) (.ref D) = some b) (n : C ≠ D) : PySem.W.kitOne K (.ref C) (.ref D) = some b := by
  have h : (PySem.W.clsIn K D).isSome = true := by
    unfold PySem.W.makesIn at m
    unfold PySem.W.clsIn
    split at m
    · rename_i e
      rw [e]
      rfl
    · cases m
  unfold PySem.W.kitOne
  rw [if_neg (fun z => n (Value.ref.inj (beq_iff_eq.mp z)))]
  show (if ((PySem.W.clsIn K D).isSome && PySem.W.typeIn K (.ref D) == some (.type "type")) = true then PySem.W.subIn K (.ref C) (.ref D) else none) = some b
  rw [if_pos (by rw [h, t]; exact beq_self_eq_true _)]
  exact s
theorem Tx.ne {c : Cn} {a : Ad} (T : Tx c a) : a.P ≠ a.D := fun e => by
  have z := T.sPD
  have y := T.sub
  rw [e] at z y
  rw [z] at y
  cases y
theorem Tx.kPD {c : Cn} {a : Ad} (T : Tx c a) : PySem.W.kitOne c.K (.ref a.P) (.ref a.D) = some false := kit_sub T.mk_Denial.makes T.yD T.sPD T.ne
theorem Tx.kDP {c : Cn} {a : Ad} (T : Tx c a) : PySem.W.kitOne c.K (.ref a.D) (.ref a.P) = some true := kit_sub T.mk_Paper.makes T.yP T.sub T.ne.symm
end Mf
namespace Mf
open PySem PySem.Spec PyProof.Rows L2
local macro_rules | `(tactic| walk_at "mf1") => `(tactic| first
  | ((with_reducible apply g_var); exact rfl)
  | with_reducible first
    | refine g_c ?_ | refine g_op ?_ | refine g_un ?_ | refine g_cb ?_ | refine g_cl ?_ | refine g_clk ?_ | refine g_nil ?_ | refine g_cons ?_
    | refine g_tB ?_ | refine g_test ?_ | refine g_bl ?_ | refine g_and ?_ | refine g_or ?_ | refine g_not ?_ | refine g_andV ?_ | refine g_orV ?_ | refine g_notV ?_
    | refine g_if ?_ | refine g_ifS ?_ | refine g_seq ?_ | refine g_next ?_ | refine g_ret ?_ | refine g_drop ?_ | refine g_asg ?_ | refine g_name ?_ | refine g_sub ?_
    | refine g_int ?_ | refine g_intB ?_ | refine g_abs ?_ | refine g_I0 ?_ | refine g_addI ?_ | refine g_U ?_ | refine g_isNn ?_ | refine g_isNi ?_ | refine g_notN ?_ | refine g_notT1 ?_ | refine g_notT2 ?_ | refine g_notT3 ?_ | refine g_notT4 ?_ | refine g_notTb ?_ | refine g_notTi ?_ | refine g_eqI ?_ | refine g_neI ?_ | refine g_neSs ?_ | refine g_neS ?_ | refine g_eqS ?_
    | refine g_iteT ?_ | refine g_iteF ?_ | refine g_iteNT ?_ | refine g_iteNF ?_ | refine g_lst ?_ | refine g_tup ?_ | refine g_seqP ?_ | refine g_sl ?_ | refine g_noPart ?_ | refine g_part ?_ | refine g_yes ?_ | refine g_thenT ?_ | refine g_consG ?_ | refine g_nilG ?_ | refine g_ii ?_ | refine g_par ?_ | refine g_par3 ?_ | refine g_vv ?_ | refine g_vvv ?_ | refine g_reprB ?_ | refine g_lcL ?_ | refine g_lcR ?_
  | ((with_reducible refine g_mod ?_ ?_); (first | omega | decide))
  | ((with_reducible refine g_div ?_ ?_ ?_); (first | omega | decide); (first | assumption | decide))
  | ((with_reducible refine g_mulL ?_ ?_ ?_); (first | omega | decide); (first | omega | decide))
  | ((with_reducible refine g_mulR ?_ ?_ ?_); (first | omega | decide); (first | omega | decide))
  | ((with_reducible refine g_pow ?_ ?_ ?_ ?_); decide; decide; (first | omega | decide))
  | dsimp only)
local macro_rules | `(tactic| walk_at "mf1s") => `(tactic| first
  | ((with_reducible apply g_var); exact rfl)
  | with_reducible first
    | refine g_c ?_ | refine g_op ?_ | refine g_un ?_ | refine g_cb ?_ | refine g_cl ?_ | refine g_clk ?_ | refine g_nil ?_ | refine g_cons ?_
    | refine g_tB ?_ | refine g_test ?_ | refine g_bl ?_ | refine g_and ?_ | refine g_or ?_ | refine g_not ?_ | refine g_andV ?_ | refine g_orV ?_ | refine g_notV ?_
    | refine g_if ?_ | refine g_ifS ?_ | refine g_next ?_ | refine g_ret ?_ | refine g_drop ?_ | refine g_asg ?_ | refine g_name ?_ | refine g_sub ?_
    | refine g_int ?_ | refine g_intB ?_ | refine g_abs ?_ | refine g_I0 ?_ | refine g_addI ?_ | refine g_U ?_ | refine g_isNn ?_ | refine g_isNi ?_ | refine g_notN ?_ | refine g_notT1 ?_ | refine g_notT2 ?_ | refine g_notT3 ?_ | refine g_notT4 ?_ | refine g_notTb ?_ | refine g_notTi ?_ | refine g_eqI ?_ | refine g_neI ?_ | refine g_neSs ?_ | refine g_neS ?_ | refine g_eqS ?_
    | refine g_iteT ?_ | refine g_iteF ?_ | refine g_iteNT ?_ | refine g_iteNF ?_ | refine g_lst ?_ | refine g_tup ?_ | refine g_seqP ?_ | refine g_sl ?_ | refine g_noPart ?_ | refine g_part ?_ | refine g_yes ?_ | refine g_thenT ?_ | refine g_consG ?_ | refine g_nilG ?_ | refine g_ii ?_ | refine g_par ?_ | refine g_par3 ?_ | refine g_vv ?_ | refine g_vvv ?_ | refine g_reprB ?_ | refine g_lcL ?_ | refine g_lcR ?_
  | ((with_reducible refine g_mod ?_ ?_); (first | omega | decide))
  | ((with_reducible refine g_div ?_ ?_ ?_); (first | omega | decide); (first | assumption | decide))
  | ((with_reducible refine g_mulL ?_ ?_ ?_); (first | omega | decide); (first | omega | decide))
  | ((with_reducible refine g_mulR ?_ ?_ ?_); (first | omega | decide); (first | omega | decide))
  | ((with_reducible refine g_pow ?_ ?_ ?_ ?_); decide; decide; (first | omega | decide))
  | dsimp only)
local macro_rules | `(tactic| walk_at "mfs") => `(tactic| repeat walk_at "mf1s")
local macro_rules | `(tactic| walk_at "mf") => `(tactic| repeat walk_at "mf1")
local macro_rules | `(tactic| walk_at "ed") => `(tactic| repeat (first
  | with_reducible first
    | exact eds_nil | apply eds_cons | exact ed_int | exact ed_bl | exact ed_non | apply ed_neg
  | ((with_reducible apply ed_str); decide)
  | ((with_reducible apply ed_var); (exact rfl); (first | assumption | exact Dq.int _))
  | ((with_reducible apply ed_dict0); assumption)
  | ((with_reducible apply ed_dict2); assumption)
  | ((with_reducible apply ed_tup); assumption)
  | ((with_reducible apply ed_lst); assumption)
  | (with_reducible apply ed_pow)
  | (with_reducible apply ed_mul)
  | assumption
  | (exact Dq.int _)
  | (exact ⟨by decide, by decide, by decide⟩)
  | (show List.length _ ≤ 1000; simp only [List.length_cons, List.length_nil]; decide)))
theorem ok__law_quay (c : Cn) {a : Ad} (T : Tx c a) : Cl c 1 "_law_quay" s__law_quay ["script"] (sp_quay c.K) := by
  obtain ⟨P, w, K, mg, base⟩ := c
  refine De.cl (N := ["script", "cell"]) T.d__law_quay sc__law_quay (fun vs H Q E h => ?_) (fun f0 cdv A outer s H vs Q E hA hr h => ?_)
  · obtain ⟨a, ns, rfl, _⟩ := h; rfl
  · have S := sc__law_quay
    obtain ⟨a, ns, rfl, hS, hlen, k⟩ := h
    refine ⟨_, (pss_one (ps_ret (pe_lst (pa_cons (pe_lc (own := [("cell", 1)]) (g := gName 1) (tt := tYes) rfl S.nd (pi_list (pe_slice sl_list (pv 0) po_none (po_some pe_int))) (blkOk_by (N := ["script", "cell"]) (sc := defScope s__law_quay) (by decide +kernel)) (fun _ _ _ _ _ => pg_name (i := 1) S.nd rfl (Or.inl rfl)) (fun _ _ _ _ _ => pts_nil) (fun _ _ _ _ _ => (pe_callTy call_intU (by rfl) T.n_int PyProof.Rows.boot_int (pa_cons (pv 1) pa_nil)))) (pa_cons pe_int (pa_cons pe_int pa_nil)))))), ?_⟩
    walk_at "mf"
    refine g_slL hS fun p H1 hp s1 e1 => ?_
    obtain ⟨ms, em, lm⟩ := cut_ints ns none (some 55)
    walk_at "mf"
    rw [em] at e1
    refine ⟨p, rfl, ⟨_, seqU e1⟩, ?_⟩
    refine lcgo_list (xs := ms.map V.int) (fun D i H' => Same H1 H' ∧ H' D = some (.lst ((ms.take i).map V.int))) (fun x => rfl) (fun D hD => ⟨same_new hD, upd_same⟩) (fun D i H' _ h => seqU (h.1 _ _ e1)) (fun D i x H' hD ex h => ?_) (fun D H' hD h => ?_)
    · obtain ⟨h1, h2⟩ := h
      rw [List.getElem?_map] at ex
      obtain ⟨z, ez, rfl⟩ := Option.map_eq_some_iff.mp ex
      walk_at "mf"
      have hi := (List.getElem?_eq_some_iff.mp ez).1
      refine ⟨_, h2, ?_, ?_, ?_⟩
      · rw [List.length_map, List.length_take]
        exact small1000 (by omega)
      · intro b o e
        rw [upd_ne (ne_of_none e hD)]
        exact h1 b o e
      · rw [upd_same, List.take_add_one, ez, List.map_append]
        rfl
    · obtain ⟨h1, h2⟩ := h
      rw [List.length_map, List.take_length] at h2
      walk_at "mf"
      refine g_newL (by show 3 ≤ sizeLine; decide) fun q H2 hq s2 e2 => ?_
      have hDq : D ≠ q := ne_of_none h2 hq
      refine k q H2 ((s1.trans h1).trans s2) ((s1.trans h1).free hq) ⟨D, ms, 0, e2, s2 _ _ h2, hDq, by omega, by omega, by omega⟩
theorem ok__law_moor (c : Cn) {a : Ad} (T : Tx c a) : Cl c 1 "_law_moor" s__law_moor ["quay", "many"] (sp_moor c.K) := by
  obtain ⟨P, w, K, mg, base⟩ := c
  refine De.cl (N := ["quay", "many", "rest", "turn", "cell", "stirred"]) T.d__law_moor sc__law_moor (fun vs H Q E h => ?_) (fun f0 cdv A outer s H vs Q E hA hr h => ?_)
  · obtain ⟨q, t, n, rfl, _⟩ := h; rfl
  · have S := sc__law_moor
    obtain ⟨q, t, n, rfl, hq, ht, hn, hn9, k⟩ := h
    refine ⟨_, (pss_cons (ps_if (pt_cmpR op_gt (pe_ix ix_seq (pv 0) pe_int (fun _ _ => rfl)) pe_int (nomark _)) (pss_cons (ps_set (i := 2) S.nd rfl (by first | exact .inl rfl | exact .inr rfl) (pe_callTy call_intU (by rfl) T.n_int PyProof.Rows.boot_int (pa_cons (pe_ix ix_seq (pv 0) pe_int (fun _ _ => rfl)) pa_nil)))
      (pss_cons (ps_asg (pe_op op_fdivW (pv 2) (pv 1)) (pg_sub (pv 0) pe_int set_list))
      (pss_one (ps_ret (pe_op op_mod (pe_callTy call_intU (by rfl) T.n_int PyProof.Rows.boot_int (pa_cons (pv 2) pa_nil)) (pv 1)))))) pss_nil)
      (pss_cons (ps_set (i := 3) S.nd rfl (by first | exact .inl rfl | exact .inr rfl) (pe_ix ix_seq (pv 0) pe_int (fun _ _ => rfl)))
      (pss_cons (ps_asg (pe_op op_addU (pv 3) pe_int) (pg_sub (pv 0) pe_int set_list))
      (pss_cons (ps_set (i := 4) S.nd rfl (by first | exact .inl rfl | exact .inr rfl) (pe_op op_addU (pe_op op_mulU pe_int (pv 3)) pe_int))
      (pss_cons (ps_if (pt_cmpR (op_neU hr.units) (pe_ix ix_seq (pv 0) pe_int (fun _ _ => rfl)) (pe_lst pa_nil) (nomark _)) (pss_one (ps_set (i := 4) S.nd rfl (by first | exact .inl rfl | exact .inr rfl) (pe_ix ix_seq (pe_ix ix_seq (pv 0) pe_int (fun _ _ => rfl)) (pe_op op_mod (pe_callTy call_intU (by rfl) T.n_int PyProof.Rows.boot_int (pa_cons (pv 3) pa_nil)) (pe_callB call_lenU (by rfl) T.n_len PySem.boot_len (pa_cons (pe_ix ix_seq (pv 0) pe_int (fun _ _ => rfl)) pa_nil))) (fun _ _ => rfl)))) pss_nil)
      (pss_cons (ps_if (PW.pt (pw_and (pt_cmpR op_lt (pv 3) (pe_callB call_lenU (by rfl) T.n_len PySem.boot_len (pa_cons (pe_ix ix_seq (pv 0) pe_int (fun _ _ => rfl)) pa_nil)) (nomark _)) (pw_and1 (pt_cmpR op_ge (pe_callB call_absU (by rfl) T.n_abs (show bootBuiltins "abs" = some (.builtin "abs") by decide +kernel) (pa_cons (pv 4) pa_nil)) (pe_op op_pow pe_int pe_int) (nomark _))))) (pss_cons (ps_set (i := 2) S.nd rfl (by first | exact .inl rfl | exact .inr rfl) (pe_op op_addU (pe_op op_mulU pe_int (pe_op op_sub (pe_callB call_absU (by rfl) T.n_abs (show bootBuiltins "abs" = some (.builtin "abs") by decide +kernel) (pa_cons (pv 4) pa_nil)) (pe_op op_pow pe_int pe_int))) (pe_callTy call_intU (by rfl) T.n_int PyProof.Rows.boot_int (pa_cons (pe_cmpR op_lt (pv 4) pe_int (nomark _)) pa_nil))))
      (pss_cons (ps_asg (pe_op op_fdivW (pv 2) (pv 1)) (pg_sub (pv 0) pe_int set_list))
      (pss_one (ps_ret (pe_op op_mod (pe_callTy call_intU (by rfl) T.n_int PyProof.Rows.boot_int (pa_cons (pv 2) pa_nil)) (pv 1)))))) pss_nil)
      (pss_cons (ps_set (i := 5) S.nd rfl (by first | exact .inl rfl | exact .inr rfl) (pe_op op_mod (pe_callTy call_intU (by rfl) T.n_int PyProof.Rows.boot_int (pa_cons (pe_op op_pow (pe_op op_addU (pe_op op_addU (pe_op op_mod (pe_callTy call_intU (by rfl) T.n_int PyProof.Rows.boot_int (pa_cons (pv 4) pa_nil)) pe_int) (pe_op op_mulU pe_int (pv 3))) pe_int) pe_int) pa_nil)) pe_int))
      (pss_cons (ps_set (i := 5) S.nd rfl (by first | exact .inl rfl | exact .inr rfl) (pe_op op_mod (pe_callTy call_intU (by rfl) T.n_int PyProof.Rows.boot_int (pa_cons (pe_op op_pow (pe_op op_addU (pe_op op_addU (pe_op op_mulU (pv 5) (pe_op op_addU (pe_op op_mulU pe_int (pv 3)) pe_int)) (pe_op op_mulU (pe_op op_mulU pe_int (pv 3)) (pv 3))) pe_int) pe_int) pa_nil)) pe_int))
      (pss_one (ps_ret (pe_op op_mod (pe_callTy call_intU (by rfl) T.n_int PyProof.Rows.boot_int (pa_cons (pe_op op_fdivW (pv 5) pe_int) pa_nil)) (pv 1)))))))))))), ?_⟩
    obtain ⟨c, ns, r, eq, hc, ncq, hns, hr0, ht0⟩ := hq
    walk_at "mf"
    refine g_ix (.inl (seqU eq)) (v := .int r) rfl ?_
    walk_at "mf"
    refine g_ite (fun h => ?_) (fun h => ?_)
    · walk_at "mf"
      refine g_ix (.inl (seqU eq)) (v := .int r) rfl ?_
      walk_at "mf"
      refine g_setL eq (j := 2) rfl ?_
      walk_at "mf"
      exact k t _ _ (upd_x eq) ⟨c, ns, _, upd_same, (upd_x eq).kept _ _ ncq hc, ncq, hns, Int.ediv_nonneg hr0 (by omega), ht0⟩ (by omega) (by omega) (Int.emod_nonneg _ (by omega)) (Int.emod_lt_of_pos _ hn)
    · walk_at "mf"
      refine g_ix (.inl (seqU eq)) (v := .int t) rfl ?_
      walk_at "mf"
      refine g_setL eq (j := 1) rfl ?_
      have eq1 : (upd H q (.lst [.ref c, .int (t + 1), .int r])) q = some (.lst [.ref c, .int (t + 1), .int r]) := upd_same
      have hc1 : (upd H q (.lst [.ref c, .int (t + 1), .int r])) c = some (.lst (ns.map V.int)) := (upd_x eq).kept _ _ ncq hc
      have sx1 : SameX q H (upd H q (.lst [.ref c, .int (t + 1), .int r])) := upd_x eq
      have es : [V.ref c, .int t, .int r].set 1 (.int (t + 1)) = [.ref c, .int (t + 1), .int r] := rfl
      rw [es]
      generalize upd H q (.lst [.ref c, .int (t + 1), .int r]) = Hb at *
      walk_at "mf"
      refine g_ix (.inl (seqU eq1)) (v := .ref c) rfl ?_
      walk_at "mf"
      refine g_newL (by show 0 ≤ sizeLine; decide) fun p H2 hp s2 e2 => ?_
      have eq2 := s2 _ _ eq1
      have hc2 := s2 _ _ hc1
      have sx := sx1.trans (Same.x s2)
      walk_at "mf"
      refine g_neNil (seqU hc2) (seqU e2) ?_
      walk_at "mf"
      refine g_ite (fun h2 => ?_) (fun h2 => ?_)
      · walk_at "mf"
        refine g_ix (.inl (seqU eq2)) (v := .ref c) rfl ?_
        walk_at "mf"
        refine g_ix (.inl (seqU eq2)) (v := .ref c) rfl ?_
        walk_at "mf"
        refine g_len (.inl (seqU hc2)) ?_
        have hpos : 0 < ((ns.map V.int).length : Int) := by
          cases ns with
          | nil => cases h2
          | cons z l => rw [List.map_cons, List.length_cons]; omega
        walk_at "mf"
        obtain ⟨z, ez⟩ : ∃ z, atI (ns.map V.int) (t % ((ns.map V.int).length : Int)) = some (.int z) := by
          have b1 := Int.emod_nonneg t (Int.ne_of_gt hpos)
          have b2 := Int.emod_lt_of_pos t hpos
          have b3 : (t % ((ns.map V.int).length : Int)).toNat < ns.length := by
            rw [List.length_map] at b1 b2 ⊢
            omega
          refine ⟨ns[(t % ((ns.map V.int).length : Int)).toNat], ?_⟩
          refine at_of (j := (t % ((ns.map V.int).length : Int)).toNat) (by omega) ?_
          rw [List.getElem?_map, List.getElem?_eq_getElem b3]
          rfl
        refine g_ix (.inl (seqU hc2)) ez ?_
        walk_at "mf"
        refine g_ix (.inl (seqU eq2)) (v := .ref c) rfl ?_
        walk_at "mf"
        refine g_len (.inl (seqU hc2)) ?_
        walk_at "mf"
        refine g_ite (fun h3 => ?_) (fun h3 => ?_)
        · walk_at "mf"
          refine g_ite (fun h4 => ?_) (fun h4 => ?_)
          · have h5 := of_decide_eq_true h4
            rw [show (10 : Int) ^ (18 : Int).toNat = 1000000000000000000 by decide] at h5
            walk_at "mf"
            refine g_setL eq2 (j := 2) rfl ?_
            walk_at "mf"
            rw [show (10 : Int) ^ (18 : Int).toNat = 1000000000000000000 by decide]
            exact k (t + 1) _ _ (sx.trans (upd_x eq2)) ⟨c, ns, _, upd_same, (upd_x eq2).kept _ _ ncq hc2, ncq, hns, Int.ediv_nonneg (by split <;> omega) (by omega), by omega⟩ (by omega) (by omega) (Int.emod_nonneg _ (by omega)) (Int.emod_lt_of_pos _ hn)
          · walk_at "mf"
            walk_at "mf"
            refine g_pow (by decide) (by decide) (stir_bd (Int.emod_nonneg _ (by decide)) (Int.lt_of_lt_of_le (Int.emod_lt_of_pos _ (by decide)) (by decide)) ht0 ht (by decide) (by decide) (by decide) (by decide) (by decide) (by decide)) ?_
            walk_at "mf"
            exact k (t + 1) _ _ sx ⟨c, ns, r, eq2, hc2, ncq, hns, hr0, by omega⟩ (by omega) (by omega) (Int.emod_nonneg _ (by omega)) (Int.emod_lt_of_pos _ hn)
        · walk_at "mf"
          walk_at "mf"
          refine g_pow (by decide) (by decide) (stir_bd (Int.emod_nonneg _ (by decide)) (Int.lt_of_lt_of_le (Int.emod_lt_of_pos _ (by decide)) (by decide)) ht0 ht (by decide) (by decide) (by decide) (by decide) (by decide) (by decide)) ?_
          walk_at "mf"
          exact k (t + 1) _ _ sx ⟨c, ns, r, eq2, hc2, ncq, hns, hr0, by omega⟩ (by omega) (by omega) (Int.emod_nonneg _ (by omega)) (Int.emod_lt_of_pos _ hn)
      · walk_at "mf"
        walk_at "mf"
        refine g_ix (.inl (seqU eq2)) (v := .ref c) rfl ?_
        walk_at "mf"
        refine g_len (.inl (seqU hc2)) ?_
        walk_at "mf"
        refine g_ite (fun h3 => ?_) (fun h3 => ?_)
        · walk_at "mf"
          refine g_ite (fun h4 => ?_) (fun h4 => ?_)
          · have h5 := of_decide_eq_true h4
            rw [show (10 : Int) ^ (18 : Int).toNat = 1000000000000000000 by decide] at h5
            walk_at "mf"
            refine g_setL eq2 (j := 2) rfl ?_
            walk_at "mf"
            rw [show (10 : Int) ^ (18 : Int).toNat = 1000000000000000000 by decide]
            exact k (t + 1) _ _ (sx.trans (upd_x eq2)) ⟨c, ns, _, upd_same, (upd_x eq2).kept _ _ ncq hc2, ncq, hns, Int.ediv_nonneg (by split <;> omega) (by omega), by omega⟩ (by omega) (by omega) (Int.emod_nonneg _ (by omega)) (Int.emod_lt_of_pos _ hn)
          · walk_at "mf"
            walk_at "mf"
            refine g_pow (by decide) (by decide) (stir_bd (Int.emod_nonneg _ (by decide)) (Int.lt_of_lt_of_le (Int.emod_lt_of_pos _ (by decide)) (by decide)) ht0 ht (by decide) (by decide) (by decide) (by decide) (by decide) (by decide)) ?_
            walk_at "mf"
            exact k (t + 1) _ _ sx ⟨c, ns, r, eq2, hc2, ncq, hns, hr0, by omega⟩ (by omega) (by omega) (Int.emod_nonneg _ (by omega)) (Int.emod_lt_of_pos _ hn)
        · walk_at "mf"
          walk_at "mf"
          refine g_pow (by decide) (by decide) (stir_bd (Int.emod_nonneg _ (by decide)) (Int.lt_of_lt_of_le (Int.emod_lt_of_pos _ (by decide)) (by decide)) ht0 ht (by decide) (by decide) (by decide) (by decide) (by decide) (by decide)) ?_
          walk_at "mf"
          exact k (t + 1) _ _ sx ⟨c, ns, r, eq2, hc2, ncq, hns, hr0, by omega⟩ (by omega) (by omega) (Int.emod_nonneg _ (by omega)) (Int.emod_lt_of_pos _ hn)
theorem ok__law_pick (c : Cn) {a : Ad} (T : Tx c a) : Cl c 2 "_law_pick" s__law_pick ["quay", "some"] (sp_pick c.K) := by
  obtain ⟨P, w, K, mg, base⟩ := c
  have C__law_moor := ok__law_moor _ T
  refine De.cl (N := ["quay", "some"]) T.d__law_pick sc__law_pick (fun vs H Q E h => ?_) (fun f0 cdv A outer s H vs Q E hA hr h => ?_)
  · obtain ⟨q, a, t, xs, rfl, _⟩ := h; rfl
  · have S := sc__law_pick
    obtain ⟨q, a, t, xs, rfl, hq, ht, na, hs, hne, hl, k⟩ := h
    refine ⟨_, (pss_one (ps_ret (pe_ix ix_seq (pv 1) (pe_f C__law_moor hA hr (by decide) pl__law_moor (by rfl) (pa_cons (pv 0) (pa_cons (pe_callB call_lenU (by rfl) T.n_len PySem.boot_len (pa_cons (pv 1) pa_nil)) pa_nil))) (fun _ _ => rfl)))), ?_⟩
    have hp : 0 < xs.length := by
      cases xs with
      | nil => exact absurd rfl hne
      | cons z r => exact Nat.succ_pos _
    walk_at "mf"
    refine g_len hs ?_
    walk_at "mf"
    refine ⟨q, t, _, rfl, hq, ht, by omega, ?_, fun t' H' i sx hq' h1 h2 h3 h4 => ?_⟩
    · rw [Int.natAbs_natCast]
      exact Nat.lt_of_lt_of_le ((Nat.log2_lt (by omega)).mpr (show xs.length < 2 ^ 10 by omega)) (by decide)
    · walk_at "mf"
      have hi : i.toNat < xs.length := by omega
      refine g_ix (hs.go sx na) (at_of (j := i.toNat) (by omega) (List.getElem?_eq_getElem hi)) ?_
      exact k t' H' _ sx hq' h1 h2 (List.getElem_mem hi)
end Mf
namespace Mf
open PySem PySem.Spec PyProof.Rows L2
local macro_rules | `(tactic| walk_at "mf1") => `(tactic| first
  | ((with_reducible apply g_var); exact rfl)
  | with_reducible first
    | refine g_c ?_ | refine g_op ?_ | refine g_un ?_ | refine g_cb ?_ | refine g_cl ?_ | refine g_clk ?_ | refine g_nil ?_ | refine g_cons ?_
    | refine g_tB ?_ | refine g_test ?_ | refine g_bl ?_ | refine g_and ?_ | refine g_or ?_ | refine g_not ?_ | refine g_andV ?_ | refine g_orV ?_ | refine g_notV ?_
    | refine g_if ?_ | refine g_ifS ?_ | refine g_seq ?_ | refine g_next ?_ | refine g_ret ?_ | refine g_drop ?_ | refine g_asg ?_ | refine g_name ?_ | refine g_sub ?_
    | refine g_int ?_ | refine g_intB ?_ | refine g_abs ?_ | refine g_I0 ?_ | refine g_addI ?_ | refine g_U ?_ | refine g_isNn ?_ | refine g_isNi ?_ | refine g_notN ?_ | refine g_notT1 ?_ | refine g_notT2 ?_ | refine g_notT3 ?_ | refine g_notT4 ?_ | refine g_notTb ?_ | refine g_notTi ?_ | refine g_eqI ?_ | refine g_neI ?_ | refine g_neSs ?_ | refine g_neS ?_ | refine g_eqS ?_
    | refine g_iteT ?_ | refine g_iteF ?_ | refine g_iteNT ?_ | refine g_iteNF ?_ | refine g_lst ?_ | refine g_tup ?_ | refine g_seqP ?_ | refine g_sl ?_ | refine g_noPart ?_ | refine g_part ?_ | refine g_yes ?_ | refine g_thenT ?_ | refine g_consG ?_ | refine g_nilG ?_ | refine g_ii ?_ | refine g_par ?_ | refine g_par3 ?_ | refine g_vv ?_ | refine g_vvv ?_ | refine g_reprB ?_ | refine g_lcL ?_ | refine g_lcR ?_
  | ((with_reducible refine g_mod ?_ ?_); (first | omega | decide))
  | ((with_reducible refine g_div ?_ ?_ ?_); (first | omega | decide); (first | assumption | decide))
  | ((with_reducible refine g_mulL ?_ ?_ ?_); (first | omega | decide); (first | omega | decide))
  | ((with_reducible refine g_mulR ?_ ?_ ?_); (first | omega | decide); (first | omega | decide))
  | ((with_reducible refine g_pow ?_ ?_ ?_ ?_); decide; decide; (first | omega | decide))
  | dsimp only)
local macro_rules | `(tactic| walk_at "mf1s") => `(tactic| first
  | ((with_reducible apply g_var); exact rfl)
  | with_reducible first
    | refine g_c ?_ | refine g_op ?_ | refine g_un ?_ | refine g_cb ?_ | refine g_cl ?_ | refine g_clk ?_ | refine g_nil ?_ | refine g_cons ?_
    | refine g_tB ?_ | refine g_test ?_ | refine g_bl ?_ | refine g_and ?_ | refine g_or ?_ | refine g_not ?_ | refine g_andV ?_ | refine g_orV ?_ | refine g_notV ?_
    | refine g_if ?_ | refine g_ifS ?_ | refine g_next ?_ | refine g_ret ?_ | refine g_drop ?_ | refine g_asg ?_ | refine g_name ?_ | refine g_sub ?_
    | refine g_int ?_ | refine g_intB ?_ | refine g_abs ?_ | refine g_I0 ?_ | refine g_addI ?_ | refine g_U ?_ | refine g_isNn ?_ | refine g_isNi ?_ | refine g_notN ?_ | refine g_notT1 ?_ | refine g_notT2 ?_ | refine g_notT3 ?_ | refine g_notT4 ?_ | refine g_notTb ?_ | refine g_notTi ?_ | refine g_eqI ?_ | refine g_neI ?_ | refine g_neSs ?_ | refine g_neS ?_ | refine g_eqS ?_
    | refine g_iteT ?_ | refine g_iteF ?_ | refine g_iteNT ?_ | refine g_iteNF ?_ | refine g_lst ?_ | refine g_tup ?_ | refine g_seqP ?_ | refine g_sl ?_ | refine g_noPart ?_ | refine g_part ?_ | refine g_yes ?_ | refine g_thenT ?_ | refine g_consG ?_ | refine g_nilG ?_ | refine g_ii ?_ | refine g_par ?_ | refine g_par3 ?_ | refine g_vv ?_ | refine g_vvv ?_ | refine g_reprB ?_ | refine g_lcL ?_ | refine g_lcR ?_
  | ((with_reducible refine g_mod ?_ ?_); (first | omega | decide))
  | ((with_reducible refine g_div ?_ ?_ ?_); (first | omega | decide); (first | assumption | decide))
  | ((with_reducible refine g_mulL ?_ ?_ ?_); (first | omega | decide); (first | omega | decide))
  | ((with_reducible refine g_mulR ?_ ?_ ?_); (first | omega | decide); (first | omega | decide))
  | ((with_reducible refine g_pow ?_ ?_ ?_ ?_); decide; decide; (first | omega | decide))
  | dsimp only)
local macro_rules | `(tactic| walk_at "mfs") => `(tactic| repeat walk_at "mf1s")
local macro_rules | `(tactic| walk_at "mf") => `(tactic| repeat walk_at "mf1")
local macro_rules | `(tactic| walk_at "ed") => `(tactic| repeat (first
  | with_reducible first
    | exact eds_nil | apply eds_cons | exact ed_int | exact ed_bl | exact ed_non | apply ed_neg
  | ((with_reducible apply ed_str); decide)
  | ((with_reducible apply ed_var); (exact rfl); (first | assumption | exact Dq.int _))
  | ((with_reducible apply ed_dict0); assumption)
  | ((with_reducible apply ed_dict2); assumption)
  | ((with_reducible apply ed_tup); assumption)
  | ((with_reducible apply ed_lst); assumption)
  | (with_reducible apply ed_pow)
  | (with_reducible apply ed_mul)
  | assumption
  | (exact Dq.int _)
  | (exact ⟨by decide, by decide, by decide⟩)
  | (show List.length _ ≤ 1000; simp only [List.length_cons, List.length_nil]; decide)))
def sp_isl : Sp := fun vs H Q _ => ∃ (v : V) (N : Addr → Prop) (t : Tr), vs = [v] ∧ Vt N H v t ∧ Q (.bl (isSq t)) H
theorem ok_is_list (c : Cn) {a : Ad} (T : Tx c a) : ClO c 1 "is_list" s_is_list ["value"] sp_isl := by
  obtain ⟨P, w, K, mg, base⟩ := c
  refine De.clO (N := ["value"]) T.d_is_list sc_is_list (fun vs H Q E h => ?_) (fun f0 cdv A outer s H vs Q E hr h => ?_)
  · obtain ⟨v, N, t, rfl, _⟩ := h; rfl
  · have S := sc_is_list
    obtain ⟨v, N, t, rfl, hv, k⟩ := h
    refine ⟨_, (pss_one (ps_ret (pe_isSeq (by rfl) T.n_isinstance (by rfl) T.n_list (by rfl) T.n_tuple (pv 0)))), ?_⟩
    refine g_ret ?_
    exact g_var (v := v) rfl (isT hv k)
theorem st_fixed (c : Cn) {a : Ad} (T : Tx c a) {m n : Nat} (C_is_list : ClO c 1 "is_list" s_is_list ["value"] sp_isl) (C_fixed : ClO c (m + 2) "fixed" s_fixed ["value"] (spRF n)) : ClO c (m + 3) "fixed" s_fixed ["value"] (spF n) := by
  obtain ⟨P, w, K, mg, base⟩ := c
  refine De.clO (N := ["value", "item"]) T.d_fixed sc_fixed (fun vs H Q E h => ?_) (fun f0 cdv A outer s H vs Q E hr h => ?_)
  · obtain ⟨v, N, t, rfl, _⟩ := h; rfl
  · have S := sc_fixed
    obtain ⟨v, N, t, rfl, hN, hv, ho, k⟩ := h
    refine ⟨_, (pss_cons (ps_if (pt_not (pt_val (pe_fO C_is_list hr (by omega) pl_is_list (by rfl) (pa_cons (pv 0) pa_nil)))) (pss_one (ps_ret (pv 0))) pss_nil)
      (pss_one (ps_ret (pe_tupleOf (by rfl) T.n_tuple (pe_lc (own := [("item", 1)]) (g := gName 1) (tt := tYes) rfl S.nd (pi_or (pi_list (pv 0)) (pi_tup (pv 0))) (blkOk_by (N := ["value", "item"]) (sc := defScope s_fixed) (by decide +kernel)) (fun _ _ _ _ _ => pg_name (i := 1) S.nd rfl (Or.inl rfl)) (fun _ _ _ _ _ => pts_nil) (fun _ _ _ _ _ => (pe_fO C_fixed hr (by omega) pl_fixed (by rfl) (pa_cons (pv 1) pa_nil)))))))), ?_⟩
    walk_at "mf"
    refine ⟨v, N, t, rfl, hv, ?_⟩
    cases t with
    | «at» x =>
      rw [show isSq (Tr.at x) = false from rfl]
      walk_at "mf"
      exact k _ H (Same.refl _) hv
    | dct b =>
      rw [show isSq (Tr.dct b) = false from rfl]
      walk_at "mf"
      exact k _ H (Same.refl _) hv
    | lst ts =>
      rw [show isSq (Tr.lst ts) = true from rfl]
      walk_at "mf"
      exact lc_fx (.inl rfl) hN hv ho k
    | tup ts =>
      rw [show isSq (Tr.tup ts) = true from rfl]
      walk_at "mf"
      exact lc_fx (.inr rfl) hN hv ho k
theorem st__law_fixed (c : Cn) {a : Ad} (T : Tx c a) {m n : Nat} (C__law_fixed : Cl c (m + 2) "_law_fixed" s__law_fixed ["value"] (spRF n)) : Cl c (m + 3) "_law_fixed" s__law_fixed ["value"] (spF n) := by
  obtain ⟨P, w, K, mg, base⟩ := c
  refine De.cl (N := ["value", "part"]) T.d__law_fixed sc__law_fixed (fun vs H Q E h => ?_) (fun f0 cdv A outer s H vs Q E hA hr h => ?_)
  · obtain ⟨v, N, t, rfl, _⟩ := h; rfl
  · have S := sc__law_fixed
    obtain ⟨v, N, t, rfl, hN, hv, ho, k⟩ := h
    refine ⟨_, (pss_one (ps_ret (pe_ifExp (pt_val (pe_isSeq (by rfl) T.n_isinstance (by rfl) T.n_list (by rfl) T.n_tuple (pv 0))) (pe_tupleOf (by rfl) T.n_tuple (pe_lc (own := [("part", 1)]) (g := gName 1) (tt := tYes) rfl S.nd (pi_or (pi_list (pv 0)) (pi_tup (pv 0))) (blkOk_by (N := ["value", "part"]) (sc := defScope s__law_fixed) (by decide +kernel)) (fun _ _ _ _ _ => pg_name (i := 1) S.nd rfl (Or.inl rfl)) (fun _ _ _ _ _ => pts_nil) (fun _ _ _ _ _ => (pe_f C__law_fixed hA hr (by omega) pl__law_fixed (by rfl) (pa_cons (pv 1) pa_nil))))) (pv 0)))), ?_⟩
    walk_at "mf"
    refine isT hv ?_
    cases t with
    | «at» x =>
      rw [show isSq (Tr.at x) = false from rfl]
      walk_at "mf"
      exact k _ H (Same.refl _) hv
    | dct b =>
      rw [show isSq (Tr.dct b) = false from rfl]
      walk_at "mf"
      exact k _ H (Same.refl _) hv
    | lst ts =>
      rw [show isSq (Tr.lst ts) = true from rfl]
      walk_at "mf"
      exact lc_fx (.inl rfl) hN hv ho k
    | tup ts =>
      rw [show isSq (Tr.tup ts) = true from rfl]
      walk_at "mf"
      exact lc_fx (.inr rfl) hN hv ho k
theorem al_fixed (c : Cn) {a : Ad} (T : Tx c a) : ∀ n, ClO c (n + 3) "fixed" s_fixed ["value"] (spF n)
  | 0 => st_fixed c T (m := 0) (n := 0) (ok_is_list c T) (De.noneO 1 T.d_fixed sc_fixed)
  | n + 1 => st_fixed c T (m := n + 1) (n := n + 1) (ok_is_list c T) (al_fixed c T n)
theorem ok_fixed (c : Cn) {a : Ad} (T : Tx c a) : ClO c 9 "fixed" s_fixed ["value"] (spF 6) := al_fixed c T 6
theorem al__law_fixed (c : Cn) {a : Ad} (T : Tx c a) : ∀ n, Cl c (n + 3) "_law_fixed" s__law_fixed ["value"] (spF n)
  | 0 => st__law_fixed c T (m := 0) (n := 0) (De.noneG 1 T.d__law_fixed sc__law_fixed)
  | n + 1 => st__law_fixed c T (m := n + 1) (n := n + 1) (al__law_fixed c T n)
theorem ok__law_fixed (c : Cn) {a : Ad} (T : Tx c a) : Cl c 9 "_law_fixed" s__law_fixed ["value"] (spF 6) := al__law_fixed c T 6
end Mf
namespace Mf
open PySem PySem.Spec PyProof.Rows L2
local macro_rules | `(tactic| walk_at "mf1") => `(tactic| first
  | ((with_reducible apply g_var); exact rfl)
  | with_reducible first
    | refine g_c ?_ | refine g_op ?_ | refine g_un ?_ | refine g_cb ?_ | refine g_cl ?_ | refine g_clk ?_ | refine g_nil ?_ | refine g_cons ?_
    | refine g_tB ?_ | refine g_test ?_ | refine g_bl ?_ | refine g_and ?_ | refine g_or ?_ | refine g_not ?_ | refine g_andV ?_ | refine g_orV ?_ | refine g_notV ?_
    | refine g_if ?_ | refine g_ifS ?_ | refine g_seq ?_ | refine g_next ?_ | refine g_ret ?_ | refine g_drop ?_ | refine g_asg ?_ | refine g_name ?_ | refine g_sub ?_
    | refine g_int ?_ | refine g_intB ?_ | refine g_abs ?_ | refine g_I0 ?_ | refine g_addI ?_ | refine g_U ?_ | refine g_isNn ?_ | refine g_isNi ?_ | refine g_notN ?_ | refine g_notT1 ?_ | refine g_notT2 ?_ | refine g_notT3 ?_ | refine g_notT4 ?_ | refine g_notTb ?_ | refine g_notTi ?_ | refine g_eqI ?_ | refine g_neI ?_ | refine g_neSs ?_ | refine g_neS ?_ | refine g_eqS ?_
    | refine g_iteT ?_ | refine g_iteF ?_ | refine g_iteNT ?_ | refine g_iteNF ?_ | refine g_lst ?_ | refine g_tup ?_ | refine g_seqP ?_ | refine g_sl ?_ | refine g_noPart ?_ | refine g_part ?_ | refine g_yes ?_ | refine g_thenT ?_ | refine g_consG ?_ | refine g_nilG ?_ | refine g_ii ?_ | refine g_par ?_ | refine g_par3 ?_ | refine g_vv ?_ | refine g_vvv ?_ | refine g_reprB ?_ | refine g_lcL ?_ | refine g_lcR ?_
  | ((with_reducible refine g_mod ?_ ?_); (first | omega | decide))
  | ((with_reducible refine g_div ?_ ?_ ?_); (first | omega | decide); (first | assumption | decide))
  | ((with_reducible refine g_mulL ?_ ?_ ?_); (first | omega | decide); (first | omega | decide))
  | ((with_reducible refine g_mulR ?_ ?_ ?_); (first | omega | decide); (first | omega | decide))
  | ((with_reducible refine g_pow ?_ ?_ ?_ ?_); decide; decide; (first | omega | decide))
  | dsimp only)
local macro_rules | `(tactic| walk_at "mf1s") => `(tactic| first
  | ((with_reducible apply g_var); exact rfl)
  | with_reducible first
    | refine g_c ?_ | refine g_op ?_ | refine g_un ?_ | refine g_cb ?_ | refine g_cl ?_ | refine g_clk ?_ | refine g_nil ?_ | refine g_cons ?_
    | refine g_tB ?_ | refine g_test ?_ | refine g_bl ?_ | refine g_and ?_ | refine g_or ?_ | refine g_not ?_ | refine g_andV ?_ | refine g_orV ?_ | refine g_notV ?_
    | refine g_if ?_ | refine g_ifS ?_ | refine g_next ?_ | refine g_ret ?_ | refine g_drop ?_ | refine g_asg ?_ | refine g_name ?_ | refine g_sub ?_
    | refine g_int ?_ | refine g_intB ?_ | refine g_abs ?_ | refine g_I0 ?_ | refine g_addI ?_ | refine g_U ?_ | refine g_isNn ?_ | refine g_isNi ?_ | refine g_notN ?_ | refine g_notT1 ?_ | refine g_notT2 ?_ | refine g_notT3 ?_ | refine g_notT4 ?_ | refine g_notTb ?_ | refine g_notTi ?_ | refine g_eqI ?_ | refine g_neI ?_ | refine g_neSs ?_ | refine g_neS ?_ | refine g_eqS ?_
    | refine g_iteT ?_ | refine g_iteF ?_ | refine g_iteNT ?_ | refine g_iteNF ?_ | refine g_lst ?_ | refine g_tup ?_ | refine g_seqP ?_ | refine g_sl ?_ | refine g_noPart ?_ | refine g_part ?_ | refine g_yes ?_ | refine g_thenT ?_ | refine g_consG ?_ | refine g_nilG ?_ | refine g_ii ?_ | refine g_par ?_ | refine g_par3 ?_ | refine g_vv ?_ | refine g_vvv ?_ | refine g_reprB ?_ | refine g_lcL ?_ | refine g_lcR ?_
  | ((with_reducible refine g_mod ?_ ?_); (first | omega | decide))
  | ((with_reducible refine g_div ?_ ?_ ?_); (first | omega | decide); (first | assumption | decide))
  | ((with_reducible refine g_mulL ?_ ?_ ?_); (first | omega | decide); (first | omega | decide))
  | ((with_reducible refine g_mulR ?_ ?_ ?_); (first | omega | decide); (first | omega | decide))
  | ((with_reducible refine g_pow ?_ ?_ ?_ ?_); decide; decide; (first | omega | decide))
  | dsimp only)
local macro_rules | `(tactic| walk_at "mfs") => `(tactic| repeat walk_at "mf1s")
local macro_rules | `(tactic| walk_at "mf") => `(tactic| repeat walk_at "mf1")
local macro_rules | `(tactic| walk_at "ed") => `(tactic| repeat (first
  | with_reducible first
    | exact eds_nil | apply eds_cons | exact ed_int | exact ed_bl | exact ed_non | apply ed_neg
  | ((with_reducible apply ed_str); decide)
  | ((with_reducible apply ed_var); (exact rfl); (first | assumption | exact Dq.int _))
  | ((with_reducible apply ed_dict0); assumption)
  | ((with_reducible apply ed_dict2); assumption)
  | ((with_reducible apply ed_tup); assumption)
  | ((with_reducible apply ed_lst); assumption)
  | (with_reducible apply ed_pow)
  | (with_reducible apply ed_mul)
  | assumption
  | (exact Dq.int _)
  | (exact ⟨by decide, by decide, by decide⟩)
  | (show List.length _ ≤ 1000; simp only [List.length_cons, List.length_nil]; decide)))
def Bv : Nat → Int
  | 0 => 4
  | n + 1 => 3 * Bv n + 5
theorem Bv_pos : ∀ n, 4 ≤ Bv n
  | 0 => by decide
  | n + 1 => by
    have := Bv_pos n
    show 4 ≤ 3 * Bv n + 5
    omega
/-- a drawn value of at most n levels -/
def spV (K : PySem.W.Frag) (n : Nat) : Sp := fun vs H Q _ => ∃ (q : Addr) (t : Int) (N : Addr → Prop), vs = [.ref q, .int n] ∧ Qy K q t H ∧ t + Bv n ≤ 1000000 ∧ N q ∧ (∀ a, N a → H a ≠ none) ∧
  ∀ t' H' v u, SameX q H H' → Qy K q t' H' → t ≤ t' → t' ≤ t + Bv n → Vt N H' v u → Ok n u → Q v H'
def spRV (K : PySem.W.Frag) : Nat → Sp
  | 0 => fun _ _ _ _ => False
  | n + 1 => spV K n
theorem Qy.nz {K : PySem.W.Frag} {q : Addr} {t : Int} {H : Hp} (h : Qy K q t H) : H q ≠ none := by
  obtain ⟨o, e⟩ := h.at
  rw [e]
  exact Option.some_ne_none _
theorem SameX.nz {K : PySem.W.Frag} {q a : Addr} {t : Int} {H H' : Hp} (s : SameX q H H') (hq : Qy K q t H') (h : H a ≠ none) : H' a ≠ none := by
  by_cases e : a = q
  · subst e
    exact hq.nz
  · cases z : H a with
    | none => exact absurd z h
    | some o =>
      rw [s.kept _ _ e z]
      exact Option.some_ne_none _
theorem okA_big : okA (.int (10 ^ (20 : Int).toNat)) = true := by decide +kernel
theorem ok_at : ∀ (n : Nat) (v : V), Ok n (.at v)
  | 0, _ => trivial
  | _ + 1, _ => trivial
theorem ok_dct : ∀ (n : Nat) (a : Addr), Ok n (.dct a)
  | 0, _ => trivial
  | _ + 1, _ => trivial
theorem mem8 {x a0 a1 a2 a3 a4 a5 a6 a7 : V} (h : x ∈ [a0, a1, a2, a3, a4, a5, a6, a7]) : x = a0 ∨ x = a1 ∨ x = a2 ∨ x = a3 ∨ x = a4 ∨ x = a5 ∨ x = a6 ∨ x = a7 := by
  simpa using h
theorem g_then1 {ta : TE} {k : V → Hp → VK → Prop} {σ : L2.St} {H : Hp} {Q : VK} (q : ta σ H fun x H1 => k x H1 Q) : tThen ta k σ H Q := q
theorem g_dctA {σ : L2.St} {H : Hp} {Q : VK} (k : ∀ p l H', H p = none → H l = none → l ≠ sysModules → Same H H' → H' p = some (.dK [(keyA, .ref l)]) → H' l = some (.lst [.int 1]) → Q (.ref p) H') :
    tDisp [(tC (.str (Str.ofString "a")), tLstS (tCons (tC (.int 1)) tNil))] σ H Q := by
  intro p hp
  refine ⟨by show 1 ≤ sizeLine; decide, fun l hl nl => ?_⟩
  have ne : p ≠ l := ne_of_none upd_same hl
  have hl0 : H l = none := by
    rw [upd_ne ne.symm] at hl
    exact hl
  have s1 : Same (upd H p (.dK [])) (upd (upd H p (.dK [])) l (.lst [.int 1])) := same_new hl
  refine ⟨s1 _ _ upd_same, [(keyA, .ref l)], rfl, by show 1 ≤ 15; decide, ?_⟩
  refine k p l _ hp hl0 nl (fun b o e => ?_) upd_same ?_
  · rw [upd_ne (ne_of_none e hp), upd_ne (ne_of_none e hl0), upd_ne (ne_of_none e hp)]
    exact e
  · rw [upd_ne ne.symm, upd_same]
theorem st__law_value (c : Cn) {a : Ad} (T : Tx c a) {m n : Nat} (C__law_value : Cl c (m + 3) "_law_value" s__law_value ["quay", "deep"] (spRV c.K n)) : Cl c (m + 4) "_law_value" s__law_value ["quay", "deep"] (spV c.K n) := by
  obtain ⟨P, w, K, mg, base⟩ := c
  have C__law_moor := ok__law_moor _ T
  have C__law_pick := ok__law_pick _ T
  refine De.cl (N := ["quay", "deep", "way", "parts", "turn"]) T.d__law_value sc__law_value (fun vs H Q E h => ?_) (fun f0 cdv A outer s H vs Q E hA hr h => ?_)
  · obtain ⟨q, t, N, rfl, _⟩ := h; rfl
  · have S := sc__law_value
    obtain ⟨q, t, N, rfl, hq, ht, Nq, hN, k⟩ := h
    have hB := Bv_pos n
    refine ⟨_, (pss_cons (ps_set (i := 2) S.nd rfl (by first | exact .inl rfl | exact .inr rfl) (pe_f C__law_moor hA hr (by omega) pl__law_moor (by rfl) (pa_cons (pv 0) (pa_cons (pe_ifExp (pt_cmpR op_gt (pv 1) pe_int (nomark _)) pe_int pe_int) pa_nil))))
      (pss_cons (ps_if (pt_cmpR op_gt (pv 2) pe_int (nomark _)) (pss_cons (ps_setLc (i := 3) (own := [("turn", 4)]) (g := gName 4) (tt := tYes) rfl S.nd rfl rfl (sw_true rfl rfl rfl (by decide +kernel)) (pi_range1 rfl T.n_range (pa_cons (pe_f C__law_moor hA hr (by omega) pl__law_moor (by rfl) (pa_cons (pv 0) (pa_cons pe_int pa_nil))) pa_nil)) (blkOk_by (N := ["quay", "deep", "way", "parts", "turn"]) (sc := defScope s__law_value) (by decide +kernel)) (fun _ _ _ _ _ => pg_name (i := 4) S.nd rfl (Or.inl rfl)) (fun _ _ _ _ _ => pts_nil) (fun _ _ _ _ _ => (pe_f C__law_value hA hr (by omega) pl__law_value (by rfl) (pa_cons (pv 0) (pa_cons (pe_op op_sub (pv 1) pe_int) pa_nil)))))
      (pss_one (ps_ret (pe_ifExp (pt_cmpR (op_eqU hr.units) (pv 2) pe_int (nomark _)) (pv 3) (pe_tupleOf (by rfl) T.n_tuple (pv 3)))))) pss_nil)
      (pss_one (ps_ret (pe_f C__law_pick hA hr (by omega) pl__law_pick (by rfl) (pa_cons (pv 0) (pa_cons (pe_lst (pa_cons pe_non (pa_cons pe_bl (pa_cons pe_int (pa_cons (pe_un un_neg pe_int) (pa_cons pe_str (pa_cons (pe_op op_pow pe_int pe_int) (pa_cons (pe_f C__law_moor hA hr (by omega) pl__law_moor (by rfl) (pa_cons (pv 0) (pa_cons pe_int pa_nil))) (pa_cons (pe_disp (pps_cons pe_str (pe_lstS (pa_cons pe_int pa_nil)) pps_nil) (by rfl) (by rfl) (fun z => by cases z) (by decide)) pa_nil))))))))) pa_nil))))))), ?_⟩
    walk_at "mf"
    refine g_ite (fun h => ?_) (fun h => ?_)
    · have hn0 : (0 : Int) < n := of_decide_eq_true h
      obtain ⟨n1, rfl⟩ : ∃ n1, n = n1 + 1 := ⟨n - 1, by omega⟩
      have hB2 : Bv (n1 + 1) = 3 * Bv n1 + 5 := rfl
      have hB1 := Bv_pos n1
      walk_at "mf"
      refine ⟨q, t, 9, rfl, hq, by omega, by decide, by decide, fun t1 H1 i sx1 hq1 l1 u1 i0 i1 => ?_⟩
      walk_at "mf"
      by_cases h5 : (5 : Int) < i
      · rw [decide_eq_true h5]
        walk_at "mf"
        refine ⟨q, t1, 4, rfl, hq1, by omega, by decide, by decide, fun t2 H2 j sx2 hq2 l2 u2 j0 j1 => ?_⟩
        walk_at "mf"
        refine ⟨j, rfl, by omega, by omega, ?_⟩
        refine lcgo_range (n := j.toNat) (fun D i' G => SameX q H2 G ∧ ∃ acc us t3, G D = some (.lst acc) ∧ Qy K q t3 G ∧ Qn q D G ∧ t2 ≤ t3 ∧ t3 ≤ t2 + (i' : Int) * Bv n1 ∧ acc.length = i' ∧ VtAll (Nd N D) G acc us ∧ ∀ u ∈ us, Ok n1 u) (fun x => rfl) (fun D hD => ?_) (fun D i' G hD hi hP => ?_) (fun D G hD hP => ?_)
        · have s0 : Same H2 (upd H2 D (.lst [])) := same_new hD
          exact ⟨Same.x s0, [], [], t2, upd_same, hq2.same s0, (Qn.new hq2 hD).go hq2 (Same.x s0), by omega, by omega, rfl, .nil, fun u z => nomatch z⟩
        · obtain ⟨sx3, acc, us, t3, e3, hq3, qn3, la, ua, len, hv3, ho3⟩ := hP
          have Dq : D ≠ q := hq2.ne hD
          have hi2 : i' ≤ 2 := by omega
          have mb : (i' : Int) * Bv n1 ≤ 2 * Bv n1 := Int.mul_le_mul_of_nonneg_right (by omega) (by omega)
          walk_at "mf"
          rw [show ((n1 + 1 : Nat) : Int) - 1 = (n1 : Int) by omega]
          refine ⟨q, t3, Nd N D, rfl, hq3, by omega, .inl Nq, fun b z => ?_, fun t4 G2 v u sx4 hq4 l4 u4 hv hu => ?_⟩
          · rcases z with z | rfl
            · exact ((sx1.trans sx2).trans sx3).nz hq3 (hN b z)
            · rw [e3]
              exact Option.some_ne_none _
          · have sxA := sx3.trans sx4
            have qn4 := qn3.go hq3 sx4
            refine ⟨acc, sx4.kept _ _ Dq e3, small1000 (by omega), ⟨fun b o nb e => ?_, fun c t r e => ?_⟩, acc ++ [v], us ++ [u], t4, upd_same, hq4.upd qn4 Dq, Qn.upd hq4 qn4 Dq, by omega, ?_, by rw [List.length_append, len]; rfl, ((hv3.go (sx4.kn (.inl Nq))).app (.cons hv .nil)).go kp_upd, fun w hw => ?_⟩
            · rw [upd_ne (ne_of_none e hD)]
              exact sxA.kept b o nb e
            · rw [upd_ne Dq.symm]
              exact sxA.cell c t r e
            · rw [show ((i' + 1 : Nat) : Int) * Bv n1 = (i' : Int) * Bv n1 + Bv n1 by rw [Int.natCast_add, Int.add_mul]; simp]
              omega
            · rcases List.mem_append.mp hw with z | z
              · exact ho3 w z
              · rw [List.mem_singleton.mp z]
                exact hu
        · obtain ⟨sx3, acc, us, t3, e3, hq3, qn3, la, ua, len, hv3, ho3⟩ := hP
          have mb : ((j.toNat : Nat) : Int) * Bv n1 ≤ 3 * Bv n1 := Int.mul_le_mul_of_nonneg_right (by omega) (by omega)
          have nD : ¬ N D := fun z => ((sx1.trans sx2).nz hq2 (hN D z)) hD
          have sxE : SameX q H G := (sx1.trans sx2).trans sx3
          have lu : us.length ≤ 4 := by
            rw [← hv3.len, len]
            omega
          walk_at "mf"
          refine g_ite (fun h6 => ?_) (fun h6 => ?_)
          · walk_at "mf"
            exact k t3 G (.ref D) (.lst us) sxE hq3 (by omega) (by omega) (.lst nD e3 hv3.dn) ⟨lu, ho3⟩
          · walk_at "mf"
            refine g_then1 (g_var (v := .ref D) rfl ?_)
            refine .inl ⟨D, acc, rfl, seqU e3, fun p hp => ?_⟩
            have nP : ¬ N p := fun z => (sxE.nz hq3 (hN p z)) hp
            exact k t3 _ (.ref p) (.tup us) (sxE.trans (Same.x (same_new hp))) (hq3.same (same_new hp)) (by omega) (by omega) (.tup nP upd_same (hv3.dn.go (kp_new hp))) ⟨lu, ho3⟩
      rw [decide_eq_false h5]
      walk_at "mf"
      refine ⟨q, t1, 9, rfl, hq1, by omega, by decide, by decide, fun t2 H2 d sx2 hq2 l2 u2 d0 d1 => ?_⟩
      walk_at "mf"
      refine g_dctA fun p l H3 np nl ms s3 e3 f3 => ?_
      walk_at "mf"
      refine g_newL (by show 8 ≤ sizeLine; decide) fun m H4 nm s4 e4 => ?_
      have hq3 := hq2.same s3
      have hq4 := hq3.same s4
      walk_at "mf"
      refine ⟨q, m, t2, _, rfl, hq4, by omega, hq3.ne nm, .inl (seqU e4), (fun z => nomatch z), (by show 8 ≤ 1000; decide), fun t5 H5 x sx5 hq5 l5 u5 hx => ?_⟩
      have sx : SameX q H H5 := ((sx1.trans sx2).trans (Same.x (s3.trans s4))).trans sx5
      have pf : ∀ b, H2 b = none → ¬ N b := fun b e z => ((sx1.trans sx2).nz hq2 (hN b z)) e
      have go : ∀ u, Vt N H5 x u → Ok (n1 + 1) u → Q x H5 := fun u h1 h2 => k t5 H5 x u sx hq5 (by omega) (by omega) h1 h2
      rcases mem8 hx with rfl | rfl | rfl | rfl | rfl | rfl | rfl | rfl
      · exact go _ (.at rfl) (ok_at _ _)
      · exact go _ (.at rfl) (ok_at _ _)
      · exact go _ (.at rfl) (ok_at _ _)
      · exact go _ (.at rfl) (ok_at _ _)
      · exact go _ (.at (by decide +kernel)) (ok_at _ _)
      · exact go _ (.at okA_big) (ok_at _ _)
      · exact go _ (.at (decide_eq_true (by omega))) (ok_at _ _)
      · exact go _ (.dct (pf p np) (pf l nl) ms (sx5.kept _ _ (hq2.ne np) (s4 _ _ e3)) (sx5.kept _ _ (hq2.ne nl) (s4 _ _ f3))) (ok_dct _ _)
    · have hn0 : ¬ (0 : Int) < n := of_decide_eq_false h
      walk_at "mf"
      refine ⟨q, t, 6, rfl, hq, by omega, by decide, by decide, fun t1 H1 i sx1 hq1 l1 u1 i0 i1 => ?_⟩
      walk_at "mf"
      rw [show decide (5 < i) = false from decide_eq_false (by omega)]
      walk_at "mf"
      refine ⟨q, t1, 9, rfl, hq1, by omega, by decide, by decide, fun t2 H2 d sx2 hq2 l2 u2 d0 d1 => ?_⟩
      walk_at "mf"
      refine g_dctA fun p l H3 np nl ms s3 e3 f3 => ?_
      walk_at "mf"
      refine g_newL (by show 8 ≤ sizeLine; decide) fun m H4 nm s4 e4 => ?_
      have hq3 := hq2.same s3
      have hq4 := hq3.same s4
      walk_at "mf"
      refine ⟨q, m, t2, _, rfl, hq4, by omega, hq3.ne nm, .inl (seqU e4), (fun z => nomatch z), (by show 8 ≤ 1000; decide), fun t5 H5 x sx5 hq5 l5 u5 hx => ?_⟩
      have sx : SameX q H H5 := ((sx1.trans sx2).trans (Same.x (s3.trans s4))).trans sx5
      have pf : ∀ b, H2 b = none → ¬ N b := fun b e z => ((sx1.trans sx2).nz hq2 (hN b z)) e
      have go : ∀ u, Vt N H5 x u → Ok n u → Q x H5 := fun u h1 h2 => k t5 H5 x u sx hq5 (by omega) (by omega) h1 h2
      rcases mem8 hx with rfl | rfl | rfl | rfl | rfl | rfl | rfl | rfl
      · exact go _ (.at rfl) (ok_at _ _)
      · exact go _ (.at rfl) (ok_at _ _)
      · exact go _ (.at rfl) (ok_at _ _)
      · exact go _ (.at rfl) (ok_at _ _)
      · exact go _ (.at (by decide +kernel)) (ok_at _ _)
      · exact go _ (.at okA_big) (ok_at _ _)
      · exact go _ (.at (decide_eq_true (by omega))) (ok_at _ _)
      · exact go _ (.dct (pf p np) (pf l nl) ms (sx5.kept _ _ (hq2.ne np) (s4 _ _ e3)) (sx5.kept _ _ (hq2.ne nl) (s4 _ _ f3))) (ok_dct _ _)
theorem al__law_value (c : Cn) {a : Ad} (T : Tx c a) : ∀ n, Cl c (n + 4) "_law_value" s__law_value ["quay", "deep"] (spV c.K n)
  | 0 => st__law_value c T (m := 0) (n := 0) (De.noneG 2 T.d__law_value sc__law_value)
  | n + 1 => st__law_value c T (m := n + 1) (n := n + 1) (al__law_value c T n)
end Mf
namespace Mf
open PySem PySem.Spec PyProof.Rows L2
local macro_rules | `(tactic| walk_at "mf1") => `(tactic| first
  | ((with_reducible apply g_var); exact rfl)
  | with_reducible first
    | refine g_c ?_ | refine g_op ?_ | refine g_un ?_ | refine g_cb ?_ | refine g_cl ?_ | refine g_clk ?_ | refine g_nil ?_ | refine g_cons ?_
    | refine g_tB ?_ | refine g_test ?_ | refine g_bl ?_ | refine g_and ?_ | refine g_or ?_ | refine g_not ?_ | refine g_andV ?_ | refine g_orV ?_ | refine g_notV ?_
    | refine g_if ?_ | refine g_ifS ?_ | refine g_seq ?_ | refine g_next ?_ | refine g_ret ?_ | refine g_drop ?_ | refine g_asg ?_ | refine g_name ?_ | refine g_sub ?_
    | refine g_int ?_ | refine g_intB ?_ | refine g_abs ?_ | refine g_I0 ?_ | refine g_addI ?_ | refine g_U ?_ | refine g_isNn ?_ | refine g_isNi ?_ | refine g_notN ?_ | refine g_notT1 ?_ | refine g_notT2 ?_ | refine g_notT3 ?_ | refine g_notT4 ?_ | refine g_notTb ?_ | refine g_notTi ?_ | refine g_eqI ?_ | refine g_neI ?_ | refine g_neSs ?_ | refine g_neS ?_ | refine g_eqS ?_
    | refine g_iteT ?_ | refine g_iteF ?_ | refine g_iteNT ?_ | refine g_iteNF ?_ | refine g_lst ?_ | refine g_tup ?_ | refine g_seqP ?_ | refine g_sl ?_ | refine g_noPart ?_ | refine g_part ?_ | refine g_yes ?_ | refine g_thenT ?_ | refine g_consG ?_ | refine g_nilG ?_ | refine g_ii ?_ | refine g_par ?_ | refine g_par3 ?_ | refine g_vv ?_ | refine g_vvv ?_ | refine g_reprB ?_ | refine g_lcL ?_ | refine g_lcR ?_
  | ((with_reducible refine g_mod ?_ ?_); (first | omega | decide))
  | ((with_reducible refine g_div ?_ ?_ ?_); (first | omega | decide); (first | assumption | decide))
  | ((with_reducible refine g_mulL ?_ ?_ ?_); (first | omega | decide); (first | omega | decide))
  | ((with_reducible refine g_mulR ?_ ?_ ?_); (first | omega | decide); (first | omega | decide))
  | ((with_reducible refine g_pow ?_ ?_ ?_ ?_); decide; decide; (first | omega | decide))
  | dsimp only)
local macro_rules | `(tactic| walk_at "mf1s") => `(tactic| first
  | ((with_reducible apply g_var); exact rfl)
  | with_reducible first
    | refine g_c ?_ | refine g_op ?_ | refine g_un ?_ | refine g_cb ?_ | refine g_cl ?_ | refine g_clk ?_ | refine g_nil ?_ | refine g_cons ?_
    | refine g_tB ?_ | refine g_test ?_ | refine g_bl ?_ | refine g_and ?_ | refine g_or ?_ | refine g_not ?_ | refine g_andV ?_ | refine g_orV ?_ | refine g_notV ?_
    | refine g_if ?_ | refine g_ifS ?_ | refine g_next ?_ | refine g_ret ?_ | refine g_drop ?_ | refine g_asg ?_ | refine g_name ?_ | refine g_sub ?_
    | refine g_int ?_ | refine g_intB ?_ | refine g_abs ?_ | refine g_I0 ?_ | refine g_addI ?_ | refine g_U ?_ | refine g_isNn ?_ | refine g_isNi ?_ | refine g_notN ?_ | refine g_notT1 ?_ | refine g_notT2 ?_ | refine g_notT3 ?_ | refine g_notT4 ?_ | refine g_notTb ?_ | refine g_notTi ?_ | refine g_eqI ?_ | refine g_neI ?_ | refine g_neSs ?_ | refine g_neS ?_ | refine g_eqS ?_
    | refine g_iteT ?_ | refine g_iteF ?_ | refine g_iteNT ?_ | refine g_iteNF ?_ | refine g_lst ?_ | refine g_tup ?_ | refine g_seqP ?_ | refine g_sl ?_ | refine g_noPart ?_ | refine g_part ?_ | refine g_yes ?_ | refine g_thenT ?_ | refine g_consG ?_ | refine g_nilG ?_ | refine g_ii ?_ | refine g_par ?_ | refine g_par3 ?_ | refine g_vv ?_ | refine g_vvv ?_ | refine g_reprB ?_ | refine g_lcL ?_ | refine g_lcR ?_
  | ((with_reducible refine g_mod ?_ ?_); (first | omega | decide))
  | ((with_reducible refine g_div ?_ ?_ ?_); (first | omega | decide); (first | assumption | decide))
  | ((with_reducible refine g_mulL ?_ ?_ ?_); (first | omega | decide); (first | omega | decide))
  | ((with_reducible refine g_mulR ?_ ?_ ?_); (first | omega | decide); (first | omega | decide))
  | ((with_reducible refine g_pow ?_ ?_ ?_ ?_); decide; decide; (first | omega | decide))
  | dsimp only)
local macro_rules | `(tactic| walk_at "mfs") => `(tactic| repeat walk_at "mf1s")
local macro_rules | `(tactic| walk_at "mf") => `(tactic| repeat walk_at "mf1")
local macro_rules | `(tactic| walk_at "ed") => `(tactic| repeat (first
  | with_reducible first
    | exact eds_nil | apply eds_cons | exact ed_int | exact ed_bl | exact ed_non | apply ed_neg
  | ((with_reducible apply ed_str); decide)
  | ((with_reducible apply ed_var); (exact rfl); (first | assumption | exact Dq.int _))
  | ((with_reducible apply ed_dict0); assumption)
  | ((with_reducible apply ed_dict2); assumption)
  | ((with_reducible apply ed_tup); assumption)
  | ((with_reducible apply ed_lst); assumption)
  | (with_reducible apply ed_pow)
  | (with_reducible apply ed_mul)
  | assumption
  | (exact Dq.int _)
  | (exact ⟨by decide, by decide, by decide⟩)
  | (show List.length _ ≤ 1000; simp only [List.length_cons, List.length_nil]; decide)))
theorem in_Paper (c : Cn) {a : Ad} (T : Tx c a) : FnR c.P c.w c.K c.mg c.base CX0 10 a.pi (spStar (sp_init a.P)) := by
  obtain ⟨P, w, K, mg, base⟩ := c
  have C_fixed := ok_fixed _ T
  obtain ⟨fd, W⟩ := T.fi_Paper
  obtain ⟨oc, od, kV, doc, pm, an, cdv, ct, osl, rfl, lk, hcd⟩ := W.ex
  refine StX.fn_star (ps := ["self", "word"]) (pv := "parts") (sp := sp_init a.P) (k := 9) lk hcd sc_Paper0 StX.cxUp_none (StX.bind_star2 (B := fun us => bindArgs _ ⟨us, []⟩) (fun _ _ => rfl) (fun _ _ _ _ => rfl)) (fun A outer s H vs Q E hr h => ?_)
  suffices z : ∃ t, PSs (cxOf CX0 P w K mg base ["self", "word", "parts"] "Paper.__init__" (defScope s_Paper0) a.pi cdv A outer s H E).nox (defBody s_Paper0) t ∧ t { nx := fun _ H' => Q .non H', rt := Q } (start ["self", "word", "parts"] vs) H from by
    obtain ⟨t, h1, h2⟩ := z
    exact ⟨t, h1.nox, h2⟩
  have S := sc_Paper0
  obtain ⟨x, dx, p, wd, xs, ts, N, rfl, hx, hp, hv, ho, hl, hN, np, k⟩ := h
  refine ⟨_, (pss_cons (ps_fld (pv 0) (pv 1) rfl) (pss_one (ps_fld (pv 0) (pe_fO C_fixed hr (by decide) pl_fixed (by rfl) (pa_cons (pv 2) pa_nil)) rfl))), ?_⟩
  have xp : x ≠ p := ne_of hx hp (by intro z; cases z)
  refine ⟨_, rfl, _, rfl, x, a.P, dx, [], rfl, hx, T.ty_Paper.cl, T.nw_Paper, (by show 0 < 1000; decide), ?_⟩
  have kp1 : KpN N H (upd H x (.ins a.P dx (putF "word" (.str wd) []))) := fun b o _ no e => by
    rw [upd_ne (fun z => by subst z; rw [hx] at e; cases e; exact no.elim)]
    exact e
  have hp1 : (upd H x (.ins a.P dx (putF "word" (.str wd) []))) p = some (.tup xs) := by rw [upd_ne xp.symm]; exact hp
  have hx1 : (upd H x (.ins a.P dx (putF "word" (.str wd) []))) x = some (.ins a.P dx (putF "word" (.str wd) [])) := upd_same
  refine g_cl (g_cons (g_var (v := .ref p) rfl (g_nil ?_)))
  refine ⟨.ref p, N, .tup ts, rfl, fun b z => ?_, .tup np hp1 (hv.go kp1), ⟨hl, ho⟩, fun v' H2 s2 hv' => ?_⟩
  · by_cases e : b = x
    · subst e
      rw [upd_same]
      exact Option.some_ne_none _
    · rw [upd_ne e]
      exact hN b z
  · cases hv' with
    | @tup p' ys _ np' e' hy =>
      have hx2 := s2 _ _ hx1
      have xp' : x ≠ p' := ne_of hx2 e' (by intro z; cases z)
      refine ⟨_, rfl, x, a.P, dx, _, rfl, hx2, T.ty_Paper.cl, T.np_Paper, (by show 1 < 1000; decide), ?_⟩
      refine k _ p' ys (fun b o e nb => ?_) ⟨dx, Eq.trans upd_same (congrArg (fun l => some (HO.ins a.P dx l)) (put2 wd p'))⟩ ?_ (hy.go fun b o nb no e => ?_) np'
      · rw [upd_ne nb]
        refine s2 _ _ ?_
        rw [upd_ne nb]
        exact e
      · rw [upd_ne xp'.symm]
        exact e'
      · rw [upd_ne (fun z => by subst z; rw [hx2] at e; cases e; exact no.elim)]
        exact e
theorem eq_Paper (c : Cn) {a : Ad} (T : Tx c a) : FnR c.P c.w c.K c.mg c.base CX0 1 a.pe (spEqI c.K a.P) := by
  obtain ⟨P, w, K, mg, base⟩ := c
  obtain ⟨fd, W⟩ := T.fe_Paper
  refine FnR.ofOk (W.ok (sp := spEqI K a.P) sc_Paper1 (fun vs H Q E h => ?_) (fun cdv A outer s H vs Q E hr h => ?_)) (W.binds (ps := ["self", "other"]) fun _ _ _ _ _ _ us hl => match us, hl with | [_, _], _ => rfl)
  · obtain ⟨x, p, wd, y, rfl, _⟩ := h; rfl
  · have S := sc_Paper1
    obtain ⟨x, p, wd, y, rfl, hx, h⟩ := h
    refine ⟨_, (pss_one (ps_ret (pe_and (pe_cmpR op_isI (pe_callTy call_tyI (by rfl) T.n_type (show bootBuiltins "type" = some (.type "type") by decide +kernel) (pa_cons (pv 0) pa_nil)) (pe_callTy call_tyI (by rfl) T.n_type (show bootBuiltins "type" = some (.type "type") by decide +kernel) (pa_cons (pv 1) pa_nil)) (nomark _)) (pe_and (pe_cmpR (op_eqU hr.units) (pe_fld (pv 0) rfl) (pe_fld (pv 1) rfl) (nomark _)) (pe_one (pe_cmpR (op_eqP hr.units) (pe_fld (pv 0) rfl) (pe_fld (pv 1) rfl) (nomark _))))))), ?_⟩
    walk_at "mf"
    refine .inl ⟨x, a.P, p, wd, rfl, hx, ?_⟩
    walk_at "mf"
    rcases h with ⟨⟨b, D, p', w', rfl, hb, ne, m1, m2⟩ | ⟨n, hn⟩, k⟩ | ⟨b, p', w', rfl, hb, k⟩
    · refine .inl ⟨b, D, p', w', rfl, hb, ?_⟩
      refine .inl ⟨a.P, D, rfl, rfl, .inr ⟨m1, m2⟩, ?_⟩
      rw [decide_eq_false ne]
      walk_at "mf"
      exact k
    · refine .inr ⟨y, n, rfl, hn, ?_⟩
      refine .inr ⟨a.P, n, rfl, rfl, ?_⟩
      walk_at "mf"
      exact k
    · refine .inl ⟨b, a.P, p', w', rfl, hb, ?_⟩
      refine .inl ⟨a.P, a.P, rfl, rfl, .inl rfl, ?_⟩
      rw [decide_eq_true rfl]
      walk_at "mf"
      obtain ⟨dx, hx'⟩ := hx
      obtain ⟨dy, hb'⟩ := hb
      refine ⟨_, rfl, x, a.P, dx, _, _, rfl, hx', T.ty_Paper.cl, T.nw_Paper, lk_word _ _, ?_⟩
      refine ⟨_, rfl, b, a.P, dy, _, _, rfl, hb', T.ty_Paper.cl, T.nw_Paper, lk_word _ _, ?_⟩
      walk_at "mf"
      by_cases e : wd = w'
      · rw [decide_eq_true e]
        rw [if_pos e] at k
        walk_at "mf"
        refine ⟨_, rfl, x, a.P, dx, _, _, rfl, hx', T.ty_Paper.cl, T.np_Paper, lk_parts _ _, ?_⟩
        refine ⟨_, rfl, b, a.P, dy, _, _, rfl, hb', T.ty_Paper.cl, T.np_Paper, lk_parts _ _, ?_⟩
        exact k
      · rw [decide_eq_false e]
        rw [if_neg e] at k
        walk_at "mf"
        exact k
theorem bo_Paper (c : Cn) {a : Ad} (T : Tx c a) : FnR c.P c.w c.K c.mg c.base CX0 1 a.pb (spTruI a.P true) := by
  obtain ⟨P, w, K, mg, base⟩ := c
  obtain ⟨fd, W⟩ := T.fb_Paper
  refine FnR.ofOk (W.ok (sp := spTruI a.P true) sc_Paper2 (fun vs H Q E h => ?_) (fun cdv A outer s H vs Q E hr h => ?_)) (W.binds (ps := ["self"]) fun _ _ _ _ _ _ us hl => match us, hl with | [_], _ => rfl)
  · obtain ⟨x, p, wd, rfl, _⟩ := h; rfl
  · obtain ⟨x, p, wd, rfl, hx, k⟩ := h
    exact ⟨_, pss_one (ps_ret pe_bl), k⟩
theorem ec_Paper {X : Cx} {a : Ad} (T : Tx (cnOf X) a) : EqC X 1 a.P a.pe := ⟨T.eq_Paper.1, T.eq_Paper.2, eq_Paper _ T, fun n h => by
  rcases h with rfl | rfl
  · exact T.nt_Paper
  · exact T.ns_Paper⟩
theorem tc_Paper {X : Cx} {a : Ad} (T : Tx (cnOf X) a) : TruC X 1 a.P a.pb true := ⟨T.bo_Paper.1, T.bo_Paper.2, bo_Paper _ T⟩
theorem nc_Paper {X : Cx} {a : Ad} (T : Tx (cnOf X) a) : NeC X a.P := ⟨T.ne_Paper, T.ty_Paper.mo⟩
theorem in_Denial (c : Cn) {a : Ad} (T : Tx c a) : FnR c.P c.w c.K c.mg c.base CX0 10 a.di (spStar (sp_init a.D)) := by
  obtain ⟨P, w, K, mg, base⟩ := c
  have C_fixed := ok_fixed _ T
  obtain ⟨fd, W⟩ := T.fi_Denial
  obtain ⟨oc, od, kV, doc, pm, an, cdv, ct, osl, rfl, lk, hcd⟩ := W.ex
  refine StX.fn_star (ps := ["self", "word"]) (pv := "parts") (sp := sp_init a.D) (k := 9) lk hcd sc_Denial0 StX.cxUp_none (StX.bind_star2 (B := fun us => bindArgs _ ⟨us, []⟩) (fun _ _ => rfl) (fun _ _ _ _ => rfl)) (fun A outer s H vs Q E hr h => ?_)
  suffices z : ∃ t, PSs (cxOf CX0 P w K mg base ["self", "word", "parts"] "Denial.__init__" (defScope s_Denial0) a.di cdv A outer s H E).nox (defBody s_Denial0) t ∧ t { nx := fun _ H' => Q .non H', rt := Q } (start ["self", "word", "parts"] vs) H from by
    obtain ⟨t, h1, h2⟩ := z
    exact ⟨t, h1.nox, h2⟩
  have S := sc_Denial0
  obtain ⟨x, dx, p, wd, xs, ts, N, rfl, hx, hp, hv, ho, hl, hN, np, k⟩ := h
  refine ⟨_, (pss_cons (ps_fld (pv 0) (pv 1) rfl) (pss_one (ps_fld (pv 0) (pe_fO C_fixed hr (by decide) pl_fixed (by rfl) (pa_cons (pv 2) pa_nil)) rfl))), ?_⟩
  have xp : x ≠ p := ne_of hx hp (by intro z; cases z)
  refine ⟨_, rfl, _, rfl, x, a.D, dx, [], rfl, hx, T.ty_Denial.cl, T.nw_Denial, (by show 0 < 1000; decide), ?_⟩
  have kp1 : KpN N H (upd H x (.ins a.D dx (putF "word" (.str wd) []))) := fun b o _ no e => by
    rw [upd_ne (fun z => by subst z; rw [hx] at e; cases e; exact no.elim)]
    exact e
  have hp1 : (upd H x (.ins a.D dx (putF "word" (.str wd) []))) p = some (.tup xs) := by rw [upd_ne xp.symm]; exact hp
  have hx1 : (upd H x (.ins a.D dx (putF "word" (.str wd) []))) x = some (.ins a.D dx (putF "word" (.str wd) [])) := upd_same
  refine g_cl (g_cons (g_var (v := .ref p) rfl (g_nil ?_)))
  refine ⟨.ref p, N, .tup ts, rfl, fun b z => ?_, .tup np hp1 (hv.go kp1), ⟨hl, ho⟩, fun v' H2 s2 hv' => ?_⟩
  · by_cases e : b = x
    · subst e
      rw [upd_same]
      exact Option.some_ne_none _
    · rw [upd_ne e]
      exact hN b z
  · cases hv' with
    | @tup p' ys _ np' e' hy =>
      have hx2 := s2 _ _ hx1
      have xp' : x ≠ p' := ne_of hx2 e' (by intro z; cases z)
      refine ⟨_, rfl, x, a.D, dx, _, rfl, hx2, T.ty_Denial.cl, T.np_Denial, (by show 1 < 1000; decide), ?_⟩
      refine k _ p' ys (fun b o e nb => ?_) ⟨dx, Eq.trans upd_same (congrArg (fun l => some (HO.ins a.D dx l)) (put2 wd p'))⟩ ?_ (hy.go fun b o nb no e => ?_) np'
      · rw [upd_ne nb]
        refine s2 _ _ ?_
        rw [upd_ne nb]
        exact e
      · rw [upd_ne xp'.symm]
        exact e'
      · rw [upd_ne (fun z => by subst z; rw [hx2] at e; cases e; exact no.elim)]
        exact e
theorem eq_Denial (c : Cn) {a : Ad} (T : Tx c a) : FnR c.P c.w c.K c.mg c.base CX0 1 a.de (spEqI c.K a.D) := by
  obtain ⟨P, w, K, mg, base⟩ := c
  obtain ⟨fd, W⟩ := T.fe_Denial
  refine FnR.ofOk (W.ok (sp := spEqI K a.D) sc_Denial1 (fun vs H Q E h => ?_) (fun cdv A outer s H vs Q E hr h => ?_)) (W.binds (ps := ["self", "other"]) fun _ _ _ _ _ _ us hl => match us, hl with | [_, _], _ => rfl)
  · obtain ⟨x, p, wd, y, rfl, _⟩ := h; rfl
  · have S := sc_Denial1
    obtain ⟨x, p, wd, y, rfl, hx, h⟩ := h
    refine ⟨_, (pss_one (ps_ret (pe_and (pe_cmpR op_isI (pe_callTy call_tyI (by rfl) T.n_type (show bootBuiltins "type" = some (.type "type") by decide +kernel) (pa_cons (pv 0) pa_nil)) (pe_callTy call_tyI (by rfl) T.n_type (show bootBuiltins "type" = some (.type "type") by decide +kernel) (pa_cons (pv 1) pa_nil)) (nomark _)) (pe_and (pe_cmpR (op_eqU hr.units) (pe_fld (pv 0) rfl) (pe_fld (pv 1) rfl) (nomark _)) (pe_one (pe_cmpR (op_eqP hr.units) (pe_fld (pv 0) rfl) (pe_fld (pv 1) rfl) (nomark _))))))), ?_⟩
    walk_at "mf"
    refine .inl ⟨x, a.D, p, wd, rfl, hx, ?_⟩
    walk_at "mf"
    rcases h with ⟨⟨b, D, p', w', rfl, hb, ne, m1, m2⟩ | ⟨n, hn⟩, k⟩ | ⟨b, p', w', rfl, hb, k⟩
    · refine .inl ⟨b, D, p', w', rfl, hb, ?_⟩
      refine .inl ⟨a.D, D, rfl, rfl, .inr ⟨m1, m2⟩, ?_⟩
      rw [decide_eq_false ne]
      walk_at "mf"
      exact k
    · refine .inr ⟨y, n, rfl, hn, ?_⟩
      refine .inr ⟨a.D, n, rfl, rfl, ?_⟩
      walk_at "mf"
      exact k
    · refine .inl ⟨b, a.D, p', w', rfl, hb, ?_⟩
      refine .inl ⟨a.D, a.D, rfl, rfl, .inl rfl, ?_⟩
      rw [decide_eq_true rfl]
      walk_at "mf"
      obtain ⟨dx, hx'⟩ := hx
      obtain ⟨dy, hb'⟩ := hb
      refine ⟨_, rfl, x, a.D, dx, _, _, rfl, hx', T.ty_Denial.cl, T.nw_Denial, lk_word _ _, ?_⟩
      refine ⟨_, rfl, b, a.D, dy, _, _, rfl, hb', T.ty_Denial.cl, T.nw_Denial, lk_word _ _, ?_⟩
      walk_at "mf"
      by_cases e : wd = w'
      · rw [decide_eq_true e]
        rw [if_pos e] at k
        walk_at "mf"
        refine ⟨_, rfl, x, a.D, dx, _, _, rfl, hx', T.ty_Denial.cl, T.np_Denial, lk_parts _ _, ?_⟩
        refine ⟨_, rfl, b, a.D, dy, _, _, rfl, hb', T.ty_Denial.cl, T.np_Denial, lk_parts _ _, ?_⟩
        exact k
      · rw [decide_eq_false e]
        rw [if_neg e] at k
        walk_at "mf"
        exact k
theorem bo_Denial (c : Cn) {a : Ad} (T : Tx c a) : FnR c.P c.w c.K c.mg c.base CX0 1 a.db (spTruI a.D false) := by
  obtain ⟨P, w, K, mg, base⟩ := c
  obtain ⟨fd, W⟩ := T.fb_Denial
  refine FnR.ofOk (W.ok (sp := spTruI a.D false) sc_Denial2 (fun vs H Q E h => ?_) (fun cdv A outer s H vs Q E hr h => ?_)) (W.binds (ps := ["self"]) fun _ _ _ _ _ _ us hl => match us, hl with | [_], _ => rfl)
  · obtain ⟨x, p, wd, rfl, _⟩ := h; rfl
  · obtain ⟨x, p, wd, rfl, hx, k⟩ := h
    exact ⟨_, pss_one (ps_ret pe_bl), k⟩
theorem ec_Denial {X : Cx} {a : Ad} (T : Tx (cnOf X) a) : EqC X 1 a.D a.de := ⟨T.eq_Denial.1, T.eq_Denial.2, eq_Denial _ T, fun n h => by
  rcases h with rfl | rfl
  · exact T.nt_Denial
  · exact T.ns_Denial⟩
theorem tc_Denial {X : Cx} {a : Ad} (T : Tx (cnOf X) a) : TruC X 1 a.D a.db false := ⟨T.bo_Denial.1, T.bo_Denial.2, bo_Denial _ T⟩
theorem nc_Denial {X : Cx} {a : Ad} (T : Tx (cnOf X) a) : NeC X a.D := ⟨T.ne_Denial, T.ty_Denial.mo⟩
theorem epd {X : Cx} {a : Ad} (T : Tx (cnOf X) a) : EqPD X 1 a.P a.D a.pe a.de := ⟨ec_Paper T, ec_Denial T, T.ne, T.mk_Paper.makes, T.mk_Denial.makes, T.sub, T.nD⟩
end Mf
namespace Mf
open PySem PySem.Spec PyProof.Rows L2
local macro_rules | `(tactic| walk_at "mf1") => `(tactic| first
  | ((with_reducible apply g_var); exact rfl)
  | with_reducible first
    | refine g_c ?_ | refine g_op ?_ | refine g_un ?_ | refine g_cb ?_ | refine g_cl ?_ | refine g_clk ?_ | refine g_nil ?_ | refine g_cons ?_
    | refine g_tB ?_ | refine g_test ?_ | refine g_bl ?_ | refine g_and ?_ | refine g_or ?_ | refine g_not ?_ | refine g_andV ?_ | refine g_orV ?_ | refine g_notV ?_
    | refine g_if ?_ | refine g_ifS ?_ | refine g_seq ?_ | refine g_next ?_ | refine g_ret ?_ | refine g_drop ?_ | refine g_asg ?_ | refine g_name ?_ | refine g_sub ?_
    | refine g_int ?_ | refine g_intB ?_ | refine g_abs ?_ | refine g_I0 ?_ | refine g_addI ?_ | refine g_U ?_ | refine g_isNn ?_ | refine g_isNi ?_ | refine g_notN ?_ | refine g_notT1 ?_ | refine g_notT2 ?_ | refine g_notT3 ?_ | refine g_notT4 ?_ | refine g_notTb ?_ | refine g_notTi ?_ | refine g_eqI ?_ | refine g_neI ?_ | refine g_neSs ?_ | refine g_neS ?_ | refine g_eqS ?_
    | refine g_iteT ?_ | refine g_iteF ?_ | refine g_iteNT ?_ | refine g_iteNF ?_ | refine g_lst ?_ | refine g_tup ?_ | refine g_seqP ?_ | refine g_sl ?_ | refine g_noPart ?_ | refine g_part ?_ | refine g_yes ?_ | refine g_thenT ?_ | refine g_consG ?_ | refine g_nilG ?_ | refine g_ii ?_ | refine g_par ?_ | refine g_par3 ?_ | refine g_vv ?_ | refine g_vvv ?_ | refine g_reprB ?_ | refine g_lcL ?_ | refine g_lcR ?_
  | ((with_reducible refine g_mod ?_ ?_); (first | omega | decide))
  | ((with_reducible refine g_div ?_ ?_ ?_); (first | omega | decide); (first | assumption | decide))
  | ((with_reducible refine g_mulL ?_ ?_ ?_); (first | omega | decide); (first | omega | decide))
  | ((with_reducible refine g_mulR ?_ ?_ ?_); (first | omega | decide); (first | omega | decide))
  | ((with_reducible refine g_pow ?_ ?_ ?_ ?_); decide; decide; (first | omega | decide))
  | dsimp only)
local macro_rules | `(tactic| walk_at "mf1s") => `(tactic| first
  | ((with_reducible apply g_var); exact rfl)
  | with_reducible first
    | refine g_c ?_ | refine g_op ?_ | refine g_un ?_ | refine g_cb ?_ | refine g_cl ?_ | refine g_clk ?_ | refine g_nil ?_ | refine g_cons ?_
    | refine g_tB ?_ | refine g_test ?_ | refine g_bl ?_ | refine g_and ?_ | refine g_or ?_ | refine g_not ?_ | refine g_andV ?_ | refine g_orV ?_ | refine g_notV ?_
    | refine g_if ?_ | refine g_ifS ?_ | refine g_next ?_ | refine g_ret ?_ | refine g_drop ?_ | refine g_asg ?_ | refine g_name ?_ | refine g_sub ?_
    | refine g_int ?_ | refine g_intB ?_ | refine g_abs ?_ | refine g_I0 ?_ | refine g_addI ?_ | refine g_U ?_ | refine g_isNn ?_ | refine g_isNi ?_ | refine g_notN ?_ | refine g_notT1 ?_ | refine g_notT2 ?_ | refine g_notT3 ?_ | refine g_notT4 ?_ | refine g_notTb ?_ | refine g_notTi ?_ | refine g_eqI ?_ | refine g_neI ?_ | refine g_neSs ?_ | refine g_neS ?_ | refine g_eqS ?_
    | refine g_iteT ?_ | refine g_iteF ?_ | refine g_iteNT ?_ | refine g_iteNF ?_ | refine g_lst ?_ | refine g_tup ?_ | refine g_seqP ?_ | refine g_sl ?_ | refine g_noPart ?_ | refine g_part ?_ | refine g_yes ?_ | refine g_thenT ?_ | refine g_consG ?_ | refine g_nilG ?_ | refine g_ii ?_ | refine g_par ?_ | refine g_par3 ?_ | refine g_vv ?_ | refine g_vvv ?_ | refine g_reprB ?_ | refine g_lcL ?_ | refine g_lcR ?_
  | ((with_reducible refine g_mod ?_ ?_); (first | omega | decide))
  | ((with_reducible refine g_div ?_ ?_ ?_); (first | omega | decide); (first | assumption | decide))
  | ((with_reducible refine g_mulL ?_ ?_ ?_); (first | omega | decide); (first | omega | decide))
  | ((with_reducible refine g_mulR ?_ ?_ ?_); (first | omega | decide); (first | omega | decide))
  | ((with_reducible refine g_pow ?_ ?_ ?_ ?_); decide; decide; (first | omega | decide))
  | dsimp only)
local macro_rules | `(tactic| walk_at "mfs") => `(tactic| repeat walk_at "mf1s")
local macro_rules | `(tactic| walk_at "mf") => `(tactic| repeat walk_at "mf1")
local macro_rules | `(tactic| walk_at "ed") => `(tactic| repeat (first
  | with_reducible first
    | exact eds_nil | apply eds_cons | exact ed_int | exact ed_bl | exact ed_non | apply ed_neg
  | ((with_reducible apply ed_str); decide)
  | ((with_reducible apply ed_var); (exact rfl); (first | assumption | exact Dq.int _))
  | ((with_reducible apply ed_dict0); assumption)
  | ((with_reducible apply ed_dict2); assumption)
  | ((with_reducible apply ed_tup); assumption)
  | ((with_reducible apply ed_lst); assumption)
  | (with_reducible apply ed_pow)
  | (with_reducible apply ed_mul)
  | assumption
  | (exact Dq.int _)
  | (exact ⟨by decide, by decide, by decide⟩)
  | (show List.length _ ≤ 1000; simp only [List.length_cons, List.length_nil]; decide)))
def sp_made (a : Ad) (K : PySem.W.Frag) : Sp := fun vs H Q _ => ∃ (w : Str) (p : Addr) (xs : List V) (ts : List Tr) (N : Addr → Prop) (d : Bool), vs = [.str w, .ref p, .bl d] ∧ H p = some (.tup xs) ∧ VtAll N H xs ts ∧ (∀ t ∈ ts, Ok 5 t) ∧ ts.length ≤ 3 ∧
  (∀ b, N b → H b ≠ none) ∧ ∀ x p' ys H', Same H H' → Pap H' (if d = true then a.D else a.P) x w p' → H' p' = some (.tup ys) → VtAll N H' ys (Tr.fxs ts) → ¬ N x → ¬ N p' → Q (.ref x) H'
theorem len3 {N : Addr → Prop} {H : Hp} {xs : List V} {ts : List Tr} (h : VtAll N H xs ts) (l : ts.length ≤ 3) : xs = [] ∨ (∃ x, xs = [x]) ∨ (∃ x y, xs = [x, y]) ∨ ∃ x y z, xs = [x, y, z] := by
  have e := h.len
  match xs, e with
  | [], _ => exact .inl rfl
  | [x], _ => exact .inr (.inl ⟨x, rfl⟩)
  | [x, y], _ => exact .inr (.inr (.inl ⟨x, y, rfl⟩))
  | [x, y, z], _ => exact .inr (.inr (.inr ⟨x, y, z, rfl⟩))
  | x :: y :: z :: u :: r, e =>
    simp only [List.length_cons] at e
    omega
theorem ok__law_made (c : Cn) {a : Ad} (T : Tx c a) : Cl c 12 "_law_made" s__law_made ["word", "parts", "is_denial"] (sp_made a c.K) := by
  obtain ⟨P, w, K, mg, base⟩ := c
  refine De.cl (N := ["word", "parts", "is_denial"]) T.d__law_made sc__law_made (fun vs H Q E h => ?_) (fun f0 cdv A outer s H vs Q E hA hr h => ?_)
  · obtain ⟨w, p, xs, ts, N, d, rfl, _⟩ := h; rfl
  · have S := sc__law_made
    obtain ⟨wd, p, xs, ts, N, d, rfl, hp, hv, ho, hl, hN, k⟩ := h
    have I_Paper := in_Paper _ T
    have I_Denial := in_Denial _ T
    refine ⟨_, (pss_cons (ps_if (pt_cmpR (op_eqP hr.units) (pv 1) (pe_tup pa_nil) (nomark _)) (pss_one (ps_ret (pe_ifExp (pt_val (pv 2)) (StX.pe_makeR T.mk_Denial I_Denial (hr.mono (by decide)) (by rfl) T.g_Denial pass0 (pa_cons (pv 0) pa_nil)) (StX.pe_makeR T.mk_Paper I_Paper (hr.mono (by decide)) (by rfl) T.g_Paper pass0 (pa_cons (pv 0) pa_nil))))) pss_nil)
      (pss_cons (ps_if (pt_cmpR (op_eqU hr.units) (pe_callB call_lenU (by rfl) T.n_len PySem.boot_len (pa_cons (pv 1) pa_nil)) pe_int (nomark _)) (pss_one (ps_ret (pe_ifExp (pt_val (pv 2)) (StX.pe_makeR T.mk_Denial I_Denial (hr.mono (by decide)) (by rfl) T.g_Denial pass0 (pa_cons (pv 0) (pa_cons (pe_ix ix_seq (pv 1) pe_int (fun _ _ => rfl)) pa_nil))) (StX.pe_makeR T.mk_Paper I_Paper (hr.mono (by decide)) (by rfl) T.g_Paper pass0 (pa_cons (pv 0) (pa_cons (pe_ix ix_seq (pv 1) pe_int (fun _ _ => rfl)) pa_nil)))))) pss_nil)
      (pss_cons (ps_if (pt_cmpR (op_eqU hr.units) (pe_callB call_lenU (by rfl) T.n_len PySem.boot_len (pa_cons (pv 1) pa_nil)) pe_int (nomark _)) (pss_one (ps_ret (pe_ifExp (pt_val (pv 2)) (StX.pe_makeR T.mk_Denial I_Denial (hr.mono (by decide)) (by rfl) T.g_Denial pass0 (pa_cons (pv 0) (pa_cons (pe_ix ix_seq (pv 1) pe_int (fun _ _ => rfl)) (pa_cons (pe_ix ix_seq (pv 1) pe_int (fun _ _ => rfl)) pa_nil)))) (StX.pe_makeR T.mk_Paper I_Paper (hr.mono (by decide)) (by rfl) T.g_Paper pass0 (pa_cons (pv 0) (pa_cons (pe_ix ix_seq (pv 1) pe_int (fun _ _ => rfl)) (pa_cons (pe_ix ix_seq (pv 1) pe_int (fun _ _ => rfl)) pa_nil))))))) pss_nil)
      (pss_one (ps_ret (pe_ifExp (pt_val (pv 2)) (StX.pe_makeR T.mk_Denial I_Denial (hr.mono (by decide)) (by rfl) T.g_Denial pass0 (pa_cons (pv 0) (pa_cons (pe_ix ix_seq (pv 1) pe_int (fun _ _ => rfl)) (pa_cons (pe_ix ix_seq (pv 1) pe_int (fun _ _ => rfl)) (pa_cons (pe_ix ix_seq (pv 1) pe_int (fun _ _ => rfl)) pa_nil))))) (StX.pe_makeR T.mk_Paper I_Paper (hr.mono (by decide)) (by rfl) T.g_Paper pass0 (pa_cons (pv 0) (pa_cons (pe_ix ix_seq (pv 1) pe_int (fun _ _ => rfl)) (pa_cons (pe_ix ix_seq (pv 1) pe_int (fun _ _ => rfl)) (pa_cons (pe_ix ix_seq (pv 1) pe_int (fun _ _ => rfl)) pa_nil))))))))))), ?_⟩
    have nz : ∀ G, Same H G → ∀ b, N b → G b ≠ none := fun G s b z => by
      cases q : H b with
      | none => exact absurd q (hN b z)
      | some o =>
        rw [s _ _ q]
        exact Option.some_ne_none _
    have finD : d = true → ∀ G, Same H G → MkQ a.D (.str wd :: xs) G Q := fun e G s => made_rd (hv.go (.of s)) ho (by omega) (nz G s) fun x p' ys H' s' h1 h2 h3 h4 h5 => k x p' ys H' (s.trans s') (by rw [if_pos e]; exact h1) h2 h3 h4 h5
    have finP : d = false → ∀ G, Same H G → MkQ a.P (.str wd :: xs) G Q := fun e G s => made_rd (hv.go (.of s)) ho (by omega) (nz G s) fun x p' ys H' s' h1 h2 h3 h4 h5 => k x p' ys H' (s.trans s') (by rw [e, if_neg Bool.false_ne_true]; exact h1) h2 h3 h4 h5
    walk_at "mf"
    refine g_newT (by show 0 ≤ sizeLine; decide) fun e0 H1 n1 s1 e1 => ?_
    have hp1 := s1 _ _ hp
    walk_at "mf"
    refine ⟨p, e0, xs, [], rfl, rfl, hp1, e1, .inl ⟨rfl, ?_⟩⟩
    rcases len3 hv hl with rfl | ⟨x1, rfl⟩ | ⟨x1, x2, rfl⟩ | ⟨x1, x2, x3, rfl⟩
    · rw [show ([] : List V).isEmpty = true from rfl]
      walk_at "mf"
      refine g_ite (fun hd => ?_) (fun hd => ?_)
      · refine g_mkR ?_
        walk_at "mf"
        exact finD hd H1 s1
      · refine g_mkR ?_
        walk_at "mf"
        exact finP hd H1 s1
    · rw [show ([x1] : List V).isEmpty = false from rfl]
      walk_at "mf"
      refine g_len (.inr (tupU hp1)) ?_
      walk_at "mf"
      rw [show decide ((([x1] : List V).length : Int) = 1) = true from rfl]
      walk_at "mf"
      refine g_ite (fun hd => ?_) (fun hd => ?_)
      · refine g_mkR ?_
        walk_at "mf"
        refine g_ix (.inr (tupU hp1)) (v := x1) rfl ?_
        walk_at "mf"
        exact finD hd H1 s1
      · refine g_mkR ?_
        walk_at "mf"
        refine g_ix (.inr (tupU hp1)) (v := x1) rfl ?_
        walk_at "mf"
        exact finP hd H1 s1
    · rw [show ([x1, x2] : List V).isEmpty = false from rfl]
      walk_at "mf"
      refine g_len (.inr (tupU hp1)) ?_
      walk_at "mf"
      rw [show decide ((([x1, x2] : List V).length : Int) = 1) = false from rfl]
      walk_at "mf"
      refine g_len (.inr (tupU hp1)) ?_
      walk_at "mf"
      rw [show decide ((([x1, x2] : List V).length : Int) = 2) = true from rfl]
      walk_at "mf"
      refine g_ite (fun hd => ?_) (fun hd => ?_)
      · refine g_mkR ?_
        walk_at "mf"
        refine g_ix (.inr (tupU hp1)) (v := x1) rfl ?_
        walk_at "mf"
        refine g_ix (.inr (tupU hp1)) (v := x2) rfl ?_
        walk_at "mf"
        exact finD hd H1 s1
      · refine g_mkR ?_
        walk_at "mf"
        refine g_ix (.inr (tupU hp1)) (v := x1) rfl ?_
        walk_at "mf"
        refine g_ix (.inr (tupU hp1)) (v := x2) rfl ?_
        walk_at "mf"
        exact finP hd H1 s1
    · rw [show ([x1, x2, x3] : List V).isEmpty = false from rfl]
      walk_at "mf"
      refine g_len (.inr (tupU hp1)) ?_
      walk_at "mf"
      rw [show decide ((([x1, x2, x3] : List V).length : Int) = 1) = false from rfl]
      walk_at "mf"
      refine g_len (.inr (tupU hp1)) ?_
      walk_at "mf"
      rw [show decide ((([x1, x2, x3] : List V).length : Int) = 2) = false from rfl]
      walk_at "mf"
      refine g_ite (fun hd => ?_) (fun hd => ?_)
      · refine g_mkR ?_
        walk_at "mf"
        refine g_ix (.inr (tupU hp1)) (v := x1) rfl ?_
        walk_at "mf"
        refine g_ix (.inr (tupU hp1)) (v := x2) rfl ?_
        walk_at "mf"
        refine g_ix (.inr (tupU hp1)) (v := x3) rfl ?_
        walk_at "mf"
        exact finD hd H1 s1
      · refine g_mkR ?_
        walk_at "mf"
        refine g_ix (.inr (tupU hp1)) (v := x1) rfl ?_
        walk_at "mf"
        refine g_ix (.inr (tupU hp1)) (v := x2) rfl ?_
        walk_at "mf"
        refine g_ix (.inr (tupU hp1)) (v := x3) rfl ?_
        walk_at "mf"
        exact finP hd H1 s1

end Mf
namespace Mf
open PySem PySem.Spec PyProof.Rows L2
local macro_rules | `(tactic| walk_at "mf1") => `(tactic| first
  | ((with_reducible apply g_var); exact rfl)
  | with_reducible first
    | refine g_c ?_ | refine g_op ?_ | refine g_un ?_ | refine g_cb ?_ | refine g_cl ?_ | refine g_clk ?_ | refine g_nil ?_ | refine g_cons ?_
    | refine g_tB ?_ | refine g_test ?_ | refine g_bl ?_ | refine g_and ?_ | refine g_or ?_ | refine g_not ?_ | refine g_andV ?_ | refine g_orV ?_ | refine g_notV ?_
    | refine g_if ?_ | refine g_ifS ?_ | refine g_seq ?_ | refine g_next ?_ | refine g_ret ?_ | refine g_drop ?_ | refine g_asg ?_ | refine g_name ?_ | refine g_sub ?_
    | refine g_int ?_ | refine g_intB ?_ | refine g_abs ?_ | refine g_I0 ?_ | refine g_addI ?_ | refine g_U ?_ | refine g_isNn ?_ | refine g_isNi ?_ | refine g_notN ?_ | refine g_notT1 ?_ | refine g_notT2 ?_ | refine g_notT3 ?_ | refine g_notT4 ?_ | refine g_notTb ?_ | refine g_notTi ?_ | refine g_eqI ?_ | refine g_neI ?_ | refine g_neSs ?_ | refine g_neS ?_ | refine g_eqS ?_
    | refine g_iteT ?_ | refine g_iteF ?_ | refine g_iteNT ?_ | refine g_iteNF ?_ | refine g_lst ?_ | refine g_tup ?_ | refine g_seqP ?_ | refine g_sl ?_ | refine g_noPart ?_ | refine g_part ?_ | refine g_yes ?_ | refine g_thenT ?_ | refine g_consG ?_ | refine g_nilG ?_ | refine g_ii ?_ | refine g_par ?_ | refine g_par3 ?_ | refine g_vv ?_ | refine g_vvv ?_ | refine g_reprB ?_ | refine g_lcL ?_ | refine g_lcR ?_
  | ((with_reducible refine g_mod ?_ ?_); (first | omega | decide))
  | ((with_reducible refine g_div ?_ ?_ ?_); (first | omega | decide); (first | assumption | decide))
  | ((with_reducible refine g_mulL ?_ ?_ ?_); (first | omega | decide); (first | omega | decide))
  | ((with_reducible refine g_mulR ?_ ?_ ?_); (first | omega | decide); (first | omega | decide))
  | ((with_reducible refine g_pow ?_ ?_ ?_ ?_); decide; decide; (first | omega | decide))
  | dsimp only)
local macro_rules | `(tactic| walk_at "mf1s") => `(tactic| first
  | ((with_reducible apply g_var); exact rfl)
  | with_reducible first
    | refine g_c ?_ | refine g_op ?_ | refine g_un ?_ | refine g_cb ?_ | refine g_cl ?_ | refine g_clk ?_ | refine g_nil ?_ | refine g_cons ?_
    | refine g_tB ?_ | refine g_test ?_ | refine g_bl ?_ | refine g_and ?_ | refine g_or ?_ | refine g_not ?_ | refine g_andV ?_ | refine g_orV ?_ | refine g_notV ?_
    | refine g_if ?_ | refine g_ifS ?_ | refine g_next ?_ | refine g_ret ?_ | refine g_drop ?_ | refine g_asg ?_ | refine g_name ?_ | refine g_sub ?_
    | refine g_int ?_ | refine g_intB ?_ | refine g_abs ?_ | refine g_I0 ?_ | refine g_addI ?_ | refine g_U ?_ | refine g_isNn ?_ | refine g_isNi ?_ | refine g_notN ?_ | refine g_notT1 ?_ | refine g_notT2 ?_ | refine g_notT3 ?_ | refine g_notT4 ?_ | refine g_notTb ?_ | refine g_notTi ?_ | refine g_eqI ?_ | refine g_neI ?_ | refine g_neSs ?_ | refine g_neS ?_ | refine g_eqS ?_
    | refine g_iteT ?_ | refine g_iteF ?_ | refine g_iteNT ?_ | refine g_iteNF ?_ | refine g_lst ?_ | refine g_tup ?_ | refine g_seqP ?_ | refine g_sl ?_ | refine g_noPart ?_ | refine g_part ?_ | refine g_yes ?_ | refine g_thenT ?_ | refine g_consG ?_ | refine g_nilG ?_ | refine g_ii ?_ | refine g_par ?_ | refine g_par3 ?_ | refine g_vv ?_ | refine g_vvv ?_ | refine g_reprB ?_ | refine g_lcL ?_ | refine g_lcR ?_
  | ((with_reducible refine g_mod ?_ ?_); (first | omega | decide))
  | ((with_reducible refine g_div ?_ ?_ ?_); (first | omega | decide); (first | assumption | decide))
  | ((with_reducible refine g_mulL ?_ ?_ ?_); (first | omega | decide); (first | omega | decide))
  | ((with_reducible refine g_mulR ?_ ?_ ?_); (first | omega | decide); (first | omega | decide))
  | ((with_reducible refine g_pow ?_ ?_ ?_ ?_); decide; decide; (first | omega | decide))
  | dsimp only)
local macro_rules | `(tactic| walk_at "mfs") => `(tactic| repeat walk_at "mf1s")
local macro_rules | `(tactic| walk_at "mf") => `(tactic| repeat walk_at "mf1")
local macro_rules | `(tactic| walk_at "ed") => `(tactic| repeat (first
  | with_reducible first
    | exact eds_nil | apply eds_cons | exact ed_int | exact ed_bl | exact ed_non | apply ed_neg
  | ((with_reducible apply ed_str); decide)
  | ((with_reducible apply ed_var); (exact rfl); (first | assumption | exact Dq.int _))
  | ((with_reducible apply ed_dict0); assumption)
  | ((with_reducible apply ed_dict2); assumption)
  | ((with_reducible apply ed_tup); assumption)
  | ((with_reducible apply ed_lst); assumption)
  | (with_reducible apply ed_pow)
  | (with_reducible apply ed_mul)
  | assumption
  | (exact Dq.int _)
  | (exact ⟨by decide, by decide, by decide⟩)
  | (show List.length _ ≤ 1000; simp only [List.length_cons, List.length_nil]; decide)))
section
variable {K : PySem.W.Frag} {σ : L2.St} {H : Hp} {Q : VK} {C x p : Addr} {w : Str} {i : Nat}
theorem g_fldW (e : σ[i]? = some (some (.ref x))) (h : Pap H C x w p) (cl : Cls K C) (n : NoAttr K C "word") (q : Q (.str w) H) : tFld K (tVar i) "word" σ H Q :=
  let ⟨dx, h⟩ := h
  ⟨_, e, x, C, dx, _, _, rfl, h, cl, n, lk_word _ _, q⟩
theorem g_fldP (e : σ[i]? = some (some (.ref x))) (h : Pap H C x w p) (cl : Cls K C) (n : NoAttr K C "parts") (q : Q (.ref p) H) : tFld K (tVar i) "parts" σ H Q :=
  let ⟨dx, h⟩ := h
  ⟨_, e, x, C, dx, _, _, rfl, h, cl, n, lk_parts _ _, q⟩
theorem g_neBl {b : Bool} (q : Q (.bl false) H) : rNeU K (.bl b) (.bl b) H Q := .inl ⟨rfl, by rw [decide_eq_true rfl]; exact q⟩
theorem g_eqT {N : Addr → Prop} {a b : Addr} {xs ys : List V} {ts us : List Tr} (ha : H a = some (.tup xs)) (hb : H b = some (.tup ys)) (hx : VtAll N H xs (Tr.fxs ts)) (hy : VtAll N H ys (Tr.fxs us)) (ot : ∀ t ∈ ts, Ok 5 t) (ou : ∀ t ∈ us, Ok 5 t)
    (e : Tr.fxs ts = Tr.fxs us) (q : Q (.bl true) H) : rEqP (.ref a) (.ref b) H Q := ⟨a, b, xs, ys, rfl, rfl, ha, hb, .inr ⟨N, ts, us, 5, hx, hy, ot, ou, by decide, .inl ⟨e, q⟩⟩⟩
theorem g_eqF {N : Addr → Prop} {a b : Addr} {xs ys : List V} {ts us : List Tr} (ha : H a = some (.tup xs)) (hb : H b = some (.tup ys)) (hx : VtAll N H xs (Tr.fxs ts)) (hy : VtAll N H ys (Tr.fxs us)) (ot : ∀ t ∈ ts, Ok 5 t) (ou : ∀ t ∈ us, Ok 5 t)
    (e : xs.length ≠ ys.length) (q : Q (.bl false) H) : rEqP (.ref a) (.ref b) H Q := ⟨a, b, xs, ys, rfl, rfl, ha, hb, .inr ⟨N, ts, us, 5, hx, hy, ot, ou, by decide, .inr ⟨e, q⟩⟩⟩
theorem g_eqE {a b : Addr} {xs : List V} (ha : H a = some (.tup xs)) (hb : H b = some (.tup [])) (q : Q (.bl xs.isEmpty) H) : rEqP (.ref a) (.ref b) H Q := ⟨a, b, xs, [], rfl, rfl, ha, hb, .inl ⟨rfl, q⟩⟩
theorem g_ifw {w w' : Str} {A : Prop} (h1 : w = w' → A) (q : Q (.bl (decide (w = w'))) H) (h2 : w = w' → Q (.bl (decide (w = w'))) H → A) : if w = w' then A else Q (.bl false) H := by
  by_cases e : w = w'
  · rw [if_pos e]
    exact h1 e
  · rw [if_neg e]
    rw [decide_eq_false e] at q
    exact q
theorem g_ifq {w w' : Str} {x y : V} (h : ∀ Q' : VK, Q' (.bl true) H → rEqP x y H Q') (q : Q (.bl (decide (w = w'))) H) : if w = w' then rEqP x y H Q else Q (.bl false) H := by
  by_cases e : w = w'
  · rw [decide_eq_true e] at q
    rw [if_pos e]
    exact h Q q
  · rw [decide_eq_false e] at q
    rw [if_neg e]
    exact q
theorem g_eqD {N : Addr → Prop} {a b : Addr} {xs ys ds ds' : List V} {ts us : List Tr} (c : (ds' = [] ∧ ds = []) ∨ (ds ≠ [] ∧ ds'.length < ds.length)) (l1 : xs.length = ds'.length) (l2 : ys.length = ds.length)
    (ha : H a = some (.tup xs)) (hb : H b = some (.tup ys)) (hx : VtAll N H xs (Tr.fxs ts)) (hy : VtAll N H ys (Tr.fxs us)) (ot : ∀ t ∈ ts, Ok 5 t) (ou : ∀ t ∈ us, Ok 5 t) (q : Q (.bl ds.isEmpty) H) : rEqP (.ref a) (.ref b) H Q := by
  rcases c with ⟨rfl, rfl⟩ | ⟨n, l⟩
  · have e1 : xs = [] := List.length_eq_zero_iff.mp l1
    have e2 : ys = [] := List.length_eq_zero_iff.mp l2
    subst e1
    subst e2
    exact g_eqE ha hb q
  · cases ds with
    | nil => exact absurd rfl n
    | cons z r => exact g_eqF ha hb hx hy ot ou (by omega) q
/-- t[1:] -/
theorem g_cut1 {N : Addr → Prop} {d : Addr} {ds : List V} {us : List Tr} (ed : H d = some (.tup ds)) (hds : VtAll N H ds (Tr.fxs us))
    (k : ∀ d' ds' us' H', Same H H' → H' d' = some (.tup ds') → VtAll N H' ds' (Tr.fxs us') → us'.length ≤ us.length → (∀ t ∈ us', t ∈ us) → (ds' = [] ∧ ds = []) ∨ (ds ≠ [] ∧ ds'.length < ds.length) → Q (.ref d') H') : rSlA K (.ref d) (some 1) none H Q := by
  refine ⟨d, ds, rfl, tupU ed, fun hw => ?_, fun hw p hp => ?_⟩
  · have e : ds = [] := by
      cases ds with
      | nil => rfl
      | cons x r =>
        have h := hw.1
        have hz : HT.sIx (x :: r).length 0 (some 1) ≠ 0 := by
          simp [HT.sIx]
        exact absurd h hz
    exact k d ds us H (Same.refl _) ed hds (Nat.le_refl _) (fun t h => h) (.inl ⟨e, e⟩)
  · cases ds with
    | nil => exact absurd ⟨by simp [HT.sIx], by simp [HT.sIx]⟩ hw
    | cons x r =>
      cases us with
      | nil => cases hds
      | cons u us =>
        have hds' : VtAll N H (x :: r) (u.fx :: Tr.fxs us) := hds
        cases hds' with
        | cons h1 h2 =>
          have ec : cutV (x :: r) (some 1) none = r := by
            simp [cutV, HT.sIx]
          rw [ec]
          exact k p r us _ (same_new hp) upd_same (h2.go (kp_new hp)) (Nat.le_succ _) (fun t h => List.mem_cons_of_mem _ h) (.inr ⟨(fun z => nomatch z), Nat.lt_succ_self _⟩)
theorem Vt.tupE {N : Addr → Prop} {v : V} {ts : List Tr} (h : Vt N H v (.tup ts)) : ∃ a xs, v = .ref a ∧ ¬ N a ∧ H a = some (.tup xs) ∧ VtAll N H xs ts := by
  cases h with
  | tup n h ha => exact ⟨_, _, rfl, n, h, ha⟩
theorem Pap.go {H' : Hp} (s : Same H H') (h : Pap H C x w p) : Pap H' C x w p :=
  let ⟨dx, h⟩ := h
  ⟨dx, s _ _ h⟩
theorem Same.nz {H H' : Hp} (s : Same H H') {b : Addr} (h : H b ≠ none) : H' b ≠ none := by
  cases z : H b with
  | none => exact absurd z h
  | some o =>
    rw [s _ _ z]
    exact Option.some_ne_none _
end
end Mf
namespace Mf
open PySem PySem.Spec PyProof.Rows L2
local macro_rules | `(tactic| walk_at "mf1") => `(tactic| first
  | ((with_reducible apply g_var); exact rfl)
  | with_reducible first
    | refine g_c ?_ | refine g_op ?_ | refine g_un ?_ | refine g_cb ?_ | refine g_cl ?_ | refine g_clk ?_ | refine g_nil ?_ | refine g_cons ?_
    | refine g_tB ?_ | refine g_test ?_ | refine g_bl ?_ | refine g_and ?_ | refine g_or ?_ | refine g_not ?_ | refine g_andV ?_ | refine g_orV ?_ | refine g_notV ?_
    | refine g_if ?_ | refine g_ifS ?_ | refine g_seq ?_ | refine g_next ?_ | refine g_ret ?_ | refine g_drop ?_ | refine g_asg ?_ | refine g_name ?_ | refine g_sub ?_
    | refine g_int ?_ | refine g_intB ?_ | refine g_abs ?_ | refine g_I0 ?_ | refine g_addI ?_ | refine g_U ?_ | refine g_isNn ?_ | refine g_isNi ?_ | refine g_notN ?_ | refine g_notT1 ?_ | refine g_notT2 ?_ | refine g_notT3 ?_ | refine g_notT4 ?_ | refine g_notTb ?_ | refine g_notTi ?_ | refine g_eqI ?_ | refine g_neI ?_ | refine g_neSs ?_ | refine g_neS ?_ | refine g_eqS ?_
    | refine g_iteT ?_ | refine g_iteF ?_ | refine g_iteNT ?_ | refine g_iteNF ?_ | refine g_lst ?_ | refine g_tup ?_ | refine g_seqP ?_ | refine g_sl ?_ | refine g_noPart ?_ | refine g_part ?_ | refine g_yes ?_ | refine g_thenT ?_ | refine g_consG ?_ | refine g_nilG ?_ | refine g_ii ?_ | refine g_par ?_ | refine g_par3 ?_ | refine g_vv ?_ | refine g_vvv ?_ | refine g_reprB ?_ | refine g_lcL ?_ | refine g_lcR ?_
  | ((with_reducible refine g_mod ?_ ?_); (first | omega | decide))
  | ((with_reducible refine g_div ?_ ?_ ?_); (first | omega | decide); (first | assumption | decide))
  | ((with_reducible refine g_mulL ?_ ?_ ?_); (first | omega | decide); (first | omega | decide))
  | ((with_reducible refine g_mulR ?_ ?_ ?_); (first | omega | decide); (first | omega | decide))
  | ((with_reducible refine g_pow ?_ ?_ ?_ ?_); decide; decide; (first | omega | decide))
  | dsimp only)
local macro_rules | `(tactic| walk_at "mf1s") => `(tactic| first
  | ((with_reducible apply g_var); exact rfl)
  | with_reducible first
    | refine g_c ?_ | refine g_op ?_ | refine g_un ?_ | refine g_cb ?_ | refine g_cl ?_ | refine g_clk ?_ | refine g_nil ?_ | refine g_cons ?_
    | refine g_tB ?_ | refine g_test ?_ | refine g_bl ?_ | refine g_and ?_ | refine g_or ?_ | refine g_not ?_ | refine g_andV ?_ | refine g_orV ?_ | refine g_notV ?_
    | refine g_if ?_ | refine g_ifS ?_ | refine g_next ?_ | refine g_ret ?_ | refine g_drop ?_ | refine g_asg ?_ | refine g_name ?_ | refine g_sub ?_
    | refine g_int ?_ | refine g_intB ?_ | refine g_abs ?_ | refine g_I0 ?_ | refine g_addI ?_ | refine g_U ?_ | refine g_isNn ?_ | refine g_isNi ?_ | refine g_notN ?_ | refine g_notT1 ?_ | refine g_notT2 ?_ | refine g_notT3 ?_ | refine g_notT4 ?_ | refine g_notTb ?_ | refine g_notTi ?_ | refine g_eqI ?_ | refine g_neI ?_ | refine g_neSs ?_ | refine g_neS ?_ | refine g_eqS ?_
    | refine g_iteT ?_ | refine g_iteF ?_ | refine g_iteNT ?_ | refine g_iteNF ?_ | refine g_lst ?_ | refine g_tup ?_ | refine g_seqP ?_ | refine g_sl ?_ | refine g_noPart ?_ | refine g_part ?_ | refine g_yes ?_ | refine g_thenT ?_ | refine g_consG ?_ | refine g_nilG ?_ | refine g_ii ?_ | refine g_par ?_ | refine g_par3 ?_ | refine g_vv ?_ | refine g_vvv ?_ | refine g_reprB ?_ | refine g_lcL ?_ | refine g_lcR ?_
  | ((with_reducible refine g_mod ?_ ?_); (first | omega | decide))
  | ((with_reducible refine g_div ?_ ?_ ?_); (first | omega | decide); (first | assumption | decide))
  | ((with_reducible refine g_mulL ?_ ?_ ?_); (first | omega | decide); (first | omega | decide))
  | ((with_reducible refine g_mulR ?_ ?_ ?_); (first | omega | decide); (first | omega | decide))
  | ((with_reducible refine g_pow ?_ ?_ ?_ ?_); decide; decide; (first | omega | decide))
  | dsimp only)
local macro_rules | `(tactic| walk_at "mfs") => `(tactic| repeat walk_at "mf1s")
local macro_rules | `(tactic| walk_at "mf") => `(tactic| repeat walk_at "mf1")
local macro_rules | `(tactic| walk_at "ed") => `(tactic| repeat (first
  | with_reducible first
    | exact eds_nil | apply eds_cons | exact ed_int | exact ed_bl | exact ed_non | apply ed_neg
  | ((with_reducible apply ed_str); decide)
  | ((with_reducible apply ed_var); (exact rfl); (first | assumption | exact Dq.int _))
  | ((with_reducible apply ed_dict0); assumption)
  | ((with_reducible apply ed_dict2); assumption)
  | ((with_reducible apply ed_tup); assumption)
  | ((with_reducible apply ed_lst); assumption)
  | (with_reducible apply ed_pow)
  | (with_reducible apply ed_mul)
  | assumption
  | (exact Dq.int _)
  | (exact ⟨by decide, by decide, by decide⟩)
  | (show List.length _ ≤ 1000; simp only [List.length_cons, List.length_nil]; decide)))
def sp_law (K : PySem.W.Frag) : Sp := fun vs H Q _ => ∃ (a : Addr) (ns : List Int), vs = [.ref a] ∧ SqL K H a (ns.map V.int) ∧ ns.length ≤ 63 ∧ ∀ H', Q (.bl true) H'
theorem ok_law (c : Cn) {a : Ad} (T : Tx c a) : Cl c 14 "law" s_law ["script"] (sp_law c.K) := by
  obtain ⟨P, w, K, mg, base⟩ := c
  have C__law_fixed := ok__law_fixed _ T
  have C__law_made := ok__law_made _ T
  have C__law_moor := ok__law_moor _ T
  have C__law_pick := ok__law_pick _ T
  have C__law_quay := ok__law_quay _ T
  have C__law_value3 := al__law_value _ T 3
  have C__law_value4 := al__law_value _ T 4
  have C_fixed := ok_fixed _ T
  refine De.cl (N := ["script", "quay", "turn", "word", "other", "parts", "kept", "due", "paper", "denial", "value", "part"]) T.d_law sc_law (fun vs H Q E h => ?_) (fun f0 cdv A outer s H vs Q E hA hr h => ?_)
  · obtain ⟨a, ns, rfl, _⟩ := h; rfl
  · have S := sc_law
    obtain ⟨a0, ns, rfl, hS, hlen, k⟩ := h
    have I_Paper := in_Paper _ T
    refine ⟨_, (pss_cons (ps_set (i := 1) S.nd rfl (by first | exact .inl rfl | exact .inr rfl) (pe_f C__law_quay hA hr (by decide) pl__law_quay (by rfl) (pa_cons (pv 0) pa_nil)))
      (pss_cons (ps_for PassesOwn.never rfl (pi_range1 rfl T.n_range (pa_cons pe_int pa_nil)) (pg_name (i := 2) S.nd rfl (by first | exact .inl rfl | exact .inr rfl)) (pss_cons (ps_par (i := 3) (j := 4) (by rfl) S.nd rfl rfl (by decide) rfl rfl (pa_cons (pe_f C__law_pick hA hr (by decide) pl__law_pick (by rfl) (pa_cons (pv 1) (pa_cons (pe_lst (pa_cons pe_str (pa_cons pe_str (pa_cons pe_str pa_nil)))) pa_nil))) (pa_cons (pe_f C__law_pick hA hr (by decide) pl__law_pick (by rfl) (pa_cons (pv 1) (pa_cons (pe_lst (pa_cons pe_str (pa_cons pe_str pa_nil))) pa_nil))) pa_nil)) (by rfl))
      (pss_cons (ps_set (i := 5) S.nd rfl (by first | exact .inl rfl | exact .inr rfl) (pe_tupleOf (by rfl) T.n_tuple (pe_lc (own := [("part", 11)]) (g := gName 11) (tt := tYes) rfl S.nd (pi_range1 rfl T.n_range (pa_cons (pe_f C__law_moor hA hr (by decide) pl__law_moor (by rfl) (pa_cons (pv 1) (pa_cons pe_int pa_nil))) pa_nil)) (blkOk_by (N := ["script", "quay", "turn", "word", "other", "parts", "kept", "due", "paper", "denial", "value", "part"]) (sc := defScope s_law) (by decide +kernel)) (fun _ _ _ _ _ => pg_name (i := 11) S.nd rfl (Or.inl rfl)) (fun _ _ _ _ _ => pts_nil) (fun _ _ _ _ _ => (pe_f C__law_value3 hA hr (by decide) pl__law_value (by rfl) (pa_cons (pv 1) (pa_cons pe_int pa_nil)))))))
      (pss_cons (ps_par (i := 6) (j := 7) (by rfl) S.nd rfl rfl (by decide) rfl rfl (pa_cons (pe_callB (call_reprT hA hr.units) (by rfl) T.n_repr (show bootBuiltins "repr" = some (.builtin "repr") by decide +kernel) (pa_cons (pv 5) pa_nil)) (pa_cons (pe_f C__law_fixed hA hr (by decide) pl__law_fixed (by rfl) (pa_cons (pv 5) pa_nil)) pa_nil)) (by rfl))
      (pss_cons (ps_par (i := 8) (j := 9) (by rfl) S.nd rfl rfl (by decide) rfl rfl (pa_cons (pe_f C__law_made hA hr (by decide) pl__law_made (by rfl) (pa_cons (pv 3) (pa_cons (pv 5) (pa_cons pe_bl pa_nil)))) (pa_cons (pe_f C__law_made hA hr (by decide) pl__law_made (by rfl) (pa_cons (pv 3) (pa_cons (pv 5) (pa_cons pe_bl pa_nil)))) pa_nil)) (by rfl))
      (pss_cons (ps_if (pt_cmpR (op_neU hr.units) (pe_callB (call_reprTs hA hr.units) (by rfl) T.n_repr (show bootBuiltins "repr" = some (.builtin "repr") by decide +kernel) (pa_cons (pe_lst (pa_cons (pe_fld (pv 8) rfl) (pa_cons (pe_fld (pv 8) rfl) (pa_cons (pe_callTy (call_boolI (tc_Paper T) (tc_Denial T) (hr.mono (by decide))) (by rfl) T.n_bool (show bootBuiltins "bool" = some (.type "bool") by decide +kernel) (pa_cons (pv 8) pa_nil)) (pa_cons (pe_fld (pv 9) rfl) (pa_cons (pe_fld (pv 9) rfl) (pa_cons (pe_callTy (call_boolI (tc_Paper T) (tc_Denial T) (hr.mono (by decide))) (by rfl) T.n_bool (show bootBuiltins "bool" = some (.type "bool") by decide +kernel) (pa_cons (pv 9) pa_nil)) pa_nil))))))) pa_nil)) (pe_callB (call_reprTs hA hr.units) (by rfl) T.n_repr (show bootBuiltins "repr" = some (.builtin "repr") by decide +kernel) (pa_cons (pe_lst (pa_cons (pv 3) (pa_cons (pv 7) (pa_cons pe_bl (pa_cons (pv 3) (pa_cons (pv 7) (pa_cons pe_bl pa_nil))))))) pa_nil)) (nomark _)) (pss_one (ps_ret pe_bl)) pss_nil)
      (pss_cons (ps_if (PW.pt (pw_or (pt_cmpR (op_neU hr.units) (pe_callB (call_reprT hA hr.units) (by rfl) T.n_repr (show bootBuiltins "repr" = some (.builtin "repr") by decide +kernel) (pa_cons (pv 5) pa_nil)) (pv 6) (nomark _)) (pw_or (pt_val (pe_callB call_isi (by rfl) T.n_isinstance (show bootBuiltins "isinstance" = some (.builtin "isinstance") by decide +kernel) (pa_cons (pv 8) (pa_cons (pe_glob (v := .ref a.D) (by rfl) T.g_Denial rfl) pa_nil)))) (pw_or1 (pt_not (pt_val (pe_callB call_isi (by rfl) T.n_isinstance (show bootBuiltins "isinstance" = some (.builtin "isinstance") by decide +kernel) (pa_cons (pv 9) (pa_cons (pe_glob (v := .ref a.P) (by rfl) T.g_Paper rfl) pa_nil))))))))) (pss_one (ps_ret pe_bl)) pss_nil)
      (pss_cons (ps_if (PW.pt (pw_or (pt_cmpR (op_neO (epd T) (nc_Paper T) (nc_Denial T) (hr.mono (by decide))) (pv 8) (pe_f C__law_made hA hr (by decide) pl__law_made (by rfl) (pa_cons (pv 3) (pa_cons (pv 7) (pa_cons pe_bl pa_nil)))) (nomark _)) (pw_or (pt_cmpR (op_neO (epd T) (nc_Paper T) (nc_Denial T) (hr.mono (by decide))) (pv 9) (pe_f C__law_made hA hr (by decide) pl__law_made (by rfl) (pa_cons (pv 3) (pa_cons (pv 7) (pa_cons pe_bl pa_nil)))) (nomark _)) (pw_or (pt_cmpR (op_eqO (epd T) (hr.mono (by decide))) (pv 8) (pv 9) (nomark _)) (pw_or1 (pt_cmpR (op_eqO (epd T) (hr.mono (by decide))) (pv 9) (pv 8) (nomark _))))))) (pss_one (ps_ret pe_bl)) pss_nil)
      (pss_cons (ps_if (PW.pt (pw_or (pt_cmpR (op_neU hr.units) (pe_cmpR (op_eqO (epd T) (hr.mono (by decide))) (pe_f C__law_made hA hr (by decide) pl__law_made (by rfl) (pa_cons (pv 4) (pa_cons (pv 5) (pa_cons pe_bl pa_nil)))) (pv 8) (nomark _)) (pe_cmpR (op_eqU hr.units) (pv 4) (pv 3) (nomark _)) (nomark _)) (pw_or (pt_cmpR (op_eqO (epd T) (hr.mono (by decide))) (pv 8) (pv 7) (nomark _)) (pw_or1 (pt_cmpR (op_eqO (epd T) (hr.mono (by decide))) (pv 8) (pv 3) (nomark _)))))) (pss_one (ps_ret pe_bl)) pss_nil)
      (pss_cons (ps_if (PW.pt (pw_or (pt_cmpR (op_neU hr.units) (pe_cmpR (op_eqO (epd T) (hr.mono (by decide))) (pe_f C__law_made hA hr (by decide) pl__law_made (by rfl) (pa_cons (pv 3) (pa_cons (pe_slice sl_tupA (pv 7) (po_some pe_int) po_none) (pa_cons pe_bl pa_nil)))) (pv 9) (nomark _)) (pe_cmpR (op_eqP hr.units) (pv 7) (pe_tup pa_nil) (nomark _)) (nomark _)) (pw_or1 (pt_cmpR (op_eqO (epd T) (hr.mono (by decide))) (pv 8) (StX.pe_makeR T.mk_Paper I_Paper (hr.mono (by decide)) (by rfl) T.g_Paper pass0 (pa_cons (pv 3) (pa_cons pe_int (pa_cons pe_int (pa_cons pe_int (pa_cons pe_int pa_nil)))))) (nomark _))))) (pss_one (ps_ret pe_bl)) pss_nil)
      (pss_cons (ps_set (i := 10) S.nd rfl (by first | exact .inl rfl | exact .inr rfl) (pe_f C__law_value4 hA hr (by decide) pl__law_value (by rfl) (pa_cons (pv 1) (pa_cons pe_int pa_nil))))
      (pss_one (ps_if (PW.pt (pw_or (pt_cmpR (op_neU hr.units) (pe_callB (call_reprT hA hr.units) (by rfl) T.n_repr (show bootBuiltins "repr" = some (.builtin "repr") by decide +kernel) (pa_cons (pe_fO C_fixed hr (by decide) pl_fixed (by rfl) (pa_cons (pv 10) pa_nil)) pa_nil)) (pe_callB (call_reprT hA hr.units) (by rfl) T.n_repr (show bootBuiltins "repr" = some (.builtin "repr") by decide +kernel) (pa_cons (pe_f C__law_fixed hA hr (by decide) pl__law_fixed (by rfl) (pa_cons (pv 10) pa_nil)) pa_nil)) (nomark _)) (pw_or1 (pt_cmpR (op_neU hr.units) (pe_callB (call_reprT hA hr.units) (by rfl) T.n_repr (show bootBuiltins "repr" = some (.builtin "repr") by decide +kernel) (pa_cons (pe_fk C_fixed.cl hA hr (by decide) pk_fixed relR (lenR rfl) (by rfl) (pk_cons (pv 5) pk_nil)) pa_nil)) (pe_callB (call_reprT hA hr.units) (by rfl) T.n_repr (show bootBuiltins "repr" = some (.builtin "repr") by decide +kernel) (pa_cons (pv 7) pa_nil)) (nomark _))))) (pss_one (ps_ret pe_bl)) pss_nil)))))))))))))
      (pss_one (ps_ret pe_bl)))), ?_⟩
    refine g_seq (g_asg ?_)
    walk_at "mf"
    refine ⟨a0, ns, rfl, hS, hlen, fun q H1 s1 hq0 hq => ?_⟩
    refine g_name (g_seq ?_)
    refine g_for1 ⟨by decide, by decide⟩ (fun i σ' H' => (∃ s2 s3 s4 s5 s6 s7 s8 s9 s10 s11, σ' = [some (.ref a0), some (.ref q), s2, s3, s4, s5, s6, s7, s8, s9, s10, s11]) ∧ ∃ t, Qy K q t H' ∧ t ≤ 2000 * (i : Int)) ⟨⟨_, _, _, _, _, _, _, _, _, _, rfl⟩, 0, hq, by omega⟩ (fun i σ' H' hi hP => ?_) (fun σ' H' hP => ?_)
    · obtain ⟨⟨o2, o3, o4, o5, o6, o7, o8, o9, o10, o11, rfl⟩, t, hqt, htt⟩ := hP
      have hi4 : i < 4 := hi
      walk_at "mf"
      refine g_newL (by show 3 ≤ sizeLine; decide) fun m1 G1 n1 t1 e1 => ?_
      have hq1 := hqt.same t1
      walk_at "mf"
      refine ⟨q, m1, t, _, rfl, hq1, by omega, hqt.ne n1, .inl (seqU e1), (fun z => nomatch z), (by show 3 ≤ 1000; decide), fun ta Ha wv sxa hqa la ua ma => ?_⟩
      obtain ⟨wd, rfl, okw⟩ : ∃ wd : Str, wv = .str wd ∧ okA (.str wd) = true := by
        simp only [List.mem_cons, List.not_mem_nil, or_false] at ma
        rcases ma with rfl | rfl | rfl
        all_goals exact ⟨_, rfl, by decide +kernel⟩
      walk_at "mf"
      refine g_newL (by show 2 ≤ sizeLine; decide) fun m2 G2 n2 t2 e2 => ?_
      have hq2 := hqa.same t2
      walk_at "mf"
      refine ⟨q, m2, ta, _, rfl, hq2, by omega, hqa.ne n2, .inl (seqU e2), (fun z => nomatch z), (by show 2 ≤ 1000; decide), fun tb Hb ov sxb hqb lb ub mb => ?_⟩
      obtain ⟨ot, rfl⟩ : ∃ ot : Str, ov = .str ot := by
        simp only [List.mem_cons, List.not_mem_nil, or_false] at mb
        rcases mb with rfl | rfl
        all_goals exact ⟨_, rfl⟩
      clear ma mb
      walk_at "mf"
      refine g_then1 ?_
      walk_at "mf"
      refine ⟨q, tb, 4, rfl, hqb, by omega, by decide, by decide, fun tc Hc j sxc hqc lc uc j0 j1 => ?_⟩
      walk_at "mf"
      refine ⟨j, rfl, by omega, by omega, ?_⟩
      refine lcgo_range (n := j.toNat) (fun D i' G => SameX q Hc G ∧ ∃ acc us t3, G D = some (.lst acc) ∧ Qy K q t3 G ∧ Qn q D G ∧ tc ≤ t3 ∧ t3 ≤ tc + (i' : Int) * 173 ∧ acc.length = i' ∧ VtAll (Nd (fun b => b = q) D) G acc us ∧ ∀ u ∈ us, Ok 3 u) (fun x => rfl) (fun D hD => ?_) (fun D i' G hD hi hP => ?_) (fun D G hD hP => ?_)
      · have s0 : Same Hc (upd Hc D (.lst [])) := same_new hD
        exact ⟨Same.x s0, [], [], tc, upd_same, hqc.same s0, (Qn.new hqc hD).go hqc (Same.x s0), by omega, by omega, rfl, .nil, fun u z => nomatch z⟩
      · obtain ⟨sx3, acc, us, t3, e3, hq3, qn3, la, ua, len, hv3, ho3⟩ := hP
        have Dq : D ≠ q := hqc.ne hD
        have b3 : Bv 3 = 173 := rfl
        walk_at "mf"
        refine ⟨q, t3, Nd (fun b => b = q) D, rfl, hq3, by omega, .inl rfl, fun b z => ?_, fun t4 G2 v u sx4 hq4 l4 u4 hv hu => ?_⟩
        · rcases z with rfl | rfl
          · exact hq3.nz
          · rw [e3]
            exact Option.some_ne_none _
        · have sxA := sx3.trans sx4
          have qn4 := qn3.go hq3 sx4
          refine ⟨acc, sx4.kept _ _ Dq e3, small1000 (by omega), ⟨fun b o nb e => ?_, fun c t r e => ?_⟩, acc ++ [v], us ++ [u], t4, upd_same, hq4.upd qn4 Dq, Qn.upd hq4 qn4 Dq, by omega, by omega, by rw [List.length_append, len]; rfl, ((hv3.go (sx4.kn (.inl rfl))).app (.cons hv .nil)).go kp_upd, fun w hw => ?_⟩
          · rw [upd_ne (ne_of_none e hD)]
            exact sxA.kept b o nb e
          · rw [upd_ne Dq.symm]
            exact sxA.cell c t r e
          · rcases List.mem_append.mp hw with z | z
            · exact ho3 w z
            · rw [List.mem_singleton.mp z]
              exact hu
      · obtain ⟨sx3, acc, us, t3, e3, hq3, qn3, la, ua, len, hv3, ho3⟩ := hP
        refine .inl ⟨D, acc, rfl, seqU e3, fun p hp => ?_⟩
        have sd : Same G (upd G p (.tup acc)) := same_new hp
        have ep : (upd G p (.tup acc)) p = some (.tup acc) := upd_same
        have np : ¬ (p = q) := hq3.ne hp
        have hvd : VtAll (fun b => b = q) (upd G p (.tup acc)) acc us := hv3.dn.go (.of sd)
        have hqd : Qy K q t3 (upd G p (.tup acc)) := hq3.same sd
        generalize upd G p (.tup acc) = Hd at sd ep hvd hqd ⊢
        have l3 : us.length ≤ 3 := by
          rw [← hvd.len, len]
          omega
        have tb3 : t3 ≤ t + 530 := by omega
        have o5 : ∀ u ∈ us, Ok 5 u := fun u hu => (ho3 u hu).up.up
        have o4 : Ok 4 (.tup us) := ⟨by omega, ho3⟩
        have hP : Vt (fun b => b = q) Hd (.ref p) (.tup us) := .tup np ep hvd
        have hNd : ∀ b, b = q → Hd b ≠ none := fun b z => by
          subst z
          exact hqd.nz
        clear sxa sxb sxc sx3 hv3 qn3 e3 hq3 hqc hqb hqa hq1 hq2 e1 e2 t1 t2 n1 n2 hD sd hp
        walk_at "mf"
        refine ⟨fun b => b = q, .ref p, .tup us, 4, rfl, hP, o4, by decide, ?_⟩
        walk_at "mf"
        refine ⟨.ref p, fun b => b = q, .tup us, rfl, hNd, hP, o4.up.up, fun dv He se hdv => ?_⟩
        obtain ⟨d, ds, rfl, nd, ed, hds⟩ := Vt.tupE hdv
        have hNe : ∀ b, b = q → He b ≠ none := fun b z => Same.nz se (hNd b z)
        have hve := hvd.go (.of se)
        have epe := se _ _ ep
        walk_at "mf"
        refine ⟨wd, p, acc, us, fun b => b = q, false, rfl, epe, hve, o5, l3, hNe, fun pa pp ys Hf sf hpa epp hys npa npp => ?_⟩
        have hpa : Pap Hf a.P pa wd pp := hpa
        walk_at "mf"
        refine ⟨wd, p, acc, us, fun b => b = q, true, rfl, sf _ _ epe, hve.go (.of sf), o5, l3, fun b z => Same.nz sf (hNe b z), fun da dp zs Hg sg hda edp hzs nda ndp => ?_⟩
        have hda : Pap Hg a.D da wd dp := hda
        have sdg : Same Hd Hg := se.trans (sf.trans sg)
        have hpa := hpa.go sg
        have epp := sg _ _ epp
        have hys := hys.go (.of sg)
        have ed := sf.trans sg _ _ ed
        have hds := hds.go (.of (sf.trans sg))
        have ep := sdg _ _ ep
        have hvp := hvd.go (.of sdg)
        have hqg := hqd.same sdg
        have hNg : ∀ b, b = q → Hg b ≠ none := fun b z => Same.nz sdg (hNd b z)
        have lys : ys.length = us.length := by rw [hys.len, fxs_map, List.length_map]
        have lzs : zs.length = us.length := by rw [hzs.len, fxs_map, List.length_map]
        have lds : ds.length = us.length := by rw [hds.len, fxs_map, List.length_map]
        clear sf sg se hve epe hNe hNd hqd hdv hP hvd sdg
        walk_at "mf"
        refine g_fldW (x := pa) rfl hpa T.ty_Paper.cl T.nw_Paper ?_
        walk_at "mf"
        refine g_fldP (x := pa) rfl hpa T.ty_Paper.cl T.np_Paper ?_
        walk_at "mf"
        refine ⟨pa, pp, wd, rfl, .inl ⟨hpa, ?_⟩⟩
        walk_at "mf"
        refine g_fldW (x := da) rfl hda T.ty_Denial.cl T.nw_Denial ?_
        walk_at "mf"
        refine g_fldP (x := da) rfl hda T.ty_Denial.cl T.np_Denial ?_
        walk_at "mf"
        refine ⟨da, dp, wd, rfl, .inr ⟨hda, ?_⟩⟩
        walk_at "mf"
        refine g_newL (by show 6 ≤ sizeLine; decide) fun l1 J1 v1 x1 y1 => ?_
        walk_at "mf"
        have ofx : Ok 4 (.tup (Tr.fxs us)) := ⟨by rw [fxs_map, List.length_map]; omega, fun t ht => by
          rw [fxs_map] at ht
          obtain ⟨u, hu, rfl⟩ := List.mem_map.mp ht
          exact (ho3 u hu).fx⟩
        have six : ∀ t ∈ [Tr.at (.str wd), .tup (Tr.fxs us), .at (.bl true), .at (.str wd), .tup (Tr.fxs us), .at (.bl false)], Ok 4 t := by
          intro t ht
          simp only [List.mem_cons, List.not_mem_nil, or_false] at ht
          rcases ht with rfl | rfl | rfl | rfl | rfl | rfl
          all_goals first | exact ok_at _ _ | exact ofx
        have hN1 : ∀ b, b = q → J1 b ≠ none := fun b z => Same.nz x1 (hNg b z)
        refine ⟨fun b => b = q, l1, _, [.at (.str wd), .tup (Tr.fxs us), .at (.bl true), .at (.str wd), .tup (Tr.fxs us), .at (.bl false)], 4, rfl, y1, .cons (.at okw) (.cons (.tup npp (x1 _ _ epp) (hys.go (.of x1))) (.cons (.at rfl) (.cons (.at okw) (.cons (.tup ndp (x1 _ _ edp) (hzs.go (.of x1))) (.cons (.at rfl) .nil))))), six, by decide, (by show 6 ≤ 6; decide), ?_⟩
        walk_at "mf"
        refine g_newL (by show 6 ≤ sizeLine; decide) fun l2 J2 v2 x2 y2 => ?_
        walk_at "mf"
        have x12 := x1.trans x2
        refine ⟨fun b => b = q, l2, _, [.at (.str wd), .tup (Tr.fxs us), .at (.bl true), .at (.str wd), .tup (Tr.fxs us), .at (.bl false)], 4, rfl, y2, .cons (.at okw) (.cons (.tup nd (x12 _ _ ed) (hds.go (.of x12))) (.cons (.at rfl) (.cons (.at okw) (.cons (.tup nd (x12 _ _ ed) (hds.go (.of x12))) (.cons (.at rfl) .nil))))), six, by decide, (by show 6 ≤ 6; decide), ?_⟩
        walk_at "mf"
        have hpa := hpa.go x12
        have hda := hda.go x12
        have epp := x12 _ _ epp
        have edp := x12 _ _ edp
        have ed := x12 _ _ ed
        have ep := x12 _ _ ep
        have hys := hys.go (.of x12)
        have hzs := hzs.go (.of x12)
        have hds := hds.go (.of x12)
        have hvp := hvp.go (.of x12)
        have hqg := hqg.same x12
        have hNg : ∀ b, b = q → J2 b ≠ none := fun b z => Same.nz x12 (hNg b z)
        clear x12 x1 x2 y1 y2 v1 v2 hN1
        refine ⟨fun b => b = q, .ref p, .tup us, 4, rfl, .tup np ep hvp, o4, by decide, ?_⟩
        walk_at "mf"
        refine ⟨.ref pa, .ref a.D, .ref a.P, .ref a.D, false, rfl, .own _, pap_ty T.ty_Paper T.oc T.ot hpa, T.kPD, ?_⟩
        walk_at "mf"
        refine ⟨.ref da, .ref a.P, .ref a.D, .ref a.P, true, rfl, .own _, pap_ty T.ty_Denial T.oc T.ot hda, T.kDP, ?_⟩
        walk_at "mf"
        have od5 : ∀ t ∈ Tr.fxs us, Ok 5 t := fun t ht => by
          rw [fxs_map] at ht
          obtain ⟨u, hu, rfl⟩ := List.mem_map.mp ht
          exact (o5 u hu).fx
        have ld3 : (Tr.fxs us).length ≤ 3 := by
          rw [fxs_map, List.length_map]
          exact l3
        refine ⟨wd, d, ds, Tr.fxs us, fun b => b = q, false, rfl, ed, hds, od5, ld3, hNg, fun x8 p8 z8 K8 s8 h8 e8 w8 n8 m8 => ?_⟩
        have h8 : Pap K8 a.P x8 wd p8 := h8
        rw [fxs_fxs] at w8
        have hpa := hpa.go s8
        have hda := hda.go s8
        have epp := s8 _ _ epp
        have edp := s8 _ _ edp
        have ed := s8 _ _ ed
        have ep := s8 _ _ ep
        have hys := hys.go (.of s8)
        have hzs := hzs.go (.of s8)
        have hds := hds.go (.of s8)
        have hvp := hvp.go (.of s8)
        have hqg := hqg.same s8
        have hNg := fun b z => Same.nz s8 (hNg b z)
        clear s8
        refine .inl ⟨pa, x8, pp, p8, wd, wd, rfl, rfl, hpa, h8, ?_⟩
        rw [if_pos rfl]
        refine g_eqT epp e8 hys w8 o5 o5 rfl ?_
        refine ⟨true, rfl, ?_⟩
        clear h8 e8 w8 n8 m8
        walk_at "mf"
        refine ⟨wd, d, ds, Tr.fxs us, fun b => b = q, true, rfl, ed, hds, od5, ld3, hNg, fun x9 p9 z9 K9 s9 h9 e9 w9 n9 m9 => ?_⟩
        have h9 : Pap K9 a.D x9 wd p9 := h9
        rw [fxs_fxs] at w9
        have hpa := hpa.go s9
        have hda := hda.go s9
        have epp := s9 _ _ epp
        have edp := s9 _ _ edp
        have ed := s9 _ _ ed
        have ep := s9 _ _ ep
        have hys := hys.go (.of s9)
        have hzs := hzs.go (.of s9)
        have hds := hds.go (.of s9)
        have hvp := hvp.go (.of s9)
        have hqg := hqg.same s9
        have hNg := fun b z => Same.nz s9 (hNg b z)
        clear s9
        refine .inr ⟨da, x9, dp, p9, wd, wd, rfl, rfl, hda, h9, ?_⟩
        rw [if_pos rfl]
        refine g_eqT edp e9 hzs w9 o5 o5 rfl ?_
        refine ⟨true, rfl, ?_⟩
        clear h9 e9 w9 n9 m9
        walk_at "mf"
        refine .inr (.inr (.inl ⟨⟨pa, da, pp, dp, wd, wd, .inl ⟨rfl, rfl⟩, hpa, hda⟩, ?_⟩))
        walk_at "mf"
        refine .inr (.inr (.inl ⟨⟨pa, da, pp, dp, wd, wd, .inr ⟨rfl, rfl⟩, hpa, hda⟩, ?_⟩))
        walk_at "mf"
        refine ⟨ot, p, acc, us, fun b => b = q, false, rfl, ep, hvp, o5, l3, hNg, fun x10 p10 z10 K10 s10 h10 e10 w10 n10 m10 => ?_⟩
        have h10 : Pap K10 a.P x10 ot p10 := h10
        have hpa := hpa.go s10
        have hda := hda.go s10
        have epp := s10 _ _ epp
        have edp := s10 _ _ edp
        have ed := s10 _ _ ed
        have ep := s10 _ _ ep
        have hys := hys.go (.of s10)
        have hzs := hzs.go (.of s10)
        have hds := hds.go (.of s10)
        have hvp := hvp.go (.of s10)
        have hqg := hqg.same s10
        have hNg := fun b z => Same.nz s10 (hNg b z)
        clear s10
        walk_at "mf"
        refine .inl ⟨x10, pa, p10, pp, ot, wd, rfl, rfl, h10, hpa, ?_⟩
        refine g_ifq (fun Q' z => g_eqT e10 epp w10 hys o5 o5 rfl z) ?_
        clear h10 e10 w10 n10 m10
        walk_at "mf"
        refine g_neBl ?_
        walk_at "mf"
        refine .inr (.inr (.inr ⟨⟨pa, pp, wd, "tuple", rfl, hpa, .inl ⟨ds, d, rfl, ed, rfl⟩⟩, ?_⟩))
        walk_at "mf"
        refine .inr (.inr (.inr ⟨⟨pa, pp, wd, "str", rfl, hpa, .inr ⟨wd, rfl, rfl⟩⟩, ?_⟩))
        walk_at "mf"
        refine g_cut1 ed hds fun d2 ds2 us2 K11 s11 e11 w11 l11 m11 c11 => ?_
        have hpa := hpa.go s11
        have hda := hda.go s11
        have epp := s11 _ _ epp
        have edp := s11 _ _ edp
        have ed := s11 _ _ ed
        have ep := s11 _ _ ep
        have hys := hys.go (.of s11)
        have hzs := hzs.go (.of s11)
        have hds := hds.go (.of s11)
        have hvp := hvp.go (.of s11)
        have hqg := hqg.same s11
        have hNg := fun b z => Same.nz s11 (hNg b z)
        clear s11
        have o52 : ∀ t ∈ us2, Ok 5 t := fun t h => o5 t (m11 t h)
        have od2 : ∀ t ∈ Tr.fxs us2, Ok 5 t := fun t ht => by
          rw [fxs_map] at ht
          obtain ⟨u, hu, rfl⟩ := List.mem_map.mp ht
          exact (o52 u hu).fx
        have l2 : (Tr.fxs us2).length ≤ 3 := by
          rw [fxs_map, List.length_map]
          omega
        have ld2 : ds2.length = us2.length := by rw [w11.len, fxs_map, List.length_map]
        walk_at "mf"
        refine ⟨wd, d2, ds2, Tr.fxs us2, fun b => b = q, true, rfl, e11, w11, od2, l2, hNg, fun x12 p12 z12 K12 s12 h12 e12 w12 n12 m12 => ?_⟩
        have h12 : Pap K12 a.D x12 wd p12 := h12
        rw [fxs_fxs] at w12
        clear e11 w11 od2 l2 n12 m12
        have hpa := hpa.go s12
        have hda := hda.go s12
        have epp := s12 _ _ epp
        have edp := s12 _ _ edp
        have ed := s12 _ _ ed
        have ep := s12 _ _ ep
        have hys := hys.go (.of s12)
        have hzs := hzs.go (.of s12)
        have hds := hds.go (.of s12)
        have hvp := hvp.go (.of s12)
        have hqg := hqg.same s12
        have hNg := fun b z => Same.nz s12 (hNg b z)
        clear s12
        walk_at "mf"
        refine .inr (.inl ⟨x12, da, p12, dp, wd, wd, rfl, rfl, h12, hda, ?_⟩)
        rw [if_pos rfl]
        refine g_eqD c11 (by rw [ld2, w12.len, fxs_map, List.length_map]) (by rw [lzs, lds]) e12 edp w12 hzs o52 o5 ?_
        clear h12 e12 w12 o52 ld2 c11 m11 l11
        walk_at "mf"
        refine g_newT (by show 0 ≤ sizeLine; decide) fun e13 K13 n13 s13 f13 => ?_
        have hpa := hpa.go s13
        have hda := hda.go s13
        have epp := s13 _ _ epp
        have edp := s13 _ _ edp
        have ed := s13 _ _ ed
        have ep := s13 _ _ ep
        have hys := hys.go (.of s13)
        have hzs := hzs.go (.of s13)
        have hds := hds.go (.of s13)
        have hvp := hvp.go (.of s13)
        have hqg := hqg.same s13
        have hNg := fun b z => Same.nz s13 (hNg b z)
        clear s13
        walk_at "mf"
        refine g_eqE ed f13 ?_
        clear f13 n13
        walk_at "mf"
        refine g_neBl ?_
        walk_at "mf"
        refine g_mkR ?_
        walk_at "mf"
        refine made_rd (N := fun b => b = q) (ts := [.at (.int 1), .at (.int 2), .at (.int 3), .at (.int 4)]) (.cons (.at (by decide +kernel)) (.cons (.at (by decide +kernel)) (.cons (.at (by decide +kernel)) (.cons (.at (by decide +kernel)) .nil)))) (fun t ht => ?_) (by show 4 ≤ 4; decide) hNg fun x14 p14 z14 K14 s14 h14 e14 w14 n14 m14 => ?_
        · simp only [List.mem_cons, List.not_mem_nil, or_false] at ht
          rcases ht with rfl | rfl | rfl | rfl
          all_goals exact ok_at _ _
        have hpa := hpa.go s14
        have hda := hda.go s14
        have epp := s14 _ _ epp
        have edp := s14 _ _ edp
        have ed := s14 _ _ ed
        have ep := s14 _ _ ep
        have hys := hys.go (.of s14)
        have hzs := hzs.go (.of s14)
        have hds := hds.go (.of s14)
        have hvp := hvp.go (.of s14)
        have hqg := hqg.same s14
        have hNg := fun b z => Same.nz s14 (hNg b z)
        clear s14
        refine .inl ⟨pa, x14, pp, p14, wd, wd, rfl, rfl, hpa, h14, ?_⟩
        rw [if_pos rfl]
        have l14 : z14.length = 4 := w14.len
        refine g_eqF epp e14 hys w14 o5 (fun t ht => ?_) (by omega) ?_
        · simp only [List.mem_cons, List.not_mem_nil, or_false] at ht
          rcases ht with rfl | rfl | rfl | rfl
          all_goals exact ok_at _ _
        clear h14 e14 w14 n14 m14 l14
        walk_at "mf"
        have b4 : Bv 4 = 524 := rfl
        refine ⟨q, t3, fun b => b = q, rfl, hqg, by omega, rfl, hNg, fun t5 K15 vv vt sx5 hq5 l5 u5 hvv ovv => ?_⟩
        have hP := (show Vt (fun b => b = q) K14 (.ref p) (.tup us) from .tup np ep hvp).go (sx5.kn (N := fun b => b = q) rfl)
        have hD := (show Vt (fun b => b = q) K14 (.ref d) (.tup (Tr.fxs us)) from .tup nd ed hds).go (sx5.kn (N := fun b => b = q) rfl)
        have hN5 : ∀ b, b = q → K15 b ≠ none := fun b z => by
          subst z
          exact hq5.nz
        clear hpa hda epp edp ed ep hys hzs hds hvp hqg hNg sx5
        walk_at "mf"
        refine ⟨vv, fun b => b = q, vt, rfl, hN5, hvv, ovv.up.up, fun f1 K16 s16 hf1 => ?_⟩
        walk_at "mf"
        refine ⟨fun b => b = q, f1, vt.fx, 4, rfl, hf1, ovv.fx, by decide, ?_⟩
        walk_at "mf"
        refine ⟨vv, fun b => b = q, vt, rfl, fun b z => Same.nz s16 (hN5 b z), hvv.go (.of s16), ovv.up.up, fun f2 K17 s17 hf2 => ?_⟩
        walk_at "mf"
        refine ⟨fun b => b = q, f2, vt.fx, 4, rfl, hf2, ovv.fx, by decide, ?_⟩
        walk_at "mf"
        have s67 := s16.trans s17
        refine ⟨.ref p, fun b => b = q, .tup us, rfl, fun b z => Same.nz s67 (hN5 b z), hP.go (.of s67), o4.up.up, fun f3 K18 s18 hf3 => ?_⟩
        have hf3 : Vt (fun b => b = q) K18 f3 (.tup (Tr.fxs us)) := hf3
        have s68 := s67.trans s18
        walk_at "mf"
        refine ⟨fun b => b = q, f3, .tup (Tr.fxs us), 4, rfl, hf3, ofx, by decide, ?_⟩
        walk_at "mf"
        refine ⟨fun b => b = q, .ref d, .tup (Tr.fxs us), 4, rfl, hD.go (.of s68), ofx, by decide, ?_⟩
        walk_at "mf"
        exact ⟨⟨_, _, _, _, _, _, _, _, _, _, rfl⟩, t5, hq5.same s68, by omega⟩
    · walk_at "mf"
      exact k _
end Mf
namespace Mf
open PySem PySem.Spec PyProof.Rows L2
local macro_rules | `(tactic| walk_at "mf1") => `(tactic| first
  | ((with_reducible apply g_var); exact rfl)
  | with_reducible first
    | refine g_c ?_ | refine g_op ?_ | refine g_un ?_ | refine g_cb ?_ | refine g_cl ?_ | refine g_clk ?_ | refine g_nil ?_ | refine g_cons ?_
    | refine g_tB ?_ | refine g_test ?_ | refine g_bl ?_ | refine g_and ?_ | refine g_or ?_ | refine g_not ?_ | refine g_andV ?_ | refine g_orV ?_ | refine g_notV ?_
    | refine g_if ?_ | refine g_ifS ?_ | refine g_seq ?_ | refine g_next ?_ | refine g_ret ?_ | refine g_drop ?_ | refine g_asg ?_ | refine g_name ?_ | refine g_sub ?_
    | refine g_int ?_ | refine g_intB ?_ | refine g_abs ?_ | refine g_I0 ?_ | refine g_addI ?_ | refine g_U ?_ | refine g_isNn ?_ | refine g_isNi ?_ | refine g_notN ?_ | refine g_notT1 ?_ | refine g_notT2 ?_ | refine g_notT3 ?_ | refine g_notT4 ?_ | refine g_notTb ?_ | refine g_notTi ?_ | refine g_eqI ?_ | refine g_neI ?_ | refine g_neSs ?_ | refine g_neS ?_ | refine g_eqS ?_
    | refine g_iteT ?_ | refine g_iteF ?_ | refine g_iteNT ?_ | refine g_iteNF ?_ | refine g_lst ?_ | refine g_tup ?_ | refine g_seqP ?_ | refine g_sl ?_ | refine g_noPart ?_ | refine g_part ?_ | refine g_yes ?_ | refine g_thenT ?_ | refine g_consG ?_ | refine g_nilG ?_ | refine g_ii ?_ | refine g_par ?_ | refine g_par3 ?_ | refine g_vv ?_ | refine g_vvv ?_ | refine g_reprB ?_ | refine g_lcL ?_ | refine g_lcR ?_
  | ((with_reducible refine g_mod ?_ ?_); (first | omega | decide))
  | ((with_reducible refine g_div ?_ ?_ ?_); (first | omega | decide); (first | assumption | decide))
  | ((with_reducible refine g_mulL ?_ ?_ ?_); (first | omega | decide); (first | omega | decide))
  | ((with_reducible refine g_mulR ?_ ?_ ?_); (first | omega | decide); (first | omega | decide))
  | ((with_reducible refine g_pow ?_ ?_ ?_ ?_); decide; decide; (first | omega | decide))
  | dsimp only)
local macro_rules | `(tactic| walk_at "mf1s") => `(tactic| first
  | ((with_reducible apply g_var); exact rfl)
  | with_reducible first
    | refine g_c ?_ | refine g_op ?_ | refine g_un ?_ | refine g_cb ?_ | refine g_cl ?_ | refine g_clk ?_ | refine g_nil ?_ | refine g_cons ?_
    | refine g_tB ?_ | refine g_test ?_ | refine g_bl ?_ | refine g_and ?_ | refine g_or ?_ | refine g_not ?_ | refine g_andV ?_ | refine g_orV ?_ | refine g_notV ?_
    | refine g_if ?_ | refine g_ifS ?_ | refine g_next ?_ | refine g_ret ?_ | refine g_drop ?_ | refine g_asg ?_ | refine g_name ?_ | refine g_sub ?_
    | refine g_int ?_ | refine g_intB ?_ | refine g_abs ?_ | refine g_I0 ?_ | refine g_addI ?_ | refine g_U ?_ | refine g_isNn ?_ | refine g_isNi ?_ | refine g_notN ?_ | refine g_notT1 ?_ | refine g_notT2 ?_ | refine g_notT3 ?_ | refine g_notT4 ?_ | refine g_notTb ?_ | refine g_notTi ?_ | refine g_eqI ?_ | refine g_neI ?_ | refine g_neSs ?_ | refine g_neS ?_ | refine g_eqS ?_
    | refine g_iteT ?_ | refine g_iteF ?_ | refine g_iteNT ?_ | refine g_iteNF ?_ | refine g_lst ?_ | refine g_tup ?_ | refine g_seqP ?_ | refine g_sl ?_ | refine g_noPart ?_ | refine g_part ?_ | refine g_yes ?_ | refine g_thenT ?_ | refine g_consG ?_ | refine g_nilG ?_ | refine g_ii ?_ | refine g_par ?_ | refine g_par3 ?_ | refine g_vv ?_ | refine g_vvv ?_ | refine g_reprB ?_ | refine g_lcL ?_ | refine g_lcR ?_
  | ((with_reducible refine g_mod ?_ ?_); (first | omega | decide))
  | ((with_reducible refine g_div ?_ ?_ ?_); (first | omega | decide); (first | assumption | decide))
  | ((with_reducible refine g_mulL ?_ ?_ ?_); (first | omega | decide); (first | omega | decide))
  | ((with_reducible refine g_mulR ?_ ?_ ?_); (first | omega | decide); (first | omega | decide))
  | ((with_reducible refine g_pow ?_ ?_ ?_ ?_); decide; decide; (first | omega | decide))
  | dsimp only)
local macro_rules | `(tactic| walk_at "mfs") => `(tactic| repeat walk_at "mf1s")
local macro_rules | `(tactic| walk_at "mf") => `(tactic| repeat walk_at "mf1")
local macro_rules | `(tactic| walk_at "ed") => `(tactic| repeat (first
  | with_reducible first
    | exact eds_nil | apply eds_cons | exact ed_int | exact ed_bl | exact ed_non | apply ed_neg
  | ((with_reducible apply ed_str); decide)
  | ((with_reducible apply ed_var); (exact rfl); (first | assumption | exact Dq.int _))
  | ((with_reducible apply ed_dict0); assumption)
  | ((with_reducible apply ed_dict2); assumption)
  | ((with_reducible apply ed_tup); assumption)
  | ((with_reducible apply ed_lst); assumption)
  | (with_reducible apply ed_pow)
  | (with_reducible apply ed_mul)
  | assumption
  | (exact Dq.int _)
  | (exact ⟨by decide, by decide, by decide⟩)
  | (show List.length _ ≤ 1000; simp only [List.length_cons, List.length_nil]; decide)))
theorem de_mk {P : Program} {w : World} {K : PySem.W.Frag} {h b : Heap} {mg : Str → Option Value} {x : Str} {st : Stmt} {f : Addr} {od an : Option Addr} {sl : Array (Option Value)} {oc kV dc pm cd ct : Value} (X : K.In h) (G : h.Ns mainGlobals mg)
    (a : PySem.W.nsIn K mainGlobals x = some (some (.ref f))) (l : K.lookup f = some ⟨oc, od, .func (PySem.W.fnOf x x (defArgs st) (defBody st) (defScope st) .none kV dc pm an cd ct), sl⟩)
    (c : PySem.W.codeIn K cd x = true) (k : PySem.W.keepIn K (.ref f) = true) : De ⟨P, w, K, mg, b⟩ x st := ⟨f, _, PySem.W.mg_of X G a, fun_mk l c k⟩
theorem end_mk {P : Program} {w : World} {K : PySem.W.Frag} {h : Heap} {mg : Str → Option Value} {fa : Addr} (hmg : mg "law" = some (.ref fa)) {a : Ad} (T : ∀ base : Heap, Tx ⟨P, w, K, mg, base⟩ a) :
    ∃ fd : FuncData, (∀ (s : Shared) (u : Value), BindsTo s fd ⟨[u], []⟩ [("script", u)]) ∧ ∀ base : Heap, K.In base → base.Ns mainGlobals mg → FnG P w K mg base CX0 14 fa fd ["script"] (sp_law K) := by
  obtain ⟨f, fd, hm, F⟩ := (T h).d_law.ex
  have e : f = fa := by
    have e := hm.symm.trans hmg
    cases e
    rfl
  subst e
  refine ⟨fd, fun s u => ?_, fun base _ _ => ?_⟩
  · obtain ⟨oc, od, kV, doc, pm, an, cdv, ct, osl, rfl, lk, hcd⟩ := F.ex
    exact .of_eq (pl_law kV doc pm an cdv ct [u] rfl)
  · obtain ⟨f2, fd2, F2, hm2, W2⟩ := (ok_law ⟨P, w, K, mg, base⟩ (T base)).ex
    have e2 : f2 = f := by
      have e := hm2.symm.trans hm
      cases e
      rfl
    subst e2
    obtain ⟨oc, od, kV, doc, pm, an, cdv, ct, osl, rfl, lk, hcd⟩ := F.ex
    obtain ⟨oc', od', kV', doc', pm', an', cdv', ct', osl', rfl, lk', hcd'⟩ := W2.ex
    rw [lk] at lk'
    cases lk'
    exact F2
theorem all_mk {P : Program} {w : World} {K : PySem.W.Frag} {h : Heap} {mg : Str → Option Value} {fa : Addr} (X : K.In h) (G : h.Ns mainGlobals mg) (hmg : mg "law" = some (.ref fa))
    {cP fpi fpe fpb cD fdi fde fdb : Addr} {odpi anpi odpe anpe odpb anpb oddi andi odde ande oddb andb : Option Addr} {slpi slpe slpb sldi slde sldb : Array (Option Value)} {ocpi kVpi dcpi pmpi cdpi ctpi ocpe kVpe dcpe pmpe cdpe ctpe ocpb kVpb dcpb pmpb cdpb ctpb ocdi kVdi dcdi pmdi cddi ctdi ocde kVde dcde pmde cdde ctde ocdb kVdb dcdb pmdb cddb ctdb : Value}
    {f0 f1 f2 f3 f4 f5 f6 f7 f8 : Addr} {od0 an0 od1 an1 od2 an2 od3 an3 od4 an4 od5 an5 od6 an6 od7 an7 od8 an8 : Option Addr} {sl0 sl1 sl2 sl3 sl4 sl5 sl6 sl7 sl8 : Array (Option Value)} {oc0 kV0 dc0 pm0 cd0 ct0 oc1 kV1 dc1 pm1 cd1 ct1 oc2 kV2 dc2 pm2 cd2 ct2 oc3 kV3 dc3 pm3 cd3 ct3 oc4 kV4 dc4 pm4 cd4 ct4 oc5 kV5 dc5 pm5 cd5 ct5 oc6 kV6 dc6 pm6 cd6 ct6 oc7 kV7 dc7 pm7 cd7 ct7 oc8 kV8 dc8 pm8 cd8 ct8 : Value}
    (a0 : PySem.W.nsIn K mainGlobals "is_list" = some (some (.ref f0))) (l0 : K.lookup f0 = some ⟨oc0, od0, .func (PySem.W.fnOf "is_list" "is_list" (defArgs s_is_list) (defBody s_is_list) (defScope s_is_list) .none kV0 dc0 pm0 an0 cd0 ct0), sl0⟩) (c0 : PySem.W.codeIn K cd0 "is_list" = true) (k0 : PySem.W.keepIn K (.ref f0) = true)
    (a1 : PySem.W.nsIn K mainGlobals "fixed" = some (some (.ref f1))) (l1 : K.lookup f1 = some ⟨oc1, od1, .func (PySem.W.fnOf "fixed" "fixed" (defArgs s_fixed) (defBody s_fixed) (defScope s_fixed) .none kV1 dc1 pm1 an1 cd1 ct1), sl1⟩) (c1 : PySem.W.codeIn K cd1 "fixed" = true) (k1 : PySem.W.keepIn K (.ref f1) = true)
    (a2 : PySem.W.nsIn K mainGlobals "_law_quay" = some (some (.ref f2))) (l2 : K.lookup f2 = some ⟨oc2, od2, .func (PySem.W.fnOf "_law_quay" "_law_quay" (defArgs s__law_quay) (defBody s__law_quay) (defScope s__law_quay) .none kV2 dc2 pm2 an2 cd2 ct2), sl2⟩) (c2 : PySem.W.codeIn K cd2 "_law_quay" = true) (k2 : PySem.W.keepIn K (.ref f2) = true)
    (a3 : PySem.W.nsIn K mainGlobals "_law_moor" = some (some (.ref f3))) (l3 : K.lookup f3 = some ⟨oc3, od3, .func (PySem.W.fnOf "_law_moor" "_law_moor" (defArgs s__law_moor) (defBody s__law_moor) (defScope s__law_moor) .none kV3 dc3 pm3 an3 cd3 ct3), sl3⟩) (c3 : PySem.W.codeIn K cd3 "_law_moor" = true) (k3 : PySem.W.keepIn K (.ref f3) = true)
    (a4 : PySem.W.nsIn K mainGlobals "_law_pick" = some (some (.ref f4))) (l4 : K.lookup f4 = some ⟨oc4, od4, .func (PySem.W.fnOf "_law_pick" "_law_pick" (defArgs s__law_pick) (defBody s__law_pick) (defScope s__law_pick) .none kV4 dc4 pm4 an4 cd4 ct4), sl4⟩) (c4 : PySem.W.codeIn K cd4 "_law_pick" = true) (k4 : PySem.W.keepIn K (.ref f4) = true)
    (a5 : PySem.W.nsIn K mainGlobals "_law_value" = some (some (.ref f5))) (l5 : K.lookup f5 = some ⟨oc5, od5, .func (PySem.W.fnOf "_law_value" "_law_value" (defArgs s__law_value) (defBody s__law_value) (defScope s__law_value) .none kV5 dc5 pm5 an5 cd5 ct5), sl5⟩) (c5 : PySem.W.codeIn K cd5 "_law_value" = true) (k5 : PySem.W.keepIn K (.ref f5) = true)
    (a6 : PySem.W.nsIn K mainGlobals "_law_fixed" = some (some (.ref f6))) (l6 : K.lookup f6 = some ⟨oc6, od6, .func (PySem.W.fnOf "_law_fixed" "_law_fixed" (defArgs s__law_fixed) (defBody s__law_fixed) (defScope s__law_fixed) .none kV6 dc6 pm6 an6 cd6 ct6), sl6⟩) (c6 : PySem.W.codeIn K cd6 "_law_fixed" = true) (k6 : PySem.W.keepIn K (.ref f6) = true)
    (a7 : PySem.W.nsIn K mainGlobals "_law_made" = some (some (.ref f7))) (l7 : K.lookup f7 = some ⟨oc7, od7, .func (PySem.W.fnOf "_law_made" "_law_made" (defArgs s__law_made) (defBody s__law_made) (defScope s__law_made) .none kV7 dc7 pm7 an7 cd7 ct7), sl7⟩) (c7 : PySem.W.codeIn K cd7 "_law_made" = true) (k7 : PySem.W.keepIn K (.ref f7) = true)
    (a8 : PySem.W.nsIn K mainGlobals "law" = some (some (.ref f8))) (l8 : K.lookup f8 = some ⟨oc8, od8, .func (PySem.W.fnOf "law" "law" (defArgs s_law) (defBody s_law) (defScope s_law) .none kV8 dc8 pm8 an8 cd8 ct8), sl8⟩) (c8 : PySem.W.codeIn K cd8 "law" = true) (k8 : PySem.W.keepIn K (.ref f8) = true)
    (z0 : PySem.W.nsIn K mainGlobals "abs" = some none)
    (z1 : PySem.W.nsIn K mainGlobals "bool" = some none)
    (z2 : PySem.W.nsIn K mainGlobals "int" = some none)
    (z3 : PySem.W.nsIn K mainGlobals "isinstance" = some none)
    (z4 : PySem.W.nsIn K mainGlobals "len" = some none)
    (z5 : PySem.W.nsIn K mainGlobals "list" = some none)
    (z6 : PySem.W.nsIn K mainGlobals "range" = some none)
    (z7 : PySem.W.nsIn K mainGlobals "repr" = some none)
    (z8 : PySem.W.nsIn K mainGlobals "tuple" = some none)
    (z9 : PySem.W.nsIn K mainGlobals "type" = some none)
    (xPg : PySem.W.nsIn K mainGlobals "Paper" = some (some (.ref cP)))
    (xPia : PySem.W.findIn K (.ref cP) "__init__" = some (some (.ref fpi)))
    (xPif : PySem.W.isFn K (.ref fpi) = true)
    (xPil : K.lookup fpi = some ⟨ocpi, odpi, .func (PySem.W.fnOf "__init__" "Paper.__init__" (defArgs s_Paper0) (defBody s_Paper0) (defScope s_Paper0) .none kVpi dcpi pmpi anpi cdpi ctpi), slpi⟩)
    (xPic : PySem.W.codeIn K cdpi "Paper.__init__" = true)
    (xPik : PySem.W.keepIn K (.ref fpi) = true)
    (xPea : PySem.W.findIn K (.ref cP) "__eq__" = some (some (.ref fpe)))
    (xPef : PySem.W.isFn K (.ref fpe) = true)
    (xPel : K.lookup fpe = some ⟨ocpe, odpe, .func (PySem.W.fnOf "__eq__" "Paper.__eq__" (defArgs s_Paper1) (defBody s_Paper1) (defScope s_Paper1) .none kVpe dcpe pmpe anpe cdpe ctpe), slpe⟩)
    (xPec : PySem.W.codeIn K cdpe "Paper.__eq__" = true)
    (xPek : PySem.W.keepIn K (.ref fpe) = true)
    (xPba : PySem.W.findIn K (.ref cP) "__bool__" = some (some (.ref fpb)))
    (xPbf : PySem.W.isFn K (.ref fpb) = true)
    (xPbl : K.lookup fpb = some ⟨ocpb, odpb, .func (PySem.W.fnOf "__bool__" "Paper.__bool__" (defArgs s_Paper2) (defBody s_Paper2) (defScope s_Paper2) .none kVpb dcpb pmpb anpb cdpb ctpb), slpb⟩)
    (xPbc : PySem.W.codeIn K cdpb "Paper.__bool__" = true)
    (xPbk : PySem.W.keepIn K (.ref fpb) = true)
    (xPmk : PySem.W.makesIn K cP = true)
    (xPkc : PySem.W.keepIn K (.ref cP) = true)
    (xPpg : PySem.W.plainGet K cP Str.empty = true)
    (xPhd : PySem.W.hasDictIn K cP = true)
    (xPpo : PySem.W.plainOver K cP = true)
    (xPsa : PySem.W.findIn K (.ref cP) "__setattr__" = some (some (.builtin "object.__setattr__")))
    (xPca : PySem.W.findIn K (.ref cP) "__class__" = some (some (.builtin "object.__class__")))
    (xPmo : PySem.W.mroIn K cP (.type "object") = some true)
    (xPnw : PySem.W.findIn K (.ref cP) "word" = some none)
    (xPnp : PySem.W.findIn K (.ref cP) "parts" = some none)
    (xPne : PySem.W.findIn K (.ref cP) "__ne__" = some (some (.builtin "object.__ne__")))
    (xPnt : PySem.W.notFirst K cP (.type "tuple") = true)
    (xPns : PySem.W.notFirst K cP (.type "str") = true)
    (xDg : PySem.W.nsIn K mainGlobals "Denial" = some (some (.ref cD)))
    (xDia : PySem.W.findIn K (.ref cD) "__init__" = some (some (.ref fdi)))
    (xDif : PySem.W.isFn K (.ref fdi) = true)
    (xDil : K.lookup fdi = some ⟨ocdi, oddi, .func (PySem.W.fnOf "__init__" "Denial.__init__" (defArgs s_Denial0) (defBody s_Denial0) (defScope s_Denial0) .none kVdi dcdi pmdi andi cddi ctdi), sldi⟩)
    (xDic : PySem.W.codeIn K cddi "Denial.__init__" = true)
    (xDik : PySem.W.keepIn K (.ref fdi) = true)
    (xDea : PySem.W.findIn K (.ref cD) "__eq__" = some (some (.ref fde)))
    (xDef : PySem.W.isFn K (.ref fde) = true)
    (xDel : K.lookup fde = some ⟨ocde, odde, .func (PySem.W.fnOf "__eq__" "Denial.__eq__" (defArgs s_Denial1) (defBody s_Denial1) (defScope s_Denial1) .none kVde dcde pmde ande cdde ctde), slde⟩)
    (xDec : PySem.W.codeIn K cdde "Denial.__eq__" = true)
    (xDek : PySem.W.keepIn K (.ref fde) = true)
    (xDba : PySem.W.findIn K (.ref cD) "__bool__" = some (some (.ref fdb)))
    (xDbf : PySem.W.isFn K (.ref fdb) = true)
    (xDbl : K.lookup fdb = some ⟨ocdb, oddb, .func (PySem.W.fnOf "__bool__" "Denial.__bool__" (defArgs s_Denial2) (defBody s_Denial2) (defScope s_Denial2) .none kVdb dcdb pmdb andb cddb ctdb), sldb⟩)
    (xDbc : PySem.W.codeIn K cddb "Denial.__bool__" = true)
    (xDbk : PySem.W.keepIn K (.ref fdb) = true)
    (xDmk : PySem.W.makesIn K cD = true)
    (xDkc : PySem.W.keepIn K (.ref cD) = true)
    (xDpg : PySem.W.plainGet K cD Str.empty = true)
    (xDhd : PySem.W.hasDictIn K cD = true)
    (xDpo : PySem.W.plainOver K cD = true)
    (xDsa : PySem.W.findIn K (.ref cD) "__setattr__" = some (some (.builtin "object.__setattr__")))
    (xDca : PySem.W.findIn K (.ref cD) "__class__" = some (some (.builtin "object.__class__")))
    (xDmo : PySem.W.mroIn K cD (.type "object") = some true)
    (xDnw : PySem.W.findIn K (.ref cD) "word" = some none)
    (xDnp : PySem.W.findIn K (.ref cD) "parts" = some none)
    (xDne : PySem.W.findIn K (.ref cD) "__ne__" = some (some (.builtin "object.__ne__")))
    (xDnt : PySem.W.notFirst K cD (.type "tuple") = true)
    (xDns : PySem.W.notFirst K cD (.type "str") = true)
    (xoc : PySem.W.specialIn K (.builtin "object.__class__") "__get__" = some (some (.builtin "getset_descriptor.__get__")))
    (xot : PySem.W.takesIn K (.builtin "object.__class__") = some true)
    (xsub : PySem.W.subIn K (.ref cD) (.ref cP) = some true)
    (xnD : PySem.W.notFirst K cD (.ref cP) = true)
    (xyP : PySem.W.typeIn K (.ref cP) = some (.type "type"))
    (xyD : PySem.W.typeIn K (.ref cD) = some (.type "type"))
    (xPD : PySem.W.subIn K (.ref cP) (.ref cD) = some false)
    : ∃ fd : FuncData, (∀ (s : Shared) (u : Value), BindsTo s fd ⟨[u], []⟩ [("script", u)]) ∧ ∀ base : Heap, K.In base → base.Ns mainGlobals mg → FnG P w K mg base CX0 14 fa fd ["script"] (sp_law K) :=
  end_mk (h := h) (a := ⟨cP, cD, fpi, fpe, fpb, fdi, fde, fdb⟩) hmg fun base => { d_is_list := de_mk X G a0 l0 c0 k0, d_fixed := de_mk X G a1 l1 c1 k1, d__law_quay := de_mk X G a2 l2 c2 k2, d__law_moor := de_mk X G a3 l3 c3 k3, d__law_pick := de_mk X G a4 l4 c4 k4, d__law_value := de_mk X G a5 l5 c5 k5, d__law_fixed := de_mk X G a6 l6 c6 k6, d__law_made := de_mk X G a7 l7 c7 k7, d_law := de_mk X G a8 l8 c8 k8, n_abs := PySem.W.mg_none_of X G z0, n_bool := PySem.W.mg_none_of X G z1, n_int := PySem.W.mg_none_of X G z2, n_isinstance := PySem.W.mg_none_of X G z3, n_len := PySem.W.mg_none_of X G z4, n_list := PySem.W.mg_none_of X G z5, n_range := PySem.W.mg_none_of X G z6, n_repr := PySem.W.mg_none_of X G z7, n_tuple := PySem.W.mg_none_of X G z8, n_type := PySem.W.mg_none_of X G z9, g_Paper := PySem.W.mg_of X G xPg, fi_Paper := ⟨_, fun_mk xPil xPic xPik⟩, fe_Paper := ⟨_, fun_mk xPel xPec xPek⟩, fb_Paper := ⟨_, fun_mk xPbl xPbc xPbk⟩, mk_Paper := ⟨xPmk, xPia, xPif, xPkc⟩, ty_Paper := ⟨⟨xPpg, xPhd, xPpo, xPsa⟩, xPca, xPmo⟩, nw_Paper := xPnw, np_Paper := xPnp, ne_Paper := xPne, eq_Paper := ⟨xPea, xPef⟩, bo_Paper := ⟨xPba, xPbf⟩, nt_Paper := xPnt, ns_Paper := xPns, g_Denial := PySem.W.mg_of X G xDg, fi_Denial := ⟨_, fun_mk xDil xDic xDik⟩, fe_Denial := ⟨_, fun_mk xDel xDec xDek⟩, fb_Denial := ⟨_, fun_mk xDbl xDbc xDbk⟩, mk_Denial := ⟨xDmk, xDia, xDif, xDkc⟩, ty_Denial := ⟨⟨xDpg, xDhd, xDpo, xDsa⟩, xDca, xDmo⟩, nw_Denial := xDnw, np_Denial := xDnp, ne_Denial := xDne, eq_Denial := ⟨xDea, xDef⟩, bo_Denial := ⟨xDba, xDbf⟩, nt_Denial := xDnt, ns_Denial := xDns, oc := xoc, ot := xot, sub := xsub, nD := xnD, yP := xyP, yD := xyD, sPD := xPD }
end Mf
open PySem PySem.W PyProof.Rows
set_option maxHeartbeats 0 in
theorem PySem.Challenge.cw_mapflow_k01_papers_keep_what_they_tell_holds : PySem.Challenge.rw_mapflow_k01_papers_keep_what_they_tell.Holds := by
  w_on; o_law; k_head; (case hw => w_witness2)
  k_fill
  refine Mf.walkG (l := PySem.Challenge.rw_mapflow_k01_papers_keep_what_they_tell) (n := 63) (k := 14) (x := "script") (sp := Mf.sp_law) rfl (by decide) rfl ⟨rfl, by decide, by decide⟩ (fun w h Y => PySem.W.kIn_of Y) ?F (fun K H a ns hl _ hS => ⟨a, ns, rfl, hS, hl, fun _ => rfl⟩)
  case F =>
    intro w mg fa h KX G hmg
    refine' Mf.all_mk KX G hmg ?a0 ?l0 ?c0 ?k0 ?a1 ?l1 ?c1 ?k1 ?a2 ?l2 ?c2 ?k2 ?a3 ?l3 ?c3 ?k3 ?a4 ?l4 ?c4 ?k4 ?a5 ?l5 ?c5 ?k5 ?a6 ?l6 ?c6 ?k6 ?a7 ?l7 ?c7 ?k7 ?a8 ?l8 ?c8 ?k8 ?z0 ?z1 ?z2 ?z3 ?z4 ?z5 ?z6 ?z7 ?z8 ?z9 ?xPg ?xPia ?xPif ?xPil ?xPic ?xPik ?xPea ?xPef ?xPel ?xPec ?xPek ?xPba ?xPbf ?xPbl ?xPbc ?xPbk ?xPmk ?xPkc ?xPpg ?xPhd ?xPpo ?xPsa ?xPca ?xPmo ?xPnw ?xPnp ?xPne ?xPnt ?xPns ?xDg ?xDia ?xDif ?xDil ?xDic ?xDik ?xDea ?xDef ?xDel ?xDec ?xDek ?xDba ?xDbf ?xDbl ?xDbc ?xDbk ?xDmk ?xDkc ?xDpg ?xDhd ?xDpo ?xDsa ?xDca ?xDmo ?xDnw ?xDnp ?xDne ?xDnt ?xDns ?xoc ?xot ?xsub ?xnD ?xyP ?xyD ?xPD
    (case a0 => k_is); (case l0 => k_is); (case c0 => k_is); (case k0 => k_is); (case a1 => k_is); (case l1 => k_is); (case c1 => k_is); (case k1 => k_is); (case a2 => k_is); (case l2 => k_is); (case c2 => k_is); (case k2 => k_is); (case a3 => k_is); (case l3 => k_is); (case c3 => k_is); (case k3 => k_is); (case a4 => k_is); (case l4 => k_is); (case c4 => k_is); (case k4 => k_is); (case a5 => k_is); (case l5 => k_is); (case c5 => k_is); (case k5 => k_is); (case a6 => k_is); (case l6 => k_is); (case c6 => k_is); (case k6 => k_is); (case a7 => k_is); (case l7 => k_is); (case c7 => k_is); (case k7 => k_is); (case a8 => k_is); (case l8 => k_is); (case c8 => k_is); (case k8 => k_is); (case z0 => k_is); (case z1 => k_is); (case z2 => k_is); (case z3 => k_is); (case z4 => k_is); (case z5 => k_is); (case z6 => k_is); (case z7 => k_is); (case z8 => k_is); (case z9 => k_is); (case xPg => k_is); (case xPia => k_is); (case xPif => k_is); (case xPil => k_is); (case xPic => k_is); (case xPik => k_is); (case xPea => k_is); (case xPef => k_is); (case xPel => k_is); (case xPec => k_is); (case xPek => k_is); (case xPba => k_is); (case xPbf => k_is); (case xPbl => k_is); (case xPbc => k_is); (case xPbk => k_is); (case xPmk => k_is); (case xPkc => k_is); (case xPpg => k_is); (case xPhd => k_is); (case xPpo => k_is); (case xPsa => k_is); (case xPca => k_is); (case xPmo => k_is); (case xPnw => k_is); (case xPnp => k_is); (case xPne => k_is); (case xPnt => k_is); (case xPns => k_is); (case xDg => k_is); (case xDia => k_is); (case xDif => k_is); (case xDil => k_is); (case xDic => k_is); (case xDik => k_is); (case xDea => k_is); (case xDef => k_is); (case xDel => k_is); (case xDec => k_is); (case xDek => k_is); (case xDba => k_is); (case xDbf => k_is); (case xDbl => k_is); (case xDbc => k_is); (case xDbk => k_is); (case xDmk => k_is); (case xDkc => k_is); (case xDpg => k_is); (case xDhd => k_is); (case xDpo => k_is); (case xDsa => k_is); (case xDca => k_is); (case xDmo => k_is); (case xDnw => k_is); (case xDnp => k_is); (case xDne => k_is); (case xDnt => k_is); (case xDns => k_is); (case xoc => k_is); (case xot => k_is); (case xsub => k_is); (case xnD => k_is); (case xyP => k_is); (case xyD => k_is); (case xPD => k_is)
