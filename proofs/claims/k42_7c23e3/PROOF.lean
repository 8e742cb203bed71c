import PyProof.Rows.All
import Wide.All
import OpenK.AllK
import Wide.FinOn
import HandS.ForMost
import HandS.ForExc
import HandS.IsInst
import HandS.Wide
import HandS.Gcd
import HandS.Flow
import HandS.Style
import PyProof.ReprRoads
import HandS.NoneIn
import PyProof.ReprLen
import HandS.Conv
import HandS.ExcInit
import HandS.ExcIs
import HandS.Walk
import HandS.Iter
import KE.GoesMore
import HandS.Rev
import HandS.Star
import HandS.RevRange
import KE.KMathG
import HandS.Zip
import HandS.TupSets
import HandS.Deep
import PyProof.ListNew
import KE.KDictZip
import PySem.Challenge.RW_mapflow_k42_whole_polynomials_through_po
set_option Elab.async false
set_option linter.all false
set_option maxRecDepth 100000
set_option maxHeartbeats 4000000
namespace Mf
open PySem PySem.Spec PyProof.Rows L2

/-! ### a def that is run where nothing is being shown (the guards are known to be none) -/
structure FnG (P : Program) (w : World) (K : PySem.W.Frag) (mg : Str → Option Value) (base : Heap) (CX : CXT) (k : Nat) (f : Addr) (fd : FuncData) (ps : List Str) (sp : Sp) : Prop where
  size : ∀ vs H Q E, sp vs H Q E → vs.length = ps.length
  go : ∀ (A : Around), A.guards = some [] → ∀ (outer : List Env) (s : Shared) (H : Hp) (args : Args) (us : List Value) (vs : List V) (Q : VK) (E : XK),
    Room k A → Env0 P w K mg base A outer s H → BindsTo s fd args (ps.zip us) → Vals vs us → sp vs H Q E →
      codeAny (model P w) A (.call (.ref f) args) (CR CX outer P w H s Q E) s

section
variable {P : Program} {w : World} {K : PySem.W.Frag} {mg : Str → Option Value} {base : Heap}

theorem FnG.of {CX : CXT} {k : Nat} {f : Addr} {fd : FuncData} {ps : List Str} {sp : Sp} (F : FnOk P w K mg base CX k f fd ps sp) : FnG P w K mg base CX k f fd ps sp :=
  ⟨F.len, fun A _ outer s H args us vs Q E => F.run A outer s H args us vs Q E⟩

/-- a def of the text, by its body, where the guards are known -/
theorem okG {x qual : Str} {st : Stmt} {f : Addr} {fd : FuncData} {N ps : List Str} {k : Nat} {sp : Sp} (F : Fun K x qual st f fd) (S : FnScope N ps (defScope st))
    (len : ∀ vs H Q E, sp vs H Q E → vs.length = ps.length)
    (hbody : ∀ (cdv : Value) (A : Around) (outer : List Env) (s : Shared) (H : Hp) (vs : List V) (Q : VK) (E : XK),
      (A.deeper (envOfC qual (defScope st) s.heap.objs.size f cdv)).guards = some [] →
      Room k (A.deeper (envOfC qual (defScope st) s.heap.objs.size f cdv)) → sp vs H Q E →
      ∃ t, PSs (cxOf CX0 P w K mg base N qual (defScope st) f cdv A outer s H E).nox (defBody st) t ∧
        t { nx := fun _ H' => Q .non H', rt := Q } (start N vs) H) :
    FnG P w K mg base CX0 (k + 1) f fd ps sp := by
  obtain ⟨oc, od, kV, doc, pm, an, cdv, ct, osl, rfl, lk, hcd⟩ := F.ex
  refine ⟨len, ?_⟩
  intro A hA outer s H args us vs Q E hr e0 hb r hsp
  have KX : K.In s.heap := e0.mod.kin.keeps fun b o e => (e0.bs b o e).1
  have lim : s.heap.NoLimit := e0.mod.nolimit.keeps fun b o e => (e0.bs b o e).1
  have hl := len _ _ _ _ hsp
  have kinds : ∀ y ∈ ps.zip us, (defScope st).names.lookup y.1 = some .local ∨
      ((defScope st).names.lookup y.1 = some .cell ∧ ((cellsFrom (s.heap.objs.size + 1) (defScope st).names []).lookup y.1).isSome = true) := by
    intro y hy
    obtain ⟨n, v⟩ := y
    cases S.par n (List.of_mem_zip hy).1 with
    | inl q => exact Or.inl q
    | inr q => exact Or.inr ⟨q, PySem.W.cellsFrom_some _ _ _ (.inl q)⟩
  refine codeAny_call_function hr.depth (KX _ _ lk) rfl S.co S.gen rfl (PySem.W.codeRec_of KX hcd) (hb _ _ _ _ ?_)
  refine wpAny_newFunctionEnv_cells S.kind kinds ?_
  intro env he s1 x
  subst he
  refine ⟨lim.keeps x.toInCall.keep, codeAny_func ?_⟩
  have hAg : (A.deeper (envOfC qual (defScope st) s.heap.objs.size f cdv)).guards = some [] := hA
  obtain ⟨t, ht, hq⟩ := hbody cdv A outer s H vs Q E hAg (hr.deeper _) hsp
  have I := inv_start (CX := CX0) (mg := mg) (base := base) (N := N) (qual := qual) (f := f) (cd := cdv) (E := E) S hr.hd e0 hl r x
  refine wpAny_mono (ht.nox.run [] s1 (start N vs) H _ I hq) ?_ (fun e s' hs => hs)
  intro fl s' hs
  cases fl with
  | ret u =>
    obtain ⟨v, σ', H', J, rv, q⟩ := hs
    exact ⟨v, H', J.os, J.bare, J.base, J.hok, rv, q⟩
  | next =>
    obtain ⟨σ', H', J, q⟩ := hs
    exact ⟨V.non, H', J.os, J.bare, J.base, J.hok, (rfl : Value.none = Value.none), q⟩
  | brk => obtain ⟨_, _, _, q⟩ := hs; exact False.elim q
  | cont => obtain ⟨_, _, _, q⟩ := hs; exact False.elim q
end

section
variable {X : Cx} {CX : CXT} {k : Nat} {f C : Addr} {fd : FuncData} {ps : List Str} {sp : Sp} {E : XK} {x : Str} {p pos : Pos} {e : Expr} {es : List Expr} {t : TA}
theorem run_fnG {pins : List (Addr × Obj)} {σ : L2.St} {H : Hp} {s : Shared} {Q : VK} {us : List Value} {vs : List V} (F : FnG X.prog X.w X.K X.mg X.base CX k f fd ps sp)
    (hA : X.A.guards = some []) (hr : Room k X.A) (hb : Binds X.K fd ps []) (hx : Passes CX X E)
    (I : Inv X pins σ H s) (r : Vals vs us) (h : sp vs H Q E) : wpAny (model X.prog X.w) X.A (call (.ref f) us) (EP X pins σ Q) X.xe s := by
  have hl : (us ++ []).length = ps.length := by
    rw [List.append_nil, ← r.length]
    exact F.size _ _ _ _ h
  have hb' := hb s us I.kIn hl
  rw [List.append_nil] at hb'
  refine wpAny_call (codeAny_mono (F.go X.A hA X.stack s H ⟨us, []⟩ us vs Q E hr I.env0 hb' r h) ?_)
  intro r s' hq
  cases r with
  | error e => exact hx pins σ H s e s' I hq
  | ok fl => cases fl with
    | ret u => exact I.after hq
    | next => exact hq.elim
    | brk => exact hq.elim
    | cont => exact hq.elim
/-- f(e, ..) where the guards are known -/
theorem pe_callG (F : FnG X.prog X.w X.K X.mg X.base CX k f fd ps sp) (hA : X.A.guards = some []) (hr : Room k X.A) (hg : Gl X x) (hm : X.mg x = some (.ref f))
    (hk : PySem.W.keepIn X.K (.ref f) = true) (hb : Binds X.K fd ps []) (hx : Passes CX X E)
    (ha : PA X (e :: es) t) (hdb : (x == ("__debug__" : Str)) = false := by decide) (he : starEach (e :: es) X.env = (false, eval e X.env) :: starEach es X.env := by rfl)
    (hpl : (backTo pos (starEach es X.env)).any (·.1) = false := by rfl) :
    PE X (.Call (.Name x p) (e :: es) [] pos) (fun σ H Q => t σ H fun vs H1 => sp vs H1 Q E) := by
  refine ⟨fun pins s σ H Q I h => wpAny_Call_Name_kw (ld_glob I hg hm ?_ hdb)⟩
  refine PySem.W.callWith_K (h₀ := X.base) I.ok.mod.kin hk (thn (ha.run pos pins s σ H _ I h) ?_) he hpl
  intro us s1 ⟨vs, H1, I1, r, q⟩
  exact ⟨I1.kIn, run_fnG F hA hr hb hx I1 r q⟩
end

/-! ### the law's call, where its def is an FnG -/
theorem law_callG {P : Program} {w : World} {K : PySem.W.Frag} {mg mb : Str → Option Value} {k : Nat} {fa a : Addr} {fd : FuncData} {x : Str} {sp : Sp} {s₁ : Shared} {vs : List Value} {ns : List Int}
    (KX : K.In s₁.heap) (hns : s₁.heap.Ns mainGlobals mg) (hb : s₁.heap.Ns builtinsNs mb) (hbb : ∀ x : Str, x ≠ "__name__" → mb x = bootBuiltins x)
    (hlim : s₁.heap.NoLimit) (hg : s₁.gens = #[])
    (ha : s₁.heap.get? a = some { cls := .type "list", data := .seq vs.toArray }) (hi : IntsAre vs ns) (hl : ns.length ≤ sizeLine) (hr : Room k callerA)
    (F : ∀ base : Heap, K.In base → base.Ns mainGlobals mg → FnG P w K mg base CX0 k fa fd [x] sp)
    (hbind : ∀ (s : Shared) (u : Value), BindsTo s fd ⟨[u], []⟩ [(x, u)])
    (hsp : ∀ H : Hp, Only H → SqL K H a (ns.map V.int) → sp [.ref a] H (fun v _ => v = .bl true) fun _ _ _ => False) :
    codeAny (model P w) callerA (.call (.ref fa) ⟨[.ref a], []⟩)
      (fun r s' => r = .ok (.ret (.bool true)) ∧ OldK s₁.heap s'.heap ∧ s'.os = s₁.os ∧ AllBare s'.gens) s₁ := by
  have rv := vals_ints hi
  have lenV := hi.length
  have main : ∀ H : Hp, Only H → SqL K H a (ns.map V.int) → HOk P w H s₁.heap → (∀ b, H b ≠ none → b = a) → (H a ≠ none → K.lookup a = none) →
      codeAny (model P w) callerA (.call (.ref fa) ⟨[.ref a], []⟩)
        (fun r s' => r = .ok (.ret (.bool true)) ∧ OldK s₁.heap s'.heap ∧ s'.os = s₁.os ∧ AllBare s'.gens) s₁ := by
    intro H hO hS hok hA hK
    have unt : ∀ {b : Addr} {o : Obj}, s₁.heap.get? b = some o → (b = a → False) → H b = none := by
      intro b o e ne
      cases q : H b with
      | none => rfl
      | some u => exact (ne (hA b (by rw [q]; exact Option.some_ne_none _))).elim
    have nsK : ∀ {b : Addr} {m : Str → Option Value}, s₁.heap.Ns b m → (hidT s₁.heap H).Ns b m := by
      intro b m h
      obtain ⟨o, es, ep, e, d, r⟩ := h
      refine ⟨o, es, ep, hidT_get e (unt e fun z => ?_), d, r⟩
      subst z
      rw [ha] at e
      cases e
      cases d
    have hKb : K.In (hidT s₁.heap H) := by
      intro b o e
      refine hidT_get (KX b o e) ?_
      cases q : H b with
      | none => rfl
      | some u =>
        have nb : H b ≠ none := by
          rw [q]
          exact Option.some_ne_none _
        have z := hA b nb
        subst z
        rw [hK nb] at e
        cases e
    have hM : Mod K mg (hidT s₁.heap H) := by
      refine ⟨hKb, nsK hns, ⟨mb, nsK hb, hbb⟩, ?_⟩
      obtain ⟨mc, h1, h2⟩ := hlim
      exact ⟨mc, nsK h1, h2⟩
    have e0 : Env0 P w K mg (hidT s₁.heap H) callerA [] s₁ H :=
      { frames := rfl, mod := hM, bs := fun b o e => of_hidT e, bsz := Nat.le_of_eq (hidT_size _ _), funs := trivial,
        frf := fun b hb => absurd hb List.not_mem_nil, hok := hok, bare := .of_eq hg }
    have run := (F _ hKb (nsK hns)).go callerA rfl [] s₁ H ⟨[.ref a], []⟩ [.ref a] [.ref a] (fun v _ => v = .bl true) (fun _ _ _ => False) hr e0 (hbind s₁ (.ref a)) (.cons rfl .nil) (hsp H hO hS)
    refine codeAny_mono run ?_
    intro r s' h
    cases r with
    | error e => exact False.elim h
    | ok fl => cases fl with
      | next => exact False.elim h
      | brk => exact False.elim h
      | cont => exact False.elim h
      | ret u =>
        obtain ⟨v, H', os, bare, un, hok', r', q⟩ := h
        obtain rfl : v = .bl true := q
        obtain rfl : u = Value.bool true := r'
        refine ⟨rfl, OldK.of_keep ?_, os, bare⟩
        intro b o e
        cases q : H b with
        | none => exact un.keep b o e q List.not_mem_nil List.not_mem_nil
        | some u =>
          cases hO b with
          | inl z =>
            rw [q] at z
            cases z
          | inr z =>
            obtain ⟨ob, xs, z⟩ := z
            obtain ⟨e1, _⟩ := hok b _ z
            obtain ⟨e2, _⟩ := hok' b _ (un.frzs b ob _ z)
            rw [e] at e1
            cases e1
            exact e2
  cases hk : K.lookup a with
  | some o =>
    have e := KX a o hk
    rw [ha] at e
    cases e
    refine main (fun _ => none) (fun _ => Or.inl rfl) (Or.inr ⟨_, vs.toArray, _, hk, rfl, rfl, rfl, ?_, ?_⟩) ?_ (fun b z => absurd rfl z) (fun z => absurd rfl z)
    · rw [List.size_toArray, lenV]
      exact hl
    · simpa using rv
    · intro b u z
      have z' : (none : Option HO) = some u := z
      cases z'
  | none =>
    have hat : ∀ b : Addr, (fun b => if b = a then some (HO.frz { cls := .type "list", data := .seq vs.toArray } (.lst (ns.map V.int))) else none) b ≠ none → b = a := by
      intro b z
      by_cases hb : b = a
      · exact hb
      · exact absurd (if_neg hb) z
    refine main (fun b => if b = a then some (HO.frz { cls := .type "list", data := .seq vs.toArray } (.lst (ns.map V.int))) else none) ?_ (Or.inl (Or.inr ⟨_, if_pos rfl⟩)) ?_ hat (fun _ => hk)
    · intro b
      by_cases hb : b = a
      · exact Or.inr ⟨_, _, if_pos hb⟩
      · exact Or.inl (if_neg hb)
    · intro b u z
      by_cases hb : b = a
      · have z' := (if_pos hb).symm.trans z
        cases z'
        subst hb
        refine ⟨ha, ?_, vs, _, rv, ha⟩
        rw [List.length_map]
        exact hl
      · have z' := (if_neg hb).symm.trans z
        cases z'

/-- the law row from the promise of its def -/
theorem walkG {l : PySem.W.OpenLaw} {n k : Nat} {q : Program} {loose : List Str} {XP : (Str → Option Value) → Heap → Prop} {YP : World → Heap → Prop} {d : DefRec} {K : Params → PySem.W.Frag} {sp : PySem.W.Frag → Sp} {x : Str}
    (hn : l.most = some n) (hn2 : n ≤ sizeLine) (hdf : d.params.defaults = []) (hr : Room k callerA)
    (hY : ∀ (w : World) (h : Heap), YP w h → (K w.params).In h)
    (F : ∀ (w : World) (mg : Str → Option Value) (fa : Addr) (h : Heap), (K w.params).In h → h.Ns mainGlobals mg → mg d.name = some (.ref fa) →
      ∃ fd : FuncData, (∀ (s : Shared) (u : Value), BindsTo s fd ⟨[u], []⟩ [(x, u)]) ∧
        ∀ base : Heap, (K w.params).In base → base.Ns mainGlobals mg → FnG l.prog w (K w.params) mg base CX0 k fa fd [x] (sp (K w.params)))
    (hsp : ∀ (K : PySem.W.Frag) (H : Hp) (a : Addr) (ns : List Int), ns.length ≤ n → Only H → SqL K H a (ns.map V.int) → sp K [.ref a] H (fun v _ => v = .bl true) fun _ _ _ => False) :
    PySem.W.WalkO q loose XP YP l.row.toRowW d [] (fun f vs => PySem.call f vs) := by
  refine Att.attach_call hn hdf ?_
  intro w s₀ s₁ mg mb fa o pm cd doc a vs ns G Y ho hd hcd hmg hobj hints hlen hg
  have KX := hY w _ Y
  obtain ⟨fd, hb, hF⟩ := F w mg fa _ KX G.T.g hmg
  exact law_callG KX G.T.g G.T.b G.T.builtins G.T.nolimit hg hobj hints (Nat.le_trans hlen hn2) hr hF hb (fun H hO hS => hsp _ H a ns hlen hO hS)

/-! ### repr of data -/
section
variable {X : Cx}
theorem call_reprD (hA : X.A.guards = some []) (hu : X.A.units + 64 < cLine) : CallR X (.builtin "repr") (fun xs H Q => ∃ (a : Addr) (d : PyData), xs = [.ref a] ∧ Dp X.K H (.ref a) d ∧
    d.showable = true ∧ d.hasDict = false ∧ d.depth ≤ 60 ∧ d.shown.length ≤ sizeLine ∧ Q (.str d.shown) H) := by
  intro pins s σ H xs us Q I r h
  obtain ⟨a, d, rfl, hd, hs, hn, hdep, hz, q⟩ := h
  obtain ⟨u, rfl, rx⟩ := vals1 r
  cases (show u = Value.ref a from rx)
  obtain ⟨as, rd⟩ := Dp.reads I d _ _ hd rfl
  refine repr_of_reads' rd hs (PyData.noDict_hsm hn) hA (by omega) (fun b o e => e) ?_ hz
  intro h' u tk hk
  exact ⟨.str d.shown, H, I.kept hk, ⟨u, rfl⟩, q⟩
end
end Mf
namespace Mf
open PySem PySem.Spec PyProof.Rows L2
/-- where one stands: the program, the world, what is written, the module's names -/
structure Cn where
  P : Program
  w : World
  K : PySem.W.Frag
  mg : Str → Option Value
  base : Heap
abbrev cnOf (X : Cx) : Cn := ⟨X.prog, X.w, X.K, X.mg, X.base⟩
/-- a def that can be called by its name -/
structure Cl (c : Cn) (k : Nat) (x : Str) (st : Stmt) (ps : List Str) (sp : Sp) : Prop where
  ex : ∃ (f : Addr) (fd : FuncData), FnG c.P c.w c.K c.mg c.base CX0 k f fd ps sp ∧ c.mg x = some (.ref f) ∧ Fun c.K x x st f fd
/-- a def of the text as it stands -/
structure De (c : Cn) (x : Str) (st : Stmt) : Prop where
  ex : ∃ (f : Addr) (fd : FuncData), c.mg x = some (.ref f) ∧ Fun c.K x x st f fd
/-- the arguments written one behind another -/
def Pl (x : Str) (st : Stmt) (ps : List Str) : Prop := ∀ (kV doc pm : Value) (an : Option Addr) (cdv ct : Value) (us : List Value), us.length = ps.length →
  bindArgs (PySem.W.fnOf x x (defArgs st) (defBody st) (defScope st) .none kV doc pm an cdv ct) ⟨us, []⟩ = pure (ps.zip us)
/-- .. by names alone: the names as they are written, and how they are put in order -/
def Pk (x : Str) (st : Stmt) (ps ks : List Str) (g : List Value → List Value) : Prop := ∀ (kV doc pm : Value) (an : Option Addr) (cdv ct : Value) (ws : List Value), ws.length = ks.length →
  bindArgs (PySem.W.fnOf x x (defArgs st) (defBody st) (defScope st) .none kV doc pm an cdv ct) ⟨[], ks.zip ws⟩ = pure (ps.zip (g ws))

theorem De.cl {c : Cn} {x : Str} {st : Stmt} {N ps : List Str} {k : Nat} {sp : Sp} (D : De c x st) (S : FnScope N ps (defScope st))
    (len : ∀ vs H Q E, sp vs H Q E → vs.length = ps.length)
    (hbody : ∀ (f : Addr) (cdv : Value) (A : Around) (outer : List Env) (s : Shared) (H : Hp) (vs : List V) (Q : VK) (E : XK),
      (A.deeper (envOfC x (defScope st) s.heap.objs.size f cdv)).guards = some [] →
      Room k (A.deeper (envOfC x (defScope st) s.heap.objs.size f cdv)) → sp vs H Q E →
      ∃ t, PSs (cxOf CX0 c.P c.w c.K c.mg c.base N x (defScope st) f cdv A outer s H E).nox (defBody st) t ∧
        t { nx := fun _ H' => Q .non H', rt := Q } (start N vs) H) : Cl c (k + 1) x st ps sp := by
  obtain ⟨f, fd, hm, F⟩ := D.ex
  exact ⟨f, fd, okG F S len (hbody f), hm, F⟩

section
variable {X : Cx} {k j : Nat} {f : Addr} {ps ks : List Str} {sp : Sp} {x : Str} {p pos : Pos} {e : Expr} {es : List Expr} {t tk : TA} {st : Stmt} {kws : List Keyword}
def tCl (sp : Sp) (t : TA) : TE := fun σ H Q => t σ H fun vs H1 => sp vs H1 Q E0
def tClK (sp : Sp) (g : List V → List V) (t : TA) : TE := fun σ H Q => t σ H fun vs H1 => sp (g vs) H1 Q E0
/-- f(e, ..) -/
theorem pe_f (c : Cl (cnOf X) k x st ps sp) (hA : X.A.guards = some []) (hr : Room j X.A) (hk : k ≤ j) (hp : Pl x st ps) (hg : Gl X x) (ha : PA X (e :: es) t)
    (hdb : (x == ("__debug__" : Str)) = false := by decide) (he : starEach (e :: es) X.env = (false, eval e X.env) :: starEach es X.env := by rfl)
    (hpl : (backTo pos (starEach es X.env)).any (·.1) = false := by rfl) : PE X (.Call (.Name x p) (e :: es) [] pos) (tCl sp t) := by
  obtain ⟨f, fd, F, hm, W⟩ := c.ex
  exact pe_callG F hA (hr.mono hk) hg hm W.kp (W.binds hp) pass0 ha hdb he hpl
/-- f(k = e, ..) -/
theorem pe_fk {g : List Value → List Value} {gV : List V → List V} (c : Cl (cnOf X) k x st ps sp) (hA : X.A.guards = some []) (hr : Room j X.A) (hk : k ≤ j) (hp : Pk x st ps ks g)
    (rel : ∀ {vs : List V} {us : List Value}, Vals vs us → us.length = ks.length → Vals (gV vs) (g us)) (hl : ∀ vs : List V, (gV vs).length = ps.length → vs.length = ks.length) (hg : Gl X x) (hkw : PK X kws tk)
    (hall : (backToKw pos (keywordEach kws X.env)).all (·.1.isSome) = true := by rfl) (hks : (backToKw pos (keywordEach kws X.env)).filterMap (·.1) = ks := by rfl)
    (hdb : (x == ("__debug__" : Str)) = false := by decide)
    (hpl : ((backTo pos (starEach [] X.env)).any (·.1) || (backToKw pos (keywordEach kws X.env)).any (·.1.isNone)) = false := by rfl) :
    PE X (.Call (.Name x p) [] kws pos) (tClK sp gV tk) := by
  obtain ⟨f, fd, F, hm, W⟩ := c.ex
  refine ⟨fun pins s σ H Q I h => ?_⟩
  refine wpAny_Call_Name_kw (ld_glob I hg hm ?_ hdb)
  refine PySem.W.callWith_KW0 (h₀ := X.base) I.ok.mod.kin W.kp hall (thn (hkw.run pos pins s σ H _ I h) ?_) hpl
  intro ws s2 ⟨zs, H2, I2, rz, q2⟩
  refine ⟨I2.kIn, ?_⟩
  rw [hks]
  have l0 := F.size _ _ _ _ q2
  have l1 : ws.length = ks.length := by
    rw [← rz.length]
    exact hl _ l0
  have r2 := rel rz l1
  have hb : BindsTo s2 fd ⟨[], ks.zip ws⟩ (ps.zip (g ws)) := by
    obtain ⟨oc, od, kV, doc, pm, an, cdv, ct, osl, rfl, lk, hcd⟩ := W.ex
    exact .of_eq (hp kV doc pm an cdv ct ws l1)
  refine wpAny_call (codeAny_mono (F.go X.A hA X.stack s2 H2 ⟨[], ks.zip ws⟩ (g ws) (gV zs) Q E0 (hr.mono hk) I2.env0 hb r2 q2) ?_)
  intro r s' hq
  cases r with
  | error e => exact pass0 pins σ H2 s2 e s' I2 hq
  | ok fl => cases fl with
    | ret u => exact I2.after hq
    | next => exact hq.elim
    | brk => exact hq.elim
    | cont => exact hq.elim
end

/-! ### operators for whatever comes -/
section
variable {X : Cx}
theorem OpR_or {f : Value → Value → Sem Value} {r r' : R2} (h : OpR X f r) (h' : OpR X f r') : OpR X f (fun x y H Q => r x y H Q ∨ r' x y H Q) := by
  intro pins s σ H x y v u Q I rx ry q
  cases q with
  | inl q => exact h pins s σ H x y v u Q I rx ry q
  | inr q => exact h' pins s σ H x y v u Q I rx ry q
def CMulU (i j : Int) : Prop := CMul i j ∨ CMulW i j
theorem op_mulI : OpR X (binaryOp .Mult) (rI CMulU fun i j => .int (i * j)) := by
  intro pins s σ H x y v u Q I rx ry q
  obtain ⟨i, j, e1, e2, c, q⟩ := q
  cases c with
  | inl c => exact op_mul pins s σ H x y v u Q I rx ry ⟨i, j, e1, e2, c, q⟩
  | inr c => exact op_mulW pins s σ H x y v u Q I rx ry ⟨i, j, e1, e2, c, q⟩
def rAddU : R2 := fun x y H Q => rI0 (fun i j => .int (i + j)) x y H Q ∨ rCat x y H Q
theorem op_addU : OpR X (binaryOp .Add) rAddU := OpR_or op_add op_cat
def rMulU : R2 := fun x y H Q => rI CMulU (fun i j => .int (i * j)) x y H Q ∨ rRep x y H Q
theorem op_mulU : OpR X (binaryOp .Mult) rMulU := OpR_or op_mulI op_rep
def rEqU (K : PySem.W.Frag) : R2 := fun x y H Q => rEq x y H Q ∨ rEqD K x y H Q
def rNeU (K : PySem.W.Frag) : R2 := fun x y H Q => rNe x y H Q ∨ rNeD K x y H Q
theorem op_eqU (hu : X.A.units + 64 < cLine) : OpR X (compareOp .Eq) (rEqU X.K) := OpR_or op_eq (op_eqD hu)
theorem op_neU (hu : X.A.units + 64 < cLine) : OpR X (compareOp .NotEq) (rNeU X.K) := OpR_or op_ne (op_neD hu)
/-- is of a bool that is written -/
def rIsT (b : Bool) : R2 := fun x y H Q => y = .bl b ∧ ((∃ a, x = .bl a ∧ Q (.bl (decide (a = b))) H) ∨ (∃ i, x = .int i ∧ Q (.bl false) H))
def rNotT (b : Bool) : R2 := fun x y H Q => y = .bl b ∧ ((∃ a, x = .bl a ∧ Q (.bl (!decide (a = b))) H) ∨ (∃ i, x = .int i ∧ Q (.bl true) H))
theorem op_notT {b : Bool} : OpR X (compareOp .IsNot) (rNotT b) := by
  intro pins s σ H x y v u Q I rx ry h
  obtain ⟨rfl, h⟩ := h
  rcases h with ⟨a, rfl, q⟩ | ⟨i, rfl, q⟩
  · exact op_notBl pins s σ H _ _ v u Q I rx ry ⟨a, b, rfl, rfl, q⟩
  · obtain ⟨t, rfl⟩ := rx
    cases (show u = Value.bool b from ry)
    exact wpAny_isNot_other rfl (fun z => Value.noConfusion z) ⟨.bl true, H, I, rfl, q⟩
/-- is None, is not None -/
def rIsN : R2 := fun x y H Q => y = .non ∧ Q (.bl (decide (x = .non))) H
def rNotN : R2 := fun x y H Q => y = .non ∧ Q (.bl (!decide (x = .non))) H
theorem op_isNU : OpR X (compareOp .Is) rIsN := op_isN
theorem op_notNU : OpR X (compareOp .IsNot) rNotN := op_notN

/-- what a for walks: one rule or another -/
theorem pi_or {tg it : Expr} {w1 w2 : TI} (h1 : PI X tg it w1) (h2 : PI X tg it w2) : PI X tg it (fun σ H R => w1 σ H R ∨ w2 σ H R) := by
  refine ⟨fun pins s σ H R I h => ?_⟩
  cases h with
  | inl h => exact h1.run pins s σ H R I h
  | inr h => exact h2.run pins s σ H R I h
end

/-! ### isinstance(e, (list, tuple)): the tuple of classes is not tracked -/
def tSeqP (K : PySem.W.Frag) (te : TE) : TE := fun σ H Q => te σ H fun x H1 => ∃ t b, TyX K H1 x (.type t) ∧ PySem.W.kitAny K (.type t) [.type "list", .type "tuple"] = some b ∧ Q (.bl b) H1
section
variable {X : Cx} {e : Expr} {te : TE} {p p1 p2 pt pos : Pos} {kt : Nat}
theorem pe_isSeq (hg : Gl X "isinstance") (hm : X.mg "isinstance" = none) (hg1 : Gl X "list") (hm1 : X.mg "list" = none) (hg2 : Gl X "tuple") (hm2 : X.mg "tuple" = none) (he : PE X e te)
    (hs : starEach [e, .Tuple [.Name "list" p1, .Name "tuple" p2] kt pt] X.env = [(false, eval e X.env), (false, eval (.Tuple [.Name "list" p1, .Name "tuple" p2] kt pt) X.env)] := by rfl)
    (hi : starEach [.Name "list" p1, .Name "tuple" p2] X.env = [(false, eval (.Name "list" p1) X.env), (false, eval (.Name "tuple" p2) X.env)] := by rfl) :
    PE X (.Call (.Name "isinstance" p) [e, .Tuple [.Name "list" p1, .Name "tuple" p2] kt pt] [] pos) (tSeqP X.K te) := by
  refine ⟨fun pins s σ H Q I h => ?_⟩
  have hv : bootBuiltins "isinstance" = some (.builtin "isinstance") := by decide +kernel
  refine wpAny_Call_Name_kw (ld_blt I hg hm hv ?_ (by decide) (by decide))
  refine PyProof.Rows.callWith_builtin1 ?_ (by rw [hs]; rfl) (by rfl)
  rw [hs]
  show wpAny _ _ (spliced ((false, eval e X.env) :: backTo pos [(false, eval (.Tuple [.Name "list" p1, .Name "tuple" p2] kt pt) X.env)])) _ _ s
  refine Calls.spliced_cons (thn (he.run pins s σ H _ I h) ?_)
  intro u s1 ⟨x, H1, I1, r1, t, b, ty, kt', q⟩
  refine Calls.spliced_cons (wpAny_mono (Q := fun v s2 => v = .ref s1.heap.objs.size ∧ s2 = { s1 with heap := s1.heap.push { cls := .type "tuple", data := .seq [Value.type "list", Value.type "tuple"].toArray } }) ?_ ?_ (fun _ _ z => z))
  · refine wpAny_Tuple_spliced (x1 := kt) ?_
    rw [hi]
    show wpAny _ _ (spliced ((false, eval (.Name "list" p1) X.env) :: backTo pt [(false, eval (.Name "tuple" p2) X.env)])) _ _ s1
    refine Calls.spliced_cons (ld_blt I1 hg1 hm1 PyProof.Rows.boot_list ?_ (by decide) (by decide))
    refine Calls.spliced_cons (ld_blt I1 hg2 hm2 PyProof.Rows.boot_tuple ?_ (by decide) (by decide))
    refine Calls.spliced_nil ?_
    exact ⟨by show 2 ≤ sizeLine; decide, rfl, rfl⟩
  · intro v s2 hv
    obtain ⟨rfl, rfl⟩ := hv
    refine Calls.spliced_nil ?_
    have I2 := I1.kept (h' := s1.heap.push { cls := .type "tuple", data := .seq [Value.type "list", Value.type "tuple"].toArray }) (t' := s1.toks) (fun b u e => Heap.get?_push_of_some _ e)
    obtain ⟨Pz, Z, pz, hx⟩ := kit_of I2 r1 ty
    exact PySem.W.kia_tup Z I2.kIn pz (Heap.get?_push_size _ rfl) kt' hx fun tk => ⟨.bl b, H1, I2.tok tk, rfl, q⟩
end
end Mf
namespace Mf
open PySem PySem.Spec PyProof.Rows L2

/-! ### readings, step by step -/
section
variable {K : PySem.W.Frag} {σ : L2.St} {H : Hp} {Q : VK} {v x y : V} {ta tb te : TE} {t u tt : TT} {tr : TA} {r : R2} {D : Ends} {t1 t2 : TS}
theorem g_var {i : Nat} (h : σ[i]? = some (some v)) (q : Q v H) : tVar i σ H Q := ⟨v, h, q⟩
theorem g_c (q : Q v H) : tC v σ H Q := q
theorem g_op (q : ta σ H fun x H1 => tb σ H1 fun y H2 => r x y H2 Q) : tOp r ta tb σ H Q := q
theorem g_un {r : V → Hp → VK → Prop} (q : ta σ H fun x H1 => r x H1 Q) : tUn r ta σ H Q := q
theorem g_cb {r : List V → Hp → VK → Prop} (q : tr σ H fun vs H1 => r vs H1 Q) : tCB r tr σ H Q := q
theorem g_cl {sp : Sp} (q : tr σ H fun vs H1 => sp vs H1 Q E0) : tCl sp tr σ H Q := q
theorem g_clk {sp : Sp} {g : List V → List V} (q : tr σ H fun vs H1 => sp (g vs) H1 Q E0) : tClK sp g tr σ H Q := q
theorem g_nil {R : List V → Hp → Prop} (q : R [] H) : tNil σ H R := q
theorem g_cons {R : List V → Hp → Prop} (q : ta σ H fun x H1 => tr σ H1 fun xs H2 => R (x :: xs) H2) : tCons ta tr σ H R := q
theorem g_tB {R : Bool → Hp → Prop} (q : te σ H fun x H1 => ∃ c, x = .bl c ∧ R c H1) : tB te σ H R := q
theorem g_test {R : Bool → Hp → Prop} (q : te σ H fun x H1 => ∃ c, x = .bl c ∧ R c H1) : tTest te σ H R := q
theorem g_bl {b : Bool} {R : Bool → Prop} (q : R b) : ∃ c, V.bl b = .bl c ∧ R c := ⟨b, rfl, q⟩
theorem g_and {R : Bool → Hp → Prop} (q : t σ H fun c H1 => if c = true then u σ H1 R else R false H1) : tAnd t u σ H R := q
theorem g_or {R : Bool → Hp → Prop} (q : t σ H fun c H1 => if c = true then R true H1 else u σ H1 R) : tOr t u σ H R := q
theorem g_not {R : Bool → Hp → Prop} (q : t σ H fun c H1 => R (!c) H1) : tNot t σ H R := q
theorem g_andV (q : ta σ H fun x H1 => ∃ c, x = .bl c ∧ if c = true then tb σ H1 Q else Q (.bl false) H1) : tAndV ta tb σ H Q := q
theorem g_orV (q : ta σ H fun x H1 => ∃ c, x = .bl c ∧ if c = true then Q (.bl true) H1 else tb σ H1 Q) : tOrV ta tb σ H Q := q
theorem g_notV (q : ta σ H fun x H1 => ∃ c, x = .bl c ∧ Q (.bl (!c)) H1) : tNotV ta σ H Q := q
theorem g_if (q : t σ H fun c H1 => if c = true then ta σ H1 Q else tb σ H1 Q) : tIf t ta tb σ H Q := q
theorem g_ifS (q : t σ H fun b H1 => if b = true then t1 D σ H1 else t2 D σ H1) : tIfS t t1 t2 D σ H := q
theorem g_seq (q : t1 ⟨t2 D, D.rt, D.bk, D.ct⟩ σ H) : tSeq t1 t2 D σ H := q
theorem g_next (q : D.nx σ H) : tNext D σ H := q
theorem g_ret (q : te σ H D.rt) : tRet te D σ H := q
theorem g_drop (q : te σ H fun _ H1 => D.nx σ H1) : tDrop te D σ H := q
theorem g_asg {g : TG} (q : te σ H fun x H1 => g x σ H1 D.nx) : tAsg te g D σ H := q
theorem g_name {i : Nat} {R : L2.St → Hp → Prop} (q : R (σ.set i (some v)) H) : gName i v σ H R := q
theorem g_I0 {g : Int → Int → V} {i j : Int} (q : Q (g i j) H) : rI0 g (.int i) (.int j) H Q := ⟨i, j, rfl, rfl, q⟩
theorem g_I {C : Int → Int → Prop} {g : Int → Int → V} {i j : Int} (c : C i j) (q : Q (g i j) H) : rI C g (.int i) (.int j) H Q := ⟨i, j, rfl, rfl, c, q⟩
theorem g_addI {i j : Int} (q : Q (.int (i + j)) H) : rAddU (.int i) (.int j) H Q := .inl ⟨i, j, rfl, rfl, q⟩
theorem g_mulI {i j : Int} (c : CMulU i j) (q : Q (.int (i * j)) H) : rMulU (.int i) (.int j) H Q := .inl ⟨i, j, rfl, rfl, c, q⟩
theorem g_U {g : Int → V} {i : Int} (q : Q (g i) H) : rU g (.int i) H Q := ⟨i, rfl, q⟩
theorem g_isN (q : Q (.bl (decide (x = .non))) H) : rIsN x .non H Q := ⟨rfl, q⟩
theorem g_notN (q : Q (.bl (!decide (x = .non))) H) : rNotN x .non H Q := ⟨rfl, q⟩
theorem g_notTb {a b : Bool} (q : Q (.bl (!decide (a = b))) H) : rNotT b (.bl a) (.bl b) H Q := ⟨rfl, .inl ⟨a, rfl, q⟩⟩
theorem g_notT1 (q : Q (.bl false) H) : rNotT true (.bl true) (.bl true) H Q := ⟨rfl, .inl ⟨true, rfl, q⟩⟩
theorem g_notT2 (q : Q (.bl true) H) : rNotT true (.bl false) (.bl true) H Q := ⟨rfl, .inl ⟨false, rfl, q⟩⟩
theorem g_notT3 (q : Q (.bl true) H) : rNotT false (.bl true) (.bl false) H Q := ⟨rfl, .inl ⟨true, rfl, q⟩⟩
theorem g_notT4 (q : Q (.bl false) H) : rNotT false (.bl false) (.bl false) H Q := ⟨rfl, .inl ⟨false, rfl, q⟩⟩
theorem g_notTi {i : Int} {b : Bool} (q : Q (.bl true) H) : rNotT b (.int i) (.bl b) H Q := ⟨rfl, .inr ⟨i, rfl, q⟩⟩
theorem g_eqI {i j : Int} (q : Q (.bl (decide (i = j))) H) : rEqU K (.int i) (.int j) H Q := .inl ⟨rfl, by
  have e : decide (V.int i = V.int j) = decide (i = j) := by
    by_cases h : i = j
    · subst h; simp
    · simp [h]
  rw [e]; exact q⟩
theorem g_neI {i j : Int} (q : Q (.bl (!decide (i = j))) H) : rNeU K (.int i) (.int j) H Q := .inl ⟨rfl, by
  have e : decide (V.int i = V.int j) = decide (i = j) := by
    by_cases h : i = j
    · subst h; simp
    · simp [h]
  rw [e]; exact q⟩
theorem g_neS {a b : Str} (q : Q (.bl (!decide (a = b))) H) : rNeU K (.str a) (.str b) H Q := .inl ⟨rfl, by
  have e : decide (V.str a = V.str b) = decide (a = b) := by
    by_cases h : a = b
    · subst h; simp
    · simp [h]
  rw [e]; exact q⟩
theorem g_eqS {a b : Str} (q : Q (.bl (decide (a = b))) H) : rEqU K (.str a) (.str b) H Q := .inl ⟨rfl, by
  have e : decide (V.str a = V.str b) = decide (a = b) := by
    by_cases h : a = b
    · subst h; simp
    · simp [h]
  rw [e]; exact q⟩
theorem g_iteT {A B : Prop} (h : A) : if true = true then A else B := iteT h
theorem g_iteF {A B : Prop} (h : B) : if false = true then A else B := iteF h
theorem g_iteNT {A B : Prop} (h : B) : if (!true) = true then A else B := iteF h
theorem g_iteNF {A B : Prop} (h : A) : if (!false) = true then A else B := iteT h
theorem g_ite {b : Bool} {A B : Prop} (h1 : b = true → A) (h2 : b = false → B) : if b = true then A else B := by
  cases b with
  | true => exact iteT (h1 rfl)
  | false => exact iteF (h2 rfl)
/-- a new list, a new tuple -/
theorem same_new {H : Hp} {p : Addr} {o : HO} (h : H p = none) : Same H (upd H p o) := fun b z e => by
  rw [upd_ne (ne_of_none e h)]
  exact e
/-- a new list, a new tuple is laid -/
def NewL (xs : List V) (H : Hp) (Q : VK) : Prop := xs.length ≤ sizeLine ∧ ∀ p, H p = none → Q (.ref p) (upd H p (.lst xs))
def NewT (xs : List V) (H : Hp) (Q : VK) : Prop := xs.length ≤ sizeLine ∧ ∀ p, H p = none → Q (.ref p) (upd H p (.tup xs))
theorem g_newL {xs : List V} (hl : xs.length ≤ sizeLine) (q : ∀ p H2, H p = none → Same H H2 → H2 p = some (.lst xs) → Q (.ref p) H2) : NewL xs H Q :=
  ⟨hl, fun p hp => q p _ hp (same_new hp) upd_same⟩
theorem g_newT {xs : List V} (hl : xs.length ≤ sizeLine) (q : ∀ p H2, H p = none → Same H H2 → H2 p = some (.tup xs) → Q (.ref p) H2) : NewT xs H Q :=
  ⟨hl, fun p hp => q p _ hp (same_new hp) upd_same⟩
theorem g_lst (q : tr σ H fun xs H1 => NewL xs H1 Q) : tLst tr σ H Q := q
theorem g_tup (q : tr σ H fun xs H1 => NewT xs H1 Q) : tTup tr σ H Q := q
/-- a list and a list, one behind another -/
theorem g_cat {l b : Addr} {xs zs : List V} (h1 : H l = some (.lst xs)) (h2 : H b = some (.lst zs)) (hz : xs.length + zs.length ≤ sizeLine)
    (q : ∀ p H2, H p = none → Same H H2 → H2 p = some (.lst (xs ++ zs)) → Q (.ref p) H2) : rAddU (.ref l) (.ref b) H Q :=
  .inr ⟨l, b, xs, zs, rfl, rfl, h1, h2, hz, fun p hp => q p _ hp (same_new hp) upd_same⟩
theorem g_rep {l : Addr} {k : Int} {xs : List V} (h1 : H l = some (.lst xs)) (k0 : 0 ≤ k) (k1 : k ≤ 1000) (hz : xs.length * k.toNat ≤ sizeLine)
    (q : ∀ p H2, H p = none → Same H H2 → H2 p = some (.lst (List.replicate k.toNat xs).flatten) → Q (.ref p) H2) : rMulU (.ref l) (.int k) H Q :=
  .inr ⟨l, k, xs, rfl, rfl, h1, by omega, by omega, hz, fun p hp => q p _ hp (same_new hp) upd_same⟩
/-- built-in functions, their readings by name -/
def rIntU : List V → Hp → VK → Prop := fun xs H Q => (∃ i, xs = [.int i] ∧ Q (.int i) H) ∨ ∃ k, xs = [.bl k] ∧ Q (.int (if k then 1 else 0)) H
theorem call_intU {X : Cx} : CallR X (.type "int") rIntU := call_int1
def rAbsU : List V → Hp → VK → Prop := fun xs H Q => ∃ i, xs = [.int i] ∧ Q (.int (if i < 0 then -i else i)) H
theorem call_absU {X : Cx} : CallR X (.builtin "abs") rAbsU := call_abs
def rLenU (K : PySem.W.Frag) : List V → Hp → VK → Prop := fun xs H Q => ∃ x n, xs = [x] ∧ LenV K x H n ∧ Q (.int (n : Nat)) H
theorem call_lenU {X : Cx} : CallR X (.builtin "len") (rLenU X.K) := call_len
def rReprU (K : PySem.W.Frag) : List V → Hp → VK → Prop := fun xs H Q => ∃ (v : V) (d : PyData), xs = [v] ∧ Dp K H v d ∧
    d.showable = true ∧ d.hasDict = false ∧ d.depth ≤ 60 ∧ d.shown.length ≤ sizeLine ∧ Q (.str d.shown) H
theorem call_reprU {X : Cx} (hA : X.A.guards = some []) (hu : X.A.units + 64 < cLine) : CallR X (.builtin "repr") (rReprU X.K) := by
  intro pins s σ H xs us Q I r h
  obtain ⟨v, d, rfl, hd, hs, hn, hdep, hz, q⟩ := h
  have arm := @call_reprD X hA hu pins s σ H [v] us Q I r
  obtain ⟨u, rfl, rx⟩ := vals1 r
  cases hd with
  | non =>
    cases (show u = Value.none from rx)
    exact PySem.P.repr_of_none ⟨.str _, H, I.tok _, ⟨_, rfl⟩, q⟩
  | bl b =>
    cases (show u = Value.bool b from rx)
    exact PySem.P.repr_of_bool ⟨.str _, H, I.tok _, ⟨_, rfl⟩, q⟩
  | int i =>
    obtain ⟨t, rfl⟩ := (show ∃ t, u = Value.int i t from rx)
    exact PySem.P.repr_of_int (of_decide_eq_true hs) ⟨.str _, H, I.tok _, ⟨_, rfl⟩, q⟩
  | str x =>
    obtain ⟨t, rfl⟩ := (show ∃ t, u = Value.str x t from rx)
    exact PySem.P.repr_of_str ⟨.str _, H, I.tok _, ⟨_, rfl⟩, q⟩ hz
  | lst h1 h2 => exact arm ⟨_, _, rfl, .lst h1 h2, hs, hn, hdep, hz, q⟩
  | tup h1 h2 => exact arm ⟨_, _, rfl, .tup h1 h2, hs, hn, hdep, hz, q⟩
theorem g_int {i : Int} (q : Q (.int i) H) : rIntU [.int i] H Q := .inl ⟨i, rfl, q⟩
theorem g_intB {k : Bool} (q : Q (.int (if k then 1 else 0)) H) : rIntU [.bl k] H Q := .inr ⟨k, rfl, q⟩
theorem g_abs {i : Int} (q : Q (.int (if i < 0 then -i else i)) H) : rAbsU [.int i] H Q := ⟨i, rfl, q⟩
theorem g_isNn (q : Q (.bl true) H) : rIsN .non .non H Q := ⟨rfl, q⟩
theorem g_isNi {i : Int} (q : Q (.bl false) H) : rIsN (.int i) .non H Q := ⟨rfl, by simpa using q⟩
theorem g_repr {d : PyData} (h : Dp K H v d) (h1 : d.showable = true) (h2 : d.hasDict = false) (h3 : d.depth ≤ 60) (h4 : d.shown.length ≤ sizeLine) (q : Q (.str d.shown) H) : rReprU K [v] H Q :=
  ⟨v, d, rfl, h, h1, h2, h3, h4, q⟩
end

/-! ### what is kept but at q -/
structure SameX (q : Addr) (H H' : Hp) : Prop where
  kept : ∀ b o, b ≠ q → H b = some o → H' b = some o
  cell : ∀ c t r, H q = some (.lst [.ref c, t, r]) → ∃ t' r', H' q = some (.lst [.ref c, t', r'])
instance {q : Addr} {H H' : Hp} : CoeFun (SameX q H H') (fun _ => ∀ b o, b ≠ q → H b = some o → H' b = some o) := ⟨SameX.kept⟩
theorem Same.x {q : Addr} {H H' : Hp} (s : Same H H') : SameX q H H' := ⟨fun b o _ e => s b o e, fun c t r e => ⟨t, r, s _ _ e⟩⟩
theorem SameX.refl (q : Addr) (H : Hp) : SameX q H H := ⟨fun _ _ _ e => e, fun c t r e => ⟨t, r, e⟩⟩
theorem SameX.trans {q : Addr} {H H1 H2 : Hp} (a : SameX q H H1) (b : SameX q H1 H2) : SameX q H H2 := ⟨fun c o n e => b.kept c o n (a.kept c o n e), fun c t r e => by
  obtain ⟨t1, r1, e1⟩ := a.cell c t r e
  exact b.cell c t1 r1 e1⟩
theorem SameX.rd {q a : Addr} {H H' : Hp} {u : HO} (s : SameX q H H') (n : a ≠ q) (h : Rd H a u) : Rd H' a u := by
  rcases h with h | ⟨o, h⟩
  · exact .inl (s _ _ n h)
  · exact .inr ⟨o, s _ _ n h⟩
theorem SameX.seq {K : PySem.W.Frag} {q a : Addr} {H H' : Hp} {xs : List V} (s : SameX q H H') (n : a ≠ q) (h : SqL K H a xs) : SqL K H' a xs := by
  rcases h with h | h
  · exact .inl (s.rd n h)
  · exact .inr h
theorem SameX.tup {K : PySem.W.Frag} {q a : Addr} {H H' : Hp} {xs : List V} (s : SameX q H H') (n : a ≠ q) (h : SqT K H a xs) : SqT K H' a xs := by
  rcases h with h | h
  · exact .inl (s.rd n h)
  · exact .inr h
theorem seqU {K : PySem.W.Frag} {H : Hp} {a : Addr} {xs : List V} (h : H a = some (.lst xs)) : SqL K H a xs := .inl (.inl h)
theorem tupU {K : PySem.W.Frag} {H : Hp} {a : Addr} {xs : List V} (h : H a = some (.tup xs)) : SqT K H a xs := .inl (.inl h)

/-! ### what a value tells: any value of the laws' menus -/
mutual
inductive Dq (q : Addr) (K : PySem.W.Frag) (H : Hp) : V → PyData → Prop
  | non : Dq q K H .non .none
  | bl (b : Bool) : Dq q K H (.bl b) (.bool b)
  | int (i : Int) : Dq q K H (.int i) (.int i)
  | str (x : Str) : x.length ≤ 1000 → Dq q K H (.str x) (.str x)
  | lst {a : Addr} {xs : List V} {ds : List PyData} : a ≠ q → SqL K H a xs → DqAll q K H xs ds → Dq q K H (.ref a) (.list ds)
  | tup {a : Addr} {xs : List V} {ds : List PyData} : a ≠ q → SqT K H a xs → DqAll q K H xs ds → Dq q K H (.ref a) (.tuple ds)
  | dct {a : Addr} {kvs : List (Key × V)} : a ≠ q → H a = some (.dK kvs) → Dq q K H (.ref a) (.dict [])
inductive DqAll (q : Addr) (K : PySem.W.Frag) (H : Hp) : List V → List PyData → Prop
  | nil : DqAll q K H [] []
  | cons {v : V} {vs : List V} {d : PyData} {ds : List PyData} : Dq q K H v d → DqAll q K H vs ds → DqAll q K H (v :: vs) (d :: ds)
end
section
variable {q : Addr} {K : PySem.W.Frag} {H H' : Hp}
mutual
theorem Dq.go (s : SameX q H H') : ∀ {d : PyData} {v : V}, Dq q K H v d → Dq q K H' v d
  | _, _, .non => .non
  | _, _, .bl b => .bl b
  | _, _, .int i => .int i
  | _, _, .str x h => .str x h
  | _, _, .lst n h ha => .lst n (s.seq n h) (DqAll.go s ha)
  | _, _, .tup n h ha => .tup n (s.tup n h) (DqAll.go s ha)
  | _, _, .dct n h => .dct n (s _ _ n h)
theorem DqAll.go (s : SameX q H H') : ∀ {ds : List PyData} {vs : List V}, DqAll q K H vs ds → DqAll q K H' vs ds
  | _, _, .nil => .nil
  | _, _, .cons h t => .cons (Dq.go s h) (DqAll.go s t)
end
theorem DqAll.len : ∀ {vs : List V} {ds : List PyData}, DqAll q K H vs ds → vs.length = ds.length
  | _, _, .nil => rfl
  | _, _, .cons _ t => congrArg Nat.succ (DqAll.len t)
def noDct : PyData → Bool
  | .dict _ => false
  | .list ds | .tuple ds => all ds
  | _ => true
where all : List PyData → Bool
  | [] => true
  | d :: ds => noDct d && all ds
mutual
theorem Dq.dp : ∀ {d : PyData} {v : V}, Dq q K H v d → noDct d = true → Dp K H v d
  | _, _, .non, _ => .non
  | _, _, .bl b, _ => .bl b
  | _, _, .int i, _ => .int i
  | _, _, .str x h, _ => .str x
  | .list ds, _, .lst n h ha, e => .lst h (DqAll.dp ha (by unfold noDct at e; exact e))
  | .tuple ds, _, .tup n h ha, e => .tup h (DqAll.dp ha (by unfold noDct at e; exact e))
  | _, _, .dct n h, e => by unfold noDct at e; exact absurd e (by decide)
theorem DqAll.dp : ∀ {ds : List PyData} {vs : List V}, DqAll q K H vs ds → noDct.all ds = true → DpAll K H vs ds
  | _, _, .nil, _ => .nil
  | d :: ds, _, .cons h t, e => by
    unfold noDct.all at e
    rw [Bool.and_eq_true] at e
    exact .cons (Dq.dp h e.1) (DqAll.dp t e.2)
end
def tyN : PyData → String
  | .none => "NoneType"
  | .bool _ => "bool"
  | .int _ => "int"
  | .str _ => "str"
  | .list _ => "list"
  | .tuple _ => "tuple"
  | .dict _ => "dict"
theorem Dq.ty {d : PyData} {v : V} (h : Dq q K H v d) : TyX K H v (.type (tyN d)) := by
  cases h with
  | non => exact .base .non
  | bl b => exact .base (.bl b)
  | int i => exact .base (.int i)
  | str x => exact .base (.str x)
  | lst n h ha =>
    rcases h with (h | ⟨o, h⟩) | ⟨o, its, m, e, c, _⟩
    · exact .base (.lst h)
    · exact .base (.frz h)
    · exact .kList e c
  | tup n h ha =>
    rcases h with (h | ⟨o, h⟩) | ⟨o, its, m, e, c, _⟩
    · exact .base (.tup h)
    · exact .fTuple h
    · exact .kTuple e c
  | dct n h => exact .base (.dK h)
def isSeqD : PyData → Bool
  | .list _ | .tuple _ => true
  | _ => false
def isIntB : PyData → Bool
  | .int _ | .bool _ => true
  | _ => false
def isIntD : PyData → Bool
  | .int _ => true
  | _ => false
def posD : PyData → Bool
  | .int i => decide (1 ≤ i)
  | _ => false
def isFrD : PyData → Bool
  | .int _ => true
  | .list [a, b] | .tuple [a, b] => isIntD a && posD b
  | _ => false
theorem kit_seq (d : PyData) : PySem.W.kitAny K (.type (tyN d)) [.type "list", .type "tuple"] = some (isSeqD d) := by
  cases d with
  | none => exact kitAny_cons (b := false) (r := false) (kit_ty (show kitB "NoneType" "list" = some false by decide +kernel)) (fun _ => kitAny_cons (b := false) (r := false) (kit_ty (show kitB "NoneType" "tuple" = some false by decide +kernel)) (fun _ => kitAny_nil) (fun z => by cases z)) (fun z => by cases z)
  | bool _ => exact kitAny_cons (b := false) (r := false) (kit_ty (show kitB "bool" "list" = some false by decide +kernel)) (fun _ => kitAny_cons (b := false) (r := false) (kit_ty (show kitB "bool" "tuple" = some false by decide +kernel)) (fun _ => kitAny_nil) (fun z => by cases z)) (fun z => by cases z)
  | int _ => exact kitAny_cons (b := false) (r := false) (kit_ty (show kitB "int" "list" = some false by decide +kernel)) (fun _ => kitAny_cons (b := false) (r := false) (kit_ty (show kitB "int" "tuple" = some false by decide +kernel)) (fun _ => kitAny_nil) (fun z => by cases z)) (fun z => by cases z)
  | str _ => exact kitAny_cons (b := false) (r := false) (kit_ty (show kitB "str" "list" = some false by decide +kernel)) (fun _ => kitAny_cons (b := false) (r := false) (kit_ty (show kitB "str" "tuple" = some false by decide +kernel)) (fun _ => kitAny_nil) (fun z => by cases z)) (fun z => by cases z)
  | list _ => exact kitAny_cons (b := true) (r := true) (kit_ty (show kitB "list" "list" = some true by decide +kernel)) (fun z => by cases z) (fun _ => rfl)
  | tuple _ => exact kitAny_cons (b := false) (r := true) (kit_ty (show kitB "tuple" "list" = some false by decide +kernel)) (fun _ => kitAny_cons (b := true) (r := true) (kit_ty (show kitB "tuple" "tuple" = some true by decide +kernel)) (fun z => by cases z) (fun _ => rfl)) (fun z => by cases z)
  | dict _ => exact kitAny_cons (b := false) (r := false) (kit_ty (show kitB "dict" "list" = some false by decide +kernel)) (fun _ => kitAny_cons (b := false) (r := false) (kit_ty (show kitB "dict" "tuple" = some false by decide +kernel)) (fun _ => kitAny_nil) (fun z => by cases z)) (fun z => by cases z)
theorem kit_int (d : PyData) : PySem.W.kitOne K (.type (tyN d)) (.type "int") = some (isIntB d) := by
  cases d with
  | none => exact kit_ty (show kitB "NoneType" "int" = some false by decide +kernel)
  | bool _ => exact kit_ty (show kitB "bool" "int" = some true by decide +kernel)
  | int _ => exact kit_ty (show kitB "int" "int" = some true by decide +kernel)
  | str _ => exact kit_ty (show kitB "str" "int" = some false by decide +kernel)
  | list _ => exact kit_ty (show kitB "list" "int" = some false by decide +kernel)
  | tuple _ => exact kit_ty (show kitB "tuple" "int" = some false by decide +kernel)
  | dict _ => exact kit_ty (show kitB "dict" "int" = some false by decide +kernel)
def isTupD : PyData → Bool
  | .tuple _ => true
  | _ => false
theorem kit_tuple (d : PyData) : PySem.W.kitOne K (.type (tyN d)) (.type "tuple") = some (isTupD d) := by
  cases d with
  | none => exact kit_ty (show kitB "NoneType" "tuple" = some false by decide +kernel)
  | bool _ => exact kit_ty (show kitB "bool" "tuple" = some false by decide +kernel)
  | int _ => exact kit_ty (show kitB "int" "tuple" = some false by decide +kernel)
  | str _ => exact kit_ty (show kitB "str" "tuple" = some false by decide +kernel)
  | list _ => exact kit_ty (show kitB "list" "tuple" = some false by decide +kernel)
  | tuple _ => exact kit_ty (show kitB "tuple" "tuple" = some true by decide +kernel)
  | dict _ => exact kit_ty (show kitB "dict" "tuple" = some false by decide +kernel)
def isBoolD : PyData → Bool
  | .bool _ => true
  | _ => false
theorem kit_bool (d : PyData) : PySem.W.kitOne K (.type (tyN d)) (.type "bool") = some (isBoolD d) := by
  cases d with
  | none => exact kit_ty (show kitB "NoneType" "bool" = some false by decide +kernel)
  | bool _ => exact kit_ty (show kitB "bool" "bool" = some true by decide +kernel)
  | int _ => exact kit_ty (show kitB "int" "bool" = some false by decide +kernel)
  | str _ => exact kit_ty (show kitB "str" "bool" = some false by decide +kernel)
  | list _ => exact kit_ty (show kitB "list" "bool" = some false by decide +kernel)
  | tuple _ => exact kit_ty (show kitB "tuple" "bool" = some false by decide +kernel)
  | dict _ => exact kit_ty (show kitB "dict" "bool" = some false by decide +kernel)
variable {Q : VK} {σ : L2.St} {te : TE}
def SeqQ (K : PySem.W.Frag) (v : V) (H : Hp) (Q : VK) : Prop := ∃ t b, TyX K H v (.type t) ∧ PySem.W.kitAny K (.type t) [.type "list", .type "tuple"] = some b ∧ Q (.bl b) H
theorem g_seqP (h : te σ H fun x H1 => SeqQ K x H1 Q) : tSeqP K te σ H Q := h
theorem g_seqQ {v : V} {d : PyData} (h : Dq q K H v d) (k : Q (.bl (isSeqD d)) H) : SeqQ K v H Q :=
  ⟨_, _, h.ty, kit_seq d, k⟩
theorem g_isiI {v : V} {d : PyData} (h : Dq q K H v d) (k : Q (.bl (isIntB d)) H) : rIsi K [v, .ty "int"] H Q :=
  ⟨v, .ty "int", _, _, _, rfl, .ty "int", h.ty, kit_int d, k⟩
theorem g_isiT {v : V} {d : PyData} (h : Dq q K H v d) (k : Q (.bl (isTupD d)) H) : rIsi K [v, .ty "tuple"] H Q :=
  ⟨v, .ty "tuple", _, _, _, rfl, .ty "tuple", h.ty, kit_tuple d, k⟩
theorem g_isiB {v : V} {d : PyData} (h : Dq q K H v d) (k : Q (.bl (isBoolD d)) H) : rIsi K [v, .ty "bool"] H Q :=
  ⟨v, .ty "bool", _, _, _, rfl, .ty "bool", h.ty, kit_bool d, k⟩
/-- a list or a tuple -/
def Sq (K : PySem.W.Frag) (H : Hp) (a : Addr) (xs : List V) : Prop := SqL K H a xs ∨ SqT K H a xs
theorem Sq.go {a : Addr} {xs : List V} (s : SameX q H H') (n : a ≠ q) (h : Sq K H a xs) : Sq K H' a xs := by
  rcases h with h | h
  · exact .inl (s.seq n h)
  · exact .inr (s.tup n h)
theorem Dq.seq {d : PyData} {v : V} (h : Dq q K H v d) (e : isSeqD d = true) : ∃ a xs ds, v = .ref a ∧ a ≠ q ∧ Sq K H a xs ∧ DqAll q K H xs ds ∧ (d = .list ds ∨ d = .tuple ds) := by
  cases h with
  | lst n h ha => exact ⟨_, _, _, rfl, n, .inl h, ha, .inl rfl⟩
  | tup n h ha => exact ⟨_, _, _, rfl, n, .inr h, ha, .inr rfl⟩
  | _ => cases e
theorem g_ix {a : Addr} {xs : List V} {i : Int} {v : V} (h : Sq K H a xs) (e : atI xs i = some v) (k : Q v H) : rIx K (.ref a) (.int i) H Q := by
  rcases h with h | h
  · exact .inl ⟨a, xs, i, v, rfl, rfl, h, e, k⟩
  · exact .inr (.inl ⟨a, xs, i, v, rfl, rfl, h, e, k⟩)
theorem g_len {a : Addr} {xs : List V} (h : Sq K H a xs) (k : Q (.int (xs.length : Int)) H) : rLenU K [.ref a] H Q := by
  rcases h with h | h
  · exact ⟨.ref a, xs.length, rfl, .inl ⟨xs, h, rfl⟩, k⟩
  · exact ⟨.ref a, xs.length, rfl, .inr ⟨xs, h, rfl⟩, k⟩
def valD : PyData → Int
  | .int i => i
  | _ => 0
/-- a bound, or none -/
def bdV : Option Int → V
  | none => .non
  | some i => .int i
def loB (l : Option Int) (i : Int) : Bool := match l with | none => true | some m => decide (m ≤ i)
def hiB (l : Option Int) (i : Int) : Bool := match l with | none => true | some m => decide (i ≤ m)
def wthD (d : PyData) (l m : Option Int) : Bool := isIntD d && (loB l (valD d) && hiB m (valD d))
def isPlD : PyData → Bool
  | .list [a, b] | .tuple [a, b] => isFrD a && isFrD b
  | _ => false
theorem posD_eq (d : PyData) : posD d = wthD d (some 1) none := by
  cases d with
  | int i =>
    show decide (1 ≤ i) = (true && (decide (1 ≤ i) && true))
    rw [Bool.true_and, Bool.and_true]
  | _ => rfl
theorem Dq.int_of {d : PyData} {v : V} (h : Dq q K H v d) (e : isIntD d = true) : v = .int (valD d) ∧ d = .int (valD d) := by
  cases h with
  | int i => exact ⟨rfl, rfl⟩
  | _ => cases e
theorem frD_two {d : PyData} {ds : List PyData} (e : d = .list ds ∨ d = .tuple ds) (n : ds.length ≠ 2) : isFrD d = false ∧ isPlD d = false := by
  rcases e with rfl | rfl
  all_goals
    match ds, n with
    | [], _ => exact ⟨rfl, rfl⟩
    | [_], _ => exact ⟨rfl, rfl⟩
    | [_, _], n => exact absurd rfl n
    | _ :: _ :: _ :: _, _ => exact ⟨rfl, rfl⟩
theorem frD_of {d x y : PyData} (e : d = .list [x, y] ∨ d = .tuple [x, y]) : isFrD d = (isIntD x && posD y) ∧ isPlD d = (isFrD x && isFrD y) := by
  rcases e with rfl | rfl <;> exact ⟨rfl, rfl⟩
theorem frD_no {d : PyData} (e : isIntD d = false) (n : isSeqD d = false) : isFrD d = false := by
  cases d with
  | int i => cases e
  | list ds => cases n
  | tuple ds => cases n
  | _ => rfl
theorem plD_no {d : PyData} (n : isSeqD d = false) : isPlD d = false := by
  cases d with
  | list ds => cases n
  | tuple ds => cases n
  | _ => rfl
theorem frD_int {d : PyData} (e : isIntD d = true) : isFrD d = true := by
  cases d with
  | int i => rfl
  | _ => cases e
theorem two_of {vs : List V} {ds : List PyData} (h : DqAll q K H vs ds) (e : vs.length = 2) : ∃ x y a b, vs = [x, y] ∧ ds = [a, b] ∧ Dq q K H x a ∧ Dq q K H y b := by
  cases h with
  | nil => cases e
  | cons h1 t => cases t with
    | nil => cases e
    | cons h2 t => cases t with
      | nil => exact ⟨_, _, _, _, rfl, rfl, h1, h2⟩
      | cons h3 t =>
        rw [List.length_cons, List.length_cons, List.length_cons] at e
        omega
theorem relR {vs : List V} {us : List Value} {ks : List Str} (r : Vals vs us) (_ : us.length = ks.length) : Vals vs.reverse us.reverse := r.reverse
theorem lenR {ps ks : List Str} (h : ps.length = ks.length) (vs : List V) (e : vs.reverse.length = ps.length) : vs.length = ks.length := by
  rw [List.length_reverse] at e
  omega
end
end Mf
namespace Mf
open PySem PySem.Spec PyProof.Rows L2
section
variable {K : PySem.W.Frag} {σ : L2.St} {H H1 : Hp} {Q : VK} {v x y : V} {ta tb te tl : TE} {tt : TT} {tr : TA} {g : TG} {vs : List Nat}
/-! ### slices, comprehensions -/
theorem g_sl {r : V → Option Int → Option Int → Hp → VK → Prop} {to th : TO} (q : te σ H fun x H1 => to σ H1 fun l H2 => th σ H2 fun u H3 => r x l u H3 Q) : tSl r te to th σ H Q := q
theorem g_noPart {R : Option Int → Hp → Prop} (q : R none H) : tNoPart σ H R := q
theorem g_part {R : Option Int → Hp → Prop} (q : te σ H fun x H1 => ∃ i, x = .int i ∧ R (some i) H1) : tPart te σ H R := q
theorem g_ii {i : Int} {R : Int → Prop} (q : R i) : ∃ j, V.int i = .int j ∧ R j := ⟨i, rfl, q⟩
theorem g_slL {a : Addr} {xs : List V} {lo hi : Option Int} (h : SqL K H a xs) (q : ∀ p H2, H p = none → Same H H2 → H2 p = some (.lst (cutV xs lo hi)) → Q (.ref p) H2) : rSlL K (.ref a) lo hi H Q :=
  ⟨a, xs, rfl, h, fun p hp => q p _ hp (same_new hp) upd_same⟩
theorem cut_ints (ns : List Int) (lo hi : Option Int) : ∃ ms : List Int, cutV (ns.map V.int) lo hi = ms.map V.int ∧ ms.length ≤ ns.length := by
  unfold cutV
  refine ⟨(ns.drop (HT.sIx (ns.map V.int).length 0 lo)).take (HT.sIx (ns.map V.int).length (ns.map V.int).length hi - HT.sIx (ns.map V.int).length 0 lo), ?_, ?_⟩
  · rw [List.map_take, List.map_drop]
  · rw [List.length_take, List.length_drop]
    omega
/-- what a comprehension asks once its walked thing is there -/
def LcGo (J : It) (g : TG) (tt : TT) (te : TE) (vs : List Nat) (σ : L2.St) (H1 : Hp) (Q : VK) : Prop := ∀ D, H1 D = none → ∃ W : Nat → Nat → Hp → Prop, (∃ m, W 0 m (upd H1 D (.lst []))) ∧
  ∀ i m H, W i m H → (J.stop i H ∧ Q (.ref D) H) ∨ (J.go i H ∧ ∃ Nx : Hp → Prop, (∀ H', Nx H' → ∃ m', m' < m ∧ W (i + 1) m' H') ∧
    ∀ x H', J.yld i H x H' → g x (wipe σ vs) H' fun σ2 H2 => wipe σ2 vs = wipe σ vs ∧ tt σ2 H2 fun b H3 =>
      if b = true then te σ2 H3 fun y H4 => ∃ acc, H4 D = some (.lst acc) ∧ acc.length < sizeLine ∧ Nx (upd H4 D (.lst (acc ++ [y]))) else Nx H3)
theorem g_lcL (q : tl σ H fun x H1 => ∃ a, x = .ref a ∧ (∃ xs, SqL K H1 a xs) ∧ LcGo (Itl K a) g tt te vs σ H1 Q) : tLc (iList K tl) g tt te vs σ H Q := q
theorem g_lcR (q : tr σ H fun us H1 => ∃ j : Int, us = [.int j] ∧ -(2 ^ 62) ≤ j ∧ j < 2 ^ 62 ∧ LcGo (Itr 0 j.toNat) g tt te vs σ H1 Q) : tLc (iRng1 tr) g tt te vs σ H Q := q
theorem lcgo_list {a : Addr} {xs : List V} {j : Nat} (Pv : Addr → Nat → Hp → Prop) (hw : ∀ x, wipe ((wipe σ vs).set j (some x)) vs = wipe σ vs)
    (h0 : ∀ D, H1 D = none → Pv D 0 (upd H1 D (.lst []))) (hl : ∀ D i H, i ≤ xs.length → Pv D i H → SqL K H a xs)
    (hs : ∀ D i x H, H1 D = none → xs[i]? = some x → Pv D i H → te ((wipe σ vs).set j (some x)) H fun y H4 => ∃ acc, H4 D = some (.lst acc) ∧ acc.length < sizeLine ∧ Pv D (i + 1) (upd H4 D (.lst (acc ++ [y]))))
    (hd : ∀ D H, H1 D = none → Pv D xs.length H → Q (.ref D) H) : LcGo (Itl K a) (gName j) tYes te vs σ H1 Q :=
  fun D hD => lc_list (xs := xs) (Pv D) (h0 D hD) (hl D) (fun i x H e p => ⟨hw x, hs D i x H hD e p⟩) (fun H p => hd D H hD p)
theorem lcgo_range {n j : Nat} (Pv : Addr → Nat → Hp → Prop) (hw : ∀ x, wipe ((wipe σ vs).set j (some x)) vs = wipe σ vs)
    (h0 : ∀ D, H1 D = none → Pv D 0 (upd H1 D (.lst [])))
    (hs : ∀ D i H, H1 D = none → i < n → Pv D i H → te ((wipe σ vs).set j (some (.int (0 + (i : Int))))) H fun y H4 => ∃ acc, H4 D = some (.lst acc) ∧ acc.length < sizeLine ∧ Pv D (i + 1) (upd H4 D (.lst (acc ++ [y]))))
    (hd : ∀ D H, H1 D = none → Pv D n H → Q (.ref D) H) : LcGo (Itr 0 n) (gName j) tYes te vs σ H1 Q :=
  fun D hD => lc_range (lo := 0) (n := n) (Pv D) (h0 D hD) (fun i H e p => ⟨hw _, hs D i H hD e p⟩) (fun H p => hd D H hD p)

/-! ### numbers -/
theorem g_mod {i j : Int} (h : 0 < j) (q : Q (.int (i % j)) H) : rI (fun _ j => 0 < j) (fun i j => .int (i % j)) (.int i) (.int j) H Q := ⟨i, j, rfl, rfl, h, q⟩
theorem g_div {i j : Int} (h : 0 < j) (h2 : j.natAbs.log2 < 9000) (q : Q (.int (i / j)) H) : rI CDivW (fun i j => .int (i / j)) (.int i) (.int j) H Q := ⟨i, j, rfl, rfl, ⟨h, h2⟩, q⟩
theorem g_pow {i j : Int} (h1 : 0 ≤ j) (h2 : j ≤ 1000000) (h : i.natAbs < 2 ^ 64) (q : Q (.int (i ^ j.toNat)) H) : rI CPow (fun i j => .int (i ^ j.toNat)) (.int i) (.int j) H Q := ⟨i, j, rfl, rfl, ⟨h1, h2, h⟩, q⟩
theorem g_mulL {i j : Int} (h1 : -(2 ^ 64) < i) (h2 : i < 2 ^ 64) (q : Q (.int (i * j)) H) : rMulU (.int i) (.int j) H Q := .inl ⟨i, j, rfl, rfl, .inl (.inl ⟨h1, h2⟩), q⟩
theorem g_mulR {i j : Int} (h1 : -(2 ^ 64) < j) (h2 : j < 2 ^ 64) (q : Q (.int (i * j)) H) : rMulU (.int i) (.int j) H Q := .inl ⟨i, j, rfl, rfl, .inl (.inr ⟨h1, h2⟩), q⟩
theorem g_mulW {i j : Int} (h : i.natAbs.log2 + j.natAbs.log2 < 1000000) (q : Q (.int (i * j)) H) : rMulU (.int i) (.int j) H Q := .inl ⟨i, j, rfl, rfl, .inr h, q⟩
theorem g_ltI {i j : Int} (q : Q (.bl (decide (i < j))) H) : rI0 (fun i j => .bl (decide (i < j))) (.int i) (.int j) H Q := ⟨i, j, rfl, rfl, q⟩
theorem g_neNil {c p : Addr} {ns : List Int} (h1 : SqL K H c (ns.map V.int)) (h2 : SqL K H p []) (q : Q (.bl (!ns.isEmpty)) H) : rNeU K (.ref c) (.ref p) H Q := by
  have dall : ∀ l : List Int, DpAll K H (l.map V.int) (l.map PyData.int) := fun l => by
    induction l with
    | nil => exact .nil
    | cons z r ih => exact .cons (.int z) ih
  have lay : ∀ l : List Int, PyData.canLayAll0 (l.map PyData.int) = true := fun l => by
    induction l with
    | nil => rfl
    | cons z r ih =>
      show (true && PyData.canLayAll0 (r.map PyData.int)) = true
      rw [ih]
      rfl
  have dep : ∀ l : List Int, PyData.depthAll (l.map PyData.int) ≤ 1 := fun l => by
    induction l with
    | nil => decide
    | cons z r ih =>
      rw [List.map_cons]
      simp only [PyData.depthAll, PyData.depth]
      omega
  refine .inr ⟨.list (ns.map PyData.int), .list [], .lst h1 (dall ns), .lst h2 .nil, ?_, by decide, ?_⟩
  · unfold SeqAt.shaped
    rw [Bool.and_eq_true]
    refine ⟨lay ns, decide_eq_true ?_⟩
    have := dep ns
    simp only [PyData.depth]
    omega
  · cases ns with
    | nil => exact q
    | cons z r => exact q
theorem g_sub {to ti : TE} {t : TSet} {R : L2.St → Hp → Prop} (q : to σ H fun o H1 => ti σ H1 fun i H2 => t o i v H2 fun H3 => R σ H3) : gSub to ti t v σ H R := q
theorem g_setL {p : Addr} {xs : List V} {k : Int} {j : Nat} {R : Hp → Prop} (h : H p = some (.lst xs)) (e : ixN xs.length k = some j) (q : R (upd H p (.lst (xs.set j v)))) : rSetL (.ref p) (.int k) v H R := ⟨p, xs, k, j, rfl, rfl, h, e, q⟩
theorem stir_bd {s t a b c : Int} (hs0 : 0 ≤ s) (hs : s < 2147483648) (ht0 : 0 ≤ t) (ht : t ≤ 1000000) (ha0 : 0 ≤ a) (ha : a ≤ 100000) (hb0 : 0 ≤ b) (hb : b ≤ 1000000) (hc0 : 0 ≤ c) (hc : c ≤ 1000000) :
    (s * (2 * t + a) + b * t * t + c).natAbs < 2 ^ 64 := by
  have h1 : s * (2 * t + a) ≤ 2147483648 * 2100000 := Int.mul_le_mul (by omega) (by omega) (by omega) (by omega)
  have h2 : 0 ≤ s * (2 * t + a) := Int.mul_nonneg hs0 (by omega)
  have h3 : b * t ≤ 1000000 * 1000000 := Int.mul_le_mul hb ht ht0 (by omega)
  have h4 : 0 ≤ b * t := Int.mul_nonneg hb0 ht0
  have h5 : b * t * t ≤ 1000000000000 * 1000000 := Int.mul_le_mul (by omega) ht ht0 (by omega)
  have h6 : 0 ≤ b * t * t := Int.mul_nonneg h4 ht0
  generalize s * (2 * t + a) = p at *
  generalize b * t * t = r at *
  omega
end

/-! ### what draws -/
/-- q holds the cells, how many were begun, what is left -/
def Qy (K : PySem.W.Frag) (q : Addr) (t : Int) (H : Hp) : Prop := ∃ (c : Addr) (ns : List Int) (r : Int), H q = some (.lst [.ref c, .int t, .int r]) ∧ H c = some (.lst (ns.map V.int)) ∧ c ≠ q ∧ ns.length ≤ 63 ∧ 0 ≤ r ∧ 0 ≤ t
theorem Qy.same {K : PySem.W.Frag} {q : Addr} {t : Int} {H H' : Hp} (s : Same H H') (h : Qy K q t H) : Qy K q t H' := by
  obtain ⟨c, ns, r, h1, h2, h3, h4, h5, h6⟩ := h
  exact ⟨c, ns, r, s _ _ h1, s _ _ h2, h3, h4, h5, h6⟩
theorem Qy.nn {K : PySem.W.Frag} {q : Addr} {t : Int} {H : Hp} (h : Qy K q t H) : 0 ≤ t := by
  obtain ⟨c, ns, r, h1, h2, h3, h4, h5, h6⟩ := h
  exact h6
theorem Qy.at {K : PySem.W.Frag} {q : Addr} {t : Int} {H : Hp} (h : Qy K q t H) : ∃ o, H q = some o := by
  obtain ⟨c, ns, r, h1, _⟩ := h
  exact ⟨_, h1⟩
theorem Qy.ne {K : PySem.W.Frag} {q p : Addr} {t : Int} {H : Hp} (h : Qy K q t H) (e : H p = none) : p ≠ q := by
  obtain ⟨o, h1⟩ := h.at
  exact (ne_of_none h1 e).symm
theorem upd_x {q c : Addr} {H : Hp} {t r t' r' : V} (h : H q = some (.lst [.ref c, t, r])) : SameX q H (upd H q (.lst [.ref c, t', r'])) := by
  refine ⟨fun b z n e => ?_, fun c2 t2 r2 e => ⟨t', r', ?_⟩⟩
  · rw [upd_ne n]
    exact e
  · rw [h] at e
    cases e
    exact upd_same
/-- the cells' address is not d -/
def Qn (q d : Addr) (H : Hp) : Prop := ∀ c t r, H q = some (.lst [.ref c, t, r]) → c ≠ d
theorem Qn.go {K : PySem.W.Frag} {q d : Addr} {t : Int} {H H' : Hp} (h : Qn q d H) (hq : Qy K q t H) (s : SameX q H H') : Qn q d H' := by
  obtain ⟨c, ns, r, h1, _⟩ := hq
  obtain ⟨t2, r2, e2⟩ := s.cell c _ _ h1
  intro c' t' r' e'
  rw [e2] at e'
  cases e'
  exact h c _ _ h1
theorem Qn.new {K : PySem.W.Frag} {q d : Addr} {t : Int} {H : Hp} (hq : Qy K q t H) (e : H d = none) : Qn q d H := by
  obtain ⟨c, ns, r, h1, h2, _⟩ := hq
  intro c' t' r' e'
  rw [h1] at e'
  cases e'
  exact ne_of_none h2 e
theorem Qy.upd {K : PySem.W.Frag} {q d : Addr} {t : Int} {H : Hp} {o : HO} (hq : Qy K q t H) (hn : Qn q d H) (n : d ≠ q) : Qy K q t (upd H d o) := by
  obtain ⟨c, ns, r, h1, h2, h3, h4, h5, h6⟩ := hq
  refine ⟨c, ns, r, ?_, ?_, h3, h4, h5, h6⟩
  · rw [upd_ne n.symm]
    exact h1
  · rw [upd_ne (hn c _ _ h1)]
    exact h2
theorem Qn.upd {K : PySem.W.Frag} {q d : Addr} {t : Int} {H : Hp} {o : HO} (hq : Qy K q t H) (hn : Qn q d H) (n : d ≠ q) : Qn q d (L2.upd H d o) := by
  intro c' t' r' e'
  rw [upd_ne n.symm] at e'
  exact hn c' t' r' e'
def sp_quay (K : PySem.W.Frag) : Sp := fun vs H Q _ => ∃ (a : Addr) (ns : List Int), vs = [.ref a] ∧ SqL K H a (ns.map V.int) ∧ ns.length ≤ 63 ∧ ∀ q H', Same H H' → H q = none → Qy K q 0 H' → Q (.ref q) H'
def sp_moor (K : PySem.W.Frag) : Sp := fun vs H Q _ => ∃ (q : Addr) (t n : Int), vs = [.ref q, .int n] ∧ Qy K q t H ∧ t ≤ 1000000 ∧ 0 < n ∧ n.natAbs.log2 < 9000 ∧
  ∀ t' H' i, SameX q H H' → Qy K q t' H' → t ≤ t' → t' ≤ t + 1 → 0 ≤ i → i < n → Q (.int i) H'
def sp_pick (K : PySem.W.Frag) : Sp := fun vs H Q _ => ∃ (q a : Addr) (t : Int) (xs : List V), vs = [.ref q, .ref a] ∧ Qy K q t H ∧ t ≤ 1000000 ∧ a ≠ q ∧ Sq K H a xs ∧ xs ≠ [] ∧ xs.length ≤ 1000 ∧
  ∀ t' H' x, SameX q H H' → Qy K q t' H' → t ≤ t' → t' ≤ t + 1 → x ∈ xs → Q x H'
end Mf
namespace Mf
open PySem PySem.Spec PyProof.Rows L2
/-! ### what a menu's items come to -/
def EvD (q : Addr) (K : PySem.W.Frag) (te : TE) (σ : L2.St) (H : Hp) (d : PyData) : Prop := ∀ H1, Same H H1 → ∀ Q : VK, (∀ v H2, Same H1 H2 → Dq q K H2 v d → Q v H2) → te σ H1 Q
def EvDs (q : Addr) (K : PySem.W.Frag) (ta : TA) (σ : L2.St) (H : Hp) (ds : List PyData) : Prop := ∀ H1, Same H H1 → ∀ Q : List V → Hp → Prop, (∀ vs H2, Same H1 H2 → DqAll q K H2 vs ds → Q vs H2) → ta σ H1 Q
section
variable {q : Addr} {K : PySem.W.Frag} {σ : L2.St} {H : Hp} {te tb : TE} {ta : TA} {d : PyData} {ds : List PyData}
theorem ed_var {i : Nat} {v : V} (e : σ[i]? = some (some v)) (h : Dq q K H v d) : EvD q K (tVar i) σ H d := fun H1 s Q k => ⟨v, e, k v H1 (Same.refl _) (h.go (Same.x s))⟩
theorem ed_int {i : Int} : EvD q K (tC (.int i)) σ H (.int i) := fun H1 _ Q k => k _ H1 (Same.refl _) (.int i)
theorem ed_bl {b : Bool} : EvD q K (tC (.bl b)) σ H (.bool b) := fun H1 _ Q k => k _ H1 (Same.refl _) (.bl b)
theorem ed_non : EvD q K (tC .non) σ H .none := fun H1 _ Q k => k _ H1 (Same.refl _) .non
theorem ed_str {x : Str} (h : x.length ≤ 1000) : EvD q K (tC (.str x)) σ H (.str x) := fun H1 _ Q k => k _ H1 (Same.refl _) (.str x h)
theorem ed_neg {i : Int} (h : EvD q K te σ H (.int i)) : EvD q K (tUn (rU fun i => .int (-i)) te) σ H (.int (-i)) := fun H1 s Q k => h H1 s _ fun v H2 s2 hd => by
  cases hd
  exact ⟨i, rfl, k _ H2 s2 (.int _)⟩
theorem ed_pow {i j : Int} (h1 : EvD q K te σ H (.int i)) (h2 : EvD q K tb σ H (.int j)) (c : CPow i j) : EvD q K (tOp (rI CPow fun i j => .int (i ^ j.toNat)) te tb) σ H (.int (i ^ j.toNat)) := fun H1 s Q k => h1 H1 s _ fun v H2 s2 hd => by
  cases hd
  exact h2 H2 (s.trans s2) _ fun v H3 s3 hd => by
    cases hd
    exact ⟨i, j, rfl, rfl, c, k _ H3 (s2.trans s3) (.int _)⟩
theorem ed_mul {i j : Int} (h1 : EvD q K te σ H (.int i)) (h2 : EvD q K tb σ H (.int j)) (c : CMulU i j) : EvD q K (tOp rMulU te tb) σ H (.int (i * j)) := fun H1 s Q k => h1 H1 s _ fun v H2 s2 hd => by
  cases hd
  exact h2 H2 (s.trans s2) _ fun v H3 s3 hd => by
    cases hd
    exact .inl ⟨i, j, rfl, rfl, c, k _ H3 (s2.trans s3) (.int _)⟩
theorem eds_nil : EvDs q K tNil σ H [] := fun H1 _ Q k => k [] H1 (Same.refl _) .nil
theorem eds_cons (h : EvD q K te σ H d) (t : EvDs q K ta σ H ds) : EvDs q K (tCons te ta) σ H (d :: ds) := fun H1 s Q k => h H1 s _ fun v H2 s2 hd => t H2 (s.trans s2) _ fun vs H3 s3 hds =>
  k (v :: vs) H3 (s2.trans s3) (.cons (hd.go (Same.x s3)) hds)
theorem ed_tup {o : HO} (hq : H q = some o) (h : EvDs q K ta σ H ds) (hl : ds.length ≤ 1000) : EvD q K (tTup ta) σ H (.tuple ds) := fun H1 s Q k => h H1 s _ fun vs H2 s2 hds =>
  ⟨by rw [hds.len]; exact Nat.le_of_lt (small1000 hl), fun p hp => k _ _ (s2.trans (same_new hp)) (.tup (ne_of_none ((s.trans s2) _ _ hq) hp).symm (tupU upd_same) (hds.go (Same.x (same_new hp))))⟩
theorem ed_lst {o : HO} (hq : H q = some o) (h : EvDs q K ta σ H ds) (hl : ds.length ≤ 1000) : EvD q K (tLst ta) σ H (.list ds) := fun H1 s Q k => h H1 s _ fun vs H2 s2 hds =>
  ⟨by rw [hds.len]; exact Nat.le_of_lt (small1000 hl), fun p hp => k _ _ (s2.trans (same_new hp)) (.lst (ne_of_none ((s.trans s2) _ _ hq) hp).symm (seqU upd_same) (hds.go (Same.x (same_new hp))))⟩
theorem ed_dict0 {o : HO} (hq : H q = some o) : EvD q K tDNewK σ H (.dict []) := fun H1 s Q k p hp => k _ _ (same_new hp) (.dct (ne_of_none (s _ _ hq) hp).symm upd_same)
theorem ed_dict2 {o : HO} (hq : H q = some o) {a b c d : Int} : EvD q K (tDisp [(tC (.int a), tC (.int b)), (tC (.int c), tC (.int d))]) σ H (.dict []) := fun H1 s Q k p hp =>
  ⟨upd_same, [(.inl a, .int b), (.inl c, .int d)], rfl, by show 2 ≤ 15; decide, by
    rw [upd_upd]
    exact k _ _ (same_new hp) (.dct (ne_of_none (s _ _ hq) hp).symm upd_same)⟩
/-- .. and used -/
theorem EvDs.run {Q : List V → Hp → Prop} (h : EvDs q K ta σ H ds) (k : ∀ vs H2, Same H H2 → DqAll q K H2 vs ds → Q vs H2) : ta σ H Q := h H (Same.refl _) Q k
theorem EvD.run {Q : VK} (h : EvD q K te σ H d) (k : ∀ v H2, Same H H2 → Dq q K H2 v d → Q v H2) : te σ H Q := h H (Same.refl _) Q k
theorem DqAll.mem : ∀ {vs : List V} {ds : List PyData} {x : V}, DqAll q K H vs ds → x ∈ vs → ∃ d ∈ ds, Dq q K H x d
  | _, _, _, .nil, h => absurd h List.not_mem_nil
  | _, _, _, .cons h t, hx => by
    rcases List.mem_cons.mp hx with rfl | hx
    · exact ⟨_, List.mem_cons_self, h⟩
    · obtain ⟨d, m, e⟩ := DqAll.mem t hx
      exact ⟨d, List.mem_cons_of_mem _ m, e⟩
theorem DqAll.app : ∀ {vs ws : List V} {ds es : List PyData}, DqAll q K H vs ds → DqAll q K H ws es → DqAll q K H (vs ++ ws) (ds ++ es)
  | _, _, _, _, .nil, h => h
  | _, _, _, _, .cons h t, h2 => .cons h (DqAll.app t h2)
/-- data that can be compared and shown -/
def okD (d : PyData) : Bool := noDct d && (d.canLay0 && decide (d.depth ≤ 60))
def okV (d : PyData) : Bool := match d with | .dict _ => true | d => okD d
def okO (d : PyData) : Bool := match d with | .list [a, b] | .tuple [a, b] => okD a && okD b | _ => true
end
theorem noDct_parts : ∀ {ds : List PyData}, noDct.all ds = true → ∀ d ∈ ds, noDct d = true
  | [], _, d, hd => absurd hd List.not_mem_nil
  | x :: r, h, d, hd => by
    unfold noDct.all at h
    rw [Bool.and_eq_true] at h
    rcases List.mem_cons.mp hd with rfl | hd
    · exact h.1
    · exact noDct_parts h.2 d hd
theorem lay_parts : ∀ {ds : List PyData}, PyData.canLayAll0 ds = true → PyData.depthAll ds ≤ 60 → ∀ d ∈ ds, d.canLay0 = true ∧ d.depth ≤ 60
  | [], _, _, d, hd => absurd hd List.not_mem_nil
  | x :: r, h, e, d, hd => by
    have h' : (x.canLay0 && PyData.canLayAll0 r) = true := h
    rw [Bool.and_eq_true] at h'
    simp only [PyData.depthAll] at e
    rcases List.mem_cons.mp hd with rfl | hd
    · exact ⟨h'.1, by omega⟩
    · exact lay_parts h'.2 (by omega) d hd
theorem okD_parts {d : PyData} {ds : List PyData} (e : d = .list ds ∨ d = .tuple ds) (h : okD d = true) : ∀ x ∈ ds, okD x = true := by
  unfold okD at h
  rw [Bool.and_eq_true, Bool.and_eq_true] at h
  obtain ⟨h1, h2, h3⟩ := h
  have h3 := of_decide_eq_true h3
  intro x hx
  have key : noDct.all ds = true ∧ PyData.canLayAll0 ds = true ∧ PyData.depthAll ds ≤ 60 := by
    rcases e with rfl | rfl
    all_goals
      unfold noDct at h1
      simp only [PyData.depth] at h3
      exact ⟨h1, h2, by omega⟩
  obtain ⟨k1, k2, k3⟩ := key
  have := lay_parts k2 k3 x hx
  unfold okD
  rw [Bool.and_eq_true, Bool.and_eq_true]
  exact ⟨noDct_parts k1 x hx, this.1, decide_eq_true this.2⟩
theorem okO_of {d : PyData} (h : okV d = true) : okO d = true := by
  unfold okO
  split
  · rename_i a b
    rw [Bool.and_eq_true]
    exact ⟨okD_parts (.inl rfl) h a (List.mem_cons_self), okD_parts (.inl rfl) h b (List.mem_cons_of_mem _ List.mem_cons_self)⟩
  · rename_i a b
    rw [Bool.and_eq_true]
    exact ⟨okD_parts (.inr rfl) h a (List.mem_cons_self), okD_parts (.inr rfl) h b (List.mem_cons_of_mem _ List.mem_cons_self)⟩
  · rfl
section
variable {q : Addr} {K : PySem.W.Frag} {H : Hp} {Q : VK} {σ : L2.St} {te : TE}
theorem okD_all : ∀ {ds : List PyData}, (∀ d ∈ ds, okD d = true) → noDct.all ds = true ∧ PyData.canLayAll0 ds = true ∧ PyData.depthAll ds ≤ 60
  | [], _ => ⟨rfl, rfl, by decide⟩
  | d :: ds, h => by
    have h1 := h d List.mem_cons_self
    obtain ⟨i1, i2, i3⟩ := okD_all fun e he => h e (List.mem_cons_of_mem _ he)
    unfold okD at h1
    rw [Bool.and_eq_true, Bool.and_eq_true] at h1
    obtain ⟨k1, k2, k3⟩ := h1
    have k3 := of_decide_eq_true k3
    refine ⟨?_, ?_, ?_⟩
    · unfold noDct.all
      rw [k1, i1]
      rfl
    · show (d.canLay0 && PyData.canLayAll0 ds) = true
      rw [k2, i2]
      rfl
    · simp only [PyData.depthAll]
      omega
/-- a list of such == [] -/
theorem g_eqNilD {c p : Addr} {vs : List V} {ds : List PyData} (h1 : SqL K H c vs) (hall : DqAll q K H vs ds) (hok : ∀ d ∈ ds, okD d = true) (h2 : SqL K H p []) (k : Q (.bl vs.isEmpty) H) : rEqU K (.ref c) (.ref p) H Q := by
  obtain ⟨i1, i2, i3⟩ := okD_all hok
  refine .inr ⟨.list ds, .list [], .lst h1 (hall.dp i1), .lst h2 .nil, ?_, by decide, ?_⟩
  · unfold SeqAt.shaped
    rw [Bool.and_eq_true]
    refine ⟨i2, decide_eq_true ?_⟩
    simp only [PyData.depth]
    omega
  · cases hall with
    | nil => exact k
    | cons _ _ => exact k
/-- what is reckoned apart -/
theorem cut_te {v : V} (h1 : ∀ Q : VK, Q v H → te σ H Q) (h2 : Q v H) : te σ H Q := h1 Q h2
theorem cut_teS {v : V} (h1 : ∀ Q : VK, (∀ H', Same H H' → Q v H') → te σ H Q) (h2 : ∀ H', Same H H' → Q v H') : te σ H Q := h1 Q h2
theorem bb_len : ∀ b c : Bool, (PyData.list [.bool b, .bool c]).shown.length ≤ sizeLine := by decide +kernel
theorem b_len : ∀ b : Bool, (PyData.bool b).shown.length ≤ sizeLine := by decide +kernel
theorem g_reprBB {p : Addr} {b c : Bool} (e : H p = some (.lst [.bl b, .bl c])) (k : Q (.str (PyData.list [.bool b, .bool c]).shown) H) : rReprU K [.ref p] H Q :=
  g_repr (.lst (seqU e) (.cons (.bl b) (.cons (.bl c) .nil))) rfl rfl (Nat.le_of_ble_eq_true rfl) (bb_len b c) k
theorem g_reprB {b : Bool} (k : Q (.str (PyData.bool b).shown) H) : rReprU K [.bl b] H Q := g_repr (.bl b) rfl rfl (Nat.le_of_ble_eq_true rfl) (b_len b) k
theorem g_neSs {x : Str} (k : Q (.bl false) H) : rNeU K (.str x) (.str x) H Q := g_neS (by rw [decide_eq_true rfl]; exact k)
theorem g_par {i j : Nat} {ta : TA} {D : Ends} (k : ta σ H fun vs H1 => ∃ u v, vs = [u, v] ∧ D.nx ((σ.set i (some u)).set j (some v)) H1) : tPar i j ta D σ H := k
theorem g_par3 {i j l : Nat} {ta : TA} {D : Ends} (k : ta σ H fun vs H1 => ∃ u v w, vs = [u, v, w] ∧ D.nx (((σ.set i (some u)).set j (some v)).set l (some w)) H1) : tPar3 i j l ta D σ H := k
theorem g_vv {x y : V} {P : V → V → Prop} (k : P x y) : ∃ u v, [x, y] = [u, v] ∧ P u v := ⟨x, y, rfl, k⟩
theorem g_vvv {x y z : V} {P : V → V → V → Prop} (k : P x y z) : ∃ u v w, [x, y, z] = [u, v, w] ∧ P u v w := ⟨x, y, z, rfl, k⟩
/-- a for over range(n) -/
theorem g_for1 {n : Int} {j : Nat} {tb : TS} {D : Ends} (hn : 0 ≤ n ∧ n ≤ 1000) (Pv : Nat → L2.St → Hp → Prop) (h0 : Pv 0 σ H)
    (hs : ∀ i σ H, i < n.toNat → Pv i σ H → tb ⟨Pv (i + 1), D.rt, D.nx, Pv (i + 1)⟩ (σ.set j (some (.int (0 + (i : Int))))) H) (hd : ∀ σ H, Pv n.toNat σ H → D.nx σ H) :
    tFor (iRng1 (tCons (tC (.int n)) tNil)) (gName j) tb D σ H :=
  ⟨n, rfl, by omega, by omega, for_range (lo := 0) (n := n.toNat) Pv h0 (fun i σ H hi p => hs i σ H hi p) hd⟩
theorem mem_bd {x : V} {ls : List (Option Int)} (h : x ∈ ls.map bdV) : ∃ l, x = bdV l := by
  obtain ⟨l, _, e⟩ := List.mem_map.mp h
  exact ⟨l, e.symm⟩
end
section
variable {K : PySem.W.Frag} {σ : L2.St} {H H1 : Hp} {Q : VK} {te : TE} {tt : TT} {vs : List Nat}
theorem g_lcO1 {g : TG} {tl : TE} (q : tl σ H fun x H1 => ∃ a, x = .ref a ∧ (∃ xs, SqL K H1 a xs) ∧ LcGo (Itl K a) g tt te vs σ H1 Q) : tLc (fun σ H R => iList K tl σ H R ∨ iTup K tl σ H R) g tt te vs σ H Q := .inl q
theorem g_lcO2 {g : TG} {tl : TE} (q : tl σ H fun x H1 => ∃ a, x = .ref a ∧ (∃ xs, SqT K H1 a xs) ∧ LcGo (Itt K a) g tt te vs σ H1 Q) : tLc (fun σ H R => iList K tl σ H R ∨ iTup K tl σ H R) g tt te vs σ H Q := .inr q
/-- .. with a test -/
theorem lcgo_listF {a : Addr} {xs : List V} {j : Nat} (Pv : Addr → Nat → Hp → Prop) (hw : ∀ x, wipe ((wipe σ vs).set j (some x)) vs = wipe σ vs)
    (h0 : ∀ D, H1 D = none → Pv D 0 (upd H1 D (.lst []))) (hl : ∀ D i H, i ≤ xs.length → Pv D i H → SqL K H a xs)
    (hs : ∀ D i x H, H1 D = none → xs[i]? = some x → Pv D i H → tt ((wipe σ vs).set j (some x)) H fun b H3 => if b = true then te ((wipe σ vs).set j (some x)) H3 fun y H4 => ∃ acc, H4 D = some (.lst acc) ∧ acc.length < sizeLine ∧ Pv D (i + 1) (upd H4 D (.lst (acc ++ [y]))) else Pv D (i + 1) H3)
    (hd : ∀ D H, H1 D = none → Pv D xs.length H → Q (.ref D) H) : LcGo (Itl K a) (gName j) tt te vs σ H1 Q :=
  fun D hD => lc_list (xs := xs) (Pv D) (h0 D hD) (hl D) (fun i x H e p => ⟨hw x, hs D i x H hD e p⟩) (fun H p => hd D H hD p)
theorem lcgo_tupF {a : Addr} {xs : List V} {j : Nat} (Pv : Addr → Nat → Hp → Prop) (hw : ∀ x, wipe ((wipe σ vs).set j (some x)) vs = wipe σ vs)
    (h0 : ∀ D, H1 D = none → Pv D 0 (upd H1 D (.lst []))) (hl : ∀ D i H, i ≤ xs.length → Pv D i H → SqT K H a xs)
    (hs : ∀ D i x H, H1 D = none → xs[i]? = some x → Pv D i H → tt ((wipe σ vs).set j (some x)) H fun b H3 => if b = true then te ((wipe σ vs).set j (some x)) H3 fun y H4 => ∃ acc, H4 D = some (.lst acc) ∧ acc.length < sizeLine ∧ Pv D (i + 1) (upd H4 D (.lst (acc ++ [y]))) else Pv D (i + 1) H3)
    (hd : ∀ D H, H1 D = none → Pv D xs.length H → Q (.ref D) H) : LcGo (Itt K a) (gName j) tt te vs σ H1 Q :=
  fun D hD => lc_tup (xs := xs) (Pv D) (h0 D hD) (hl D) (fun i x H e p => ⟨hw x, hs D i x H hD e p⟩) (fun H p => hd D H hD p)
end
end Mf
namespace Mf
open PySem PySem.Spec PyProof.Rows L2
/-! ### fractions: the mathematics -/
theorem red_num (u d : Int) (h : 1 ≤ d) : u / ((Nat.gcd u.natAbs d.natAbs : Nat) : Int) = (Rat.divInt u d).num := by
  rw [Rat.num_divInt, Int.sign_eq_one_of_pos (by omega), Int.one_mul]
  show _ = u / ((Nat.gcd d.natAbs u.natAbs : Nat) : Int)
  rw [Nat.gcd_comm]
theorem red_den (u d : Int) (h : 1 ≤ d) : d / ((Nat.gcd u.natAbs d.natAbs : Nat) : Int) = ((Rat.divInt u d).den : Int) := by
  rw [Rat.den_divInt, if_neg (by omega)]
  show _ = ((d.natAbs / Nat.gcd d.natAbs u.natAbs : Nat) : Int)
  rw [Nat.gcd_comm, Int.natCast_ediv, Int.natAbs_of_nonneg (by omega : 0 ≤ d)]
theorem num_le (u d : Int) (h : 1 ≤ d) : (Rat.divInt u d).num.natAbs ≤ u.natAbs := by
  rw [← red_num u d h]
  exact Int.natAbs_ediv_le_natAbs _ _
theorem den_le (u d : Int) (h : 1 ≤ d) : (Rat.divInt u d).den ≤ d.natAbs := by
  rw [Rat.den_divInt, if_neg (by omega)]
  exact Nat.div_le_self _ _
/-- x is below 2 ^ n -/
def Bt (n : Nat) (x : Int) : Prop := x.natAbs < 2 ^ n
theorem Bt.mono {m n : Nat} {x : Int} (h : Bt m x) (l : m ≤ n) : Bt n x := Nat.lt_of_lt_of_le h (Nat.pow_le_pow_right (by decide) l)
theorem Bt.mul {m n : Nat} {x y : Int} (h1 : Bt m x) (h2 : Bt n y) : Bt (m + n) (x * y) := by
  unfold Bt at *
  rw [Int.natAbs_mul, Nat.pow_add]
  exact Nat.mul_lt_mul'' h1 h2
theorem Bt.add {m : Nat} {x y : Int} (h1 : Bt m x) (h2 : Bt m y) : Bt (m + 1) (x + y) := by
  unfold Bt at *
  have := Int.natAbs_add_le x y
  rw [Nat.pow_succ]
  omega
theorem Bt.neg {m : Nat} {x : Int} (h : Bt m x) : Bt m (-x) := by
  unfold Bt at *
  rw [Int.natAbs_neg]
  exact h
theorem Bt.sub {m : Nat} {x y : Int} (h1 : Bt m x) (h2 : Bt m y) : Bt (m + 1) (x - y) := by
  rw [Int.sub_eq_add_neg]
  exact h1.add h2.neg
theorem Bt.log {n : Nat} {x : Int} (h : Bt n x) (l : n ≤ 8999) : x.natAbs.log2 < 9000 :=
  Nat.lt_of_le_of_lt (Nat.le_of_lt_succ (Nat.lt_of_lt_of_le (PySem.Flt.log2_lt_of (Nat.succ_pos _) (Nat.lt_of_lt_of_le h (Nat.pow_le_pow_right (by decide) l))) (Nat.le_refl _))) (by decide)
theorem Bt.show {n : Nat} {x : Int} (h : Bt n x) (l : n ≤ 1900) : x.natAbs.log2 < 1920 :=
  Nat.lt_of_lt_of_le (PySem.Flt.log2_lt_of (by decide : 0 < 1900) (Nat.lt_of_lt_of_le h (Nat.pow_le_pow_right (by decide) l))) (by decide)
theorem Bt.cm {m n : Nat} {x y : Int} (h1 : Bt m x) (h2 : Bt n y) (l : m + n ≤ 900000) : CMulU x y := by
  refine .inr (wide_mul (a := m + 1) (b := n + 1) ?_ ?_ (by omega) (by omega) (by omega))
  · exact Nat.lt_of_lt_of_le h1 (Nat.pow_le_pow_right (by decide) (by omega))
  · exact Nat.lt_of_lt_of_le h2 (Nat.pow_le_pow_right (by decide) (by omega))
/-- .. of a fraction -/
def Rb (n : Nat) (r : Rat) : Prop := Bt n r.num ∧ Bt n (r.den : Int)
theorem Rb.mono {m n : Nat} {r : Rat} (h : Rb m r) (l : m ≤ n) : Rb n r := ⟨h.1.mono l, h.2.mono l⟩
theorem Rb.of {n : Nat} {u d : Int} (hd : 1 ≤ d) (h1 : Bt n u) (h2 : Bt n d) : Rb n (Rat.divInt u d) := by
  refine ⟨Nat.lt_of_le_of_lt (num_le u d hd) h1, ?_⟩
  show ((Rat.divInt u d).den : Int).natAbs < _
  rw [Int.natAbs_natCast]
  exact Nat.lt_of_le_of_lt (den_le u d hd) h2
theorem den1 (r : Rat) : 1 ≤ (r.den : Int) := by
  have := r.den_pos
  omega
theorem add_div (r s : Rat) : Rat.divInt (r.num * s.den + s.num * r.den) (r.den * s.den) = r + s := by
  rw [Rat.add_def', ← Rat.divInt_ofNat, Int.natCast_mul]
theorem sub_div (r s : Rat) : Rat.divInt (r.num * s.den - s.num * r.den) (r.den * s.den) = r - s := by
  rw [Rat.sub_def', ← Rat.divInt_ofNat, Int.natCast_mul]
theorem mul_div (r s : Rat) : Rat.divInt (r.num * s.num) (r.den * s.den) = r * s := by
  rw [Rat.mul_def', ← Rat.divInt_ofNat, Int.natCast_mul]
theorem div_div (r s : Rat) : Rat.divInt (r.num * s.den) (s.num * r.den) = r / s := by
  have e : r / s = Rat.divInt r.num r.den * Rat.divInt s.den s.num := by
    rw [Rat.div_def, Rat.inv_def, Rat.num_divInt_den]
  rw [e, Rat.divInt_mul_divInt, Int.mul_comm (r.den : Int) s.num]
theorem div_neg (r s : Rat) : Rat.divInt (-r.num * s.den) (-s.num * r.den) = r / s := by
  rw [Int.neg_mul, Int.neg_mul, Rat.neg_divInt_neg, div_div]
theorem Rb.add {m n : Nat} {r s : Rat} (h : Rb m r) (k : Rb n s) : Rb (m + n + 1) (r + s) := by
  rw [← add_div]
  exact Rb.of (by have := den1 r; have := den1 s; exact Int.le_trans (by decide) (Int.mul_le_mul (show 1 ≤ (r.den : Int) from den1 r) (den1 s) (by decide) (by omega))) ((h.1.mul k.2).add ((k.1.mul h.2).mono (by omega))) ((h.2.mul k.2).mono (by omega))
theorem dd1 (r s : Rat) : 1 ≤ (r.den : Int) * s.den := Int.le_trans (by decide) (Int.mul_le_mul (den1 r) (den1 s) (by decide) (by have := den1 r; omega))
theorem Rb.sub {m n : Nat} {r s : Rat} (h : Rb m r) (k : Rb n s) : Rb (m + n + 1) (r - s) := by
  rw [← sub_div]
  exact Rb.of (dd1 r s) ((h.1.mul k.2).sub ((k.1.mul h.2).mono (by omega))) ((h.2.mul k.2).mono (by omega))
theorem Rb.mul {m n : Nat} {r s : Rat} (h : Rb m r) (k : Rb n s) : Rb (m + n) (r * s) := by
  rw [← mul_div]
  exact Rb.of (dd1 r s) (h.1.mul k.1) (h.2.mul k.2)
theorem Rb.div {m n : Nat} {r s : Rat} (h : Rb m r) (k : Rb n s) (hs : s ≠ 0) : Rb (m + n) (r / s) := by
  have hn : s.num ≠ 0 := fun e => hs (Rat.num_eq_zero.mp e)
  have d1 := den1 r
  by_cases hp : 0 < s.num
  · rw [← div_div]
    exact Rb.of (Int.le_trans (by decide) (Int.mul_le_mul (show 1 ≤ s.num by omega) d1 (by decide) (by omega))) (h.1.mul k.2) ((k.1.mul h.2).mono (by omega))
  · rw [← div_neg]
    exact Rb.of (Int.le_trans (by decide) (Int.mul_le_mul (show 1 ≤ -s.num by omega) d1 (by decide) (by omega))) (h.1.neg.mul k.2) ((k.1.neg.mul h.2).mono (by omega))

/-! ### fractions as values -/
def upD : PyData → Int
  | .int i => i
  | .list [a, _] | .tuple [a, _] => valD a
  | _ => 0
def dnD : PyData → Int
  | .list [_, b] | .tuple [_, b] => valD b
  | _ => 1
def valQ (d : PyData) : Rat := Rat.divInt (upD d) (dnD d)
/-- the reduced tuple -/
abbrev rv (r : Rat) : List V := [.int r.num, .int (r.den : Int)]
def rd (r : Rat) : PyData := .tuple [.int r.num, .int (r.den : Int)]
/-- v tells the fraction r, numbers below 2 ^ n -/
def Fr (q : Addr) (K : PySem.W.Frag) (H : Hp) (v : V) (r : Rat) (n : Nat) : Prop := ∃ d, Dq q K H v d ∧ isFrD d = true ∧ valQ d = r ∧ Bt n (upD d) ∧ Bt n (dnD d) ∧ 1 ≤ dnD d
theorem Fr.go {q : Addr} {K : PySem.W.Frag} {H H' : Hp} {v : V} {r : Rat} {n : Nat} (s : SameX q H H') (h : Fr q K H v r n) : Fr q K H' v r n := by
  obtain ⟨d, h1, h2⟩ := h
  exact ⟨d, h1.go s, h2⟩
theorem Fr.rb {q : Addr} {K : PySem.W.Frag} {H : Hp} {v : V} {r : Rat} {n : Nat} (h : Fr q K H v r n) : Rb n r := by
  obtain ⟨d, h1, h2, rfl, h4, h5, h6⟩ := h
  exact Rb.of h6 h4 h5
theorem Fr.mono {q : Addr} {K : PySem.W.Frag} {H : Hp} {v : V} {r : Rat} {m n : Nat} (h : Fr q K H v r m) (l : m ≤ n) : Fr q K H v r n := by
  obtain ⟨d, h1, h2, h3, h4, h5, h6⟩ := h
  exact ⟨d, h1, h2, h3, h4.mono l, h5.mono l, h6⟩
theorem rd_fr (r : Rat) : isFrD (rd r) = true := by
  show (true && decide (1 ≤ (r.den : Int))) = true
  rw [Bool.true_and]
  exact decide_eq_true (den1 r)
theorem rd_val (r : Rat) : valQ (rd r) = r := Rat.num_divInt_den r
theorem Fr.tup {q : Addr} {K : PySem.W.Frag} {H : Hp} {p : Addr} {r : Rat} {n : Nat} (h : SqT K H p (rv r)) (np : p ≠ q) (b : Rb n r) : Fr q K H (.ref p) r n :=
  ⟨rd r, .tup np h (.cons (.int _) (.cons (.int _) .nil)), rd_fr r, rd_val r, b.1, b.2, den1 r⟩
theorem Fr.int {q : Addr} {K : PySem.W.Frag} {H : Hp} {i : Int} {n : Nat} (b : Bt n i) (hn : 1 ≤ n) : Fr q K H (.int i) (Rat.divInt i 1) n :=
  ⟨.int i, .int i, rfl, rfl, b, Bt.mono (m := 1) (by show 1 < 2 ^ 1; decide) hn, by show (1 : Int) ≤ 1; omega⟩
/-- a new tuple tells it -/
def RetT (r : Rat) (H : Hp) (Q : VK) : Prop := ∀ p H', Same H H' → H p = none → H' p = some (.tup (rv r)) → Q (.ref p) H'
theorem RetT.same {r : Rat} {H H1 : Hp} {Q : VK} (k : RetT r H Q) (s : Same H H1) : RetT r H1 Q := fun p H' s' n e => k p H' (s.trans s') (s.free n) e
section
variable {K : PySem.W.Frag} {σ : L2.St} {H : Hp} {Q : VK}
theorem pg_or {X : Cx} {tg : Expr} {t1 t2 : TG} (h1 : PG X tg t1) (h2 : PG X tg t2) : PG X tg (fun v σ H Q => t1 v σ H Q ∨ t2 v σ H Q) := by
  refine ⟨fun pins s σ H v u Q I r h => ?_⟩
  cases h with
  | inl h => exact h1.run pins s σ H v u Q I r h
  | inr h => exact h2.run pins s σ H v u Q I r h
theorem g_tupG {a : Addr} {xs : List V} {n : Nat} {t : TGs} {R : L2.St → Hp → Prop} (h : SqT K H a xs) (hl : xs.length = n) (q : t xs σ H R) : gTup K n t (.ref a) σ H R := ⟨a, xs, rfl, h, hl, q⟩
theorem g_unl {a : Addr} {xs : List V} {n : Nat} {t : TGs} {R : L2.St → Hp → Prop} (h : SqL K H a xs) (hl : xs.length = n) (q : t xs σ H R) : gUnl K n t (.ref a) σ H R := ⟨a, xs, rfl, h, hl, q⟩
theorem g_consG {v : V} {vr : List V} {t : TG} {u : TGs} {R : L2.St → Hp → Prop} (q : t v σ H fun σ' H' => u vr σ' H' R) : gCons t u (v :: vr) σ H R := ⟨v, vr, rfl, q⟩
theorem g_nilG {R : L2.St → Hp → Prop} (q : R σ H) : gNil [] σ H R := ⟨rfl, q⟩
theorem g_seqG {a : Addr} {xs : List V} {n : Nat} {t : TGs} {R : L2.St → Hp → Prop} (h : Sq K H a xs) (hl : xs.length = n) (q : t xs σ H R) : (fun v σ H Q => gTup K n t v σ H Q ∨ gUnl K n t v σ H Q : TG) (.ref a) σ H R := by
  rcases h with h | h
  · exact .inr ⟨a, xs, rfl, h, hl, q⟩
  · exact .inl ⟨a, xs, rfl, h, hl, q⟩
theorem g_gcd {a b : Int} (q : Q (.int ((Nat.gcd a.natAbs b.natAbs : Nat) : Int)) H) : rGcd [.int a, .int b] H Q := ⟨a, b, rfl, q⟩
theorem g_mulU {i j : Int} (c : CMulU i j) (q : Q (.int (i * j)) H) : rMulU (.int i) (.int j) H Q := .inl ⟨i, j, rfl, rfl, c, q⟩
/-- reading a value: an int, or two ints -/
theorem posD_int {d : PyData} (h : posD d = true) : isIntD d = true ∧ 1 ≤ valD d := by
  cases d with
  | int i => exact ⟨rfl, of_decide_eq_true h⟩
  | _ => cases h
theorem Fr.cases {q : Addr} {v : V} {r : Rat} {n : Nat} (h : Fr q K H v r n) : (∃ i : Int, v = .int i ∧ Dq q K H v (.int i) ∧ r = Rat.divInt i 1 ∧ Bt n i) ∨
    ∃ a d x y, v = .ref a ∧ a ≠ q ∧ Dq q K H v d ∧ isIntD d = false ∧ isFrD d = true ∧ Sq K H a [.int x, .int y] ∧ 1 ≤ y ∧ r = Rat.divInt x y ∧ Bt n x ∧ Bt n y := by
  obtain ⟨d, h1, h2, h3, h4, h5, h6⟩ := h
  by_cases e : isSeqD d = true
  · obtain ⟨a, xs, ds, rfl, na, hs, hall, ed⟩ := h1.seq e
    by_cases e2 : ds.length = 2
    · obtain ⟨x, y, da, db, rfl, rfl, hx, hy⟩ := two_of hall (by rw [hall.len]; exact e2)
      have e3 := h2
      rw [(frD_of ed).1, Bool.and_eq_true] at e3
      obtain ⟨p1, p2⟩ := posD_int e3.2
      obtain ⟨rfl, ea⟩ := hx.int_of e3.1
      obtain ⟨rfl, eb⟩ := hy.int_of p1
      have u1 : upD d = valD da := by rcases ed with rfl | rfl <;> rfl
      have u2 : dnD d = valD db := by rcases ed with rfl | rfl <;> rfl
      have u3 : isIntD d = false := by rcases ed with rfl | rfl <;> rfl
      rw [u1] at h4
      rw [u2] at h5
      refine .inr ⟨a, d, valD da, valD db, rfl, na, h1, u3, h2, hs, p2, ?_, h4, h5⟩
      rw [← h3]
      unfold valQ
      rw [u1, u2]
    · rw [(frD_two ed e2).1] at h2
      cases h2
  · cases h1 with
    | int i => exact .inl ⟨i, rfl, .int i, h3.symm, h4⟩
    | lst _ _ _ => exact absurd rfl e
    | tup _ _ _ => exact absurd rfl e
    | _ => cases h2
end
/-! ### the promises -/
def sp_reduced (K : PySem.W.Frag) : Sp := fun vs H Q _ => ∃ (u d : Int), vs = [.int u, .int d] ∧ 1 ≤ d ∧ Bt 8000 d ∧ RetT (Rat.divInt u d) H Q
def sp_read (K : PySem.W.Frag) : Sp := fun vs H Q _ => ∃ q v part r n, vs = [v, part] ∧ Fr q K H v r n ∧ n ≤ 8000 ∧ RetT r H Q
def sp_frof (K : PySem.W.Frag) : Sp := fun vs H Q _ => ∃ q v r n, vs = [v] ∧ Fr q K H v r n ∧ n ≤ 8000 ∧ RetT r H Q
def sp_bin (f : Rat → Rat → Rat) (K : PySem.W.Frag) : Sp := fun vs H Q _ => ∃ q v1 v2 r1 r2 m n, vs = [v1, v2] ∧ Fr q K H v1 r1 m ∧ Fr q K H v2 r2 n ∧ m + n ≤ 7000 ∧ RetT (f r1 r2) H Q
def sp_divd (K : PySem.W.Frag) : Sp := fun vs H Q _ => ∃ q v1 v2 r1 r2 m n, vs = [v1, v2] ∧ Fr q K H v1 r1 m ∧ Fr q K H v2 r2 n ∧ m + n ≤ 7000 ∧ r2 ≠ 0 ∧ RetT (r1 / r2) H Q
end Mf
namespace Mf
open PySem PySem.Spec PyProof.Rows L2
/-! ### what the laws draw, and how they look -/
/-- numbers that can be shown -/
def Shw (d : PyData) : Prop := d.showable = true ∧ d.leavesShort 1921 = true
theorem shw_int {i : Int} {n : Nat} (b : Bt n i) (l : n ≤ 1900) : Shw (.int i) := by
  have h := b.show l
  refine ⟨decide_eq_true h, ?_⟩
  show decide ((PyData.shown (.int i)).length ≤ 1921) = true
  exact decide_eq_true (int_text_len_1921 h)
theorem int_w {i : Int} {n : Nat} (b : Bt n i) (l : n ≤ 1900) : (PyData.int i).weight ≤ 1921 := by
  have h := b.show l
  show (if (i == 0) = true then 0 else i.natAbs.log2 + 1) ≤ 1921
  split <;> omega
theorem shw_tup2 {a b : PyData} (h1 : Shw a) (h2 : Shw b) : Shw (.tuple [a, b]) := by
  constructor
  · show (a.showable && (b.showable && true)) = true
    rw [h1.1, h2.1] <;> rfl
  · show (a.leavesShort 1921 && (b.leavesShort 1921 && true)) = true
    rw [h1.2, h2.2] <;> rfl
theorem shw_lst2 {a b : PyData} (h1 : Shw a) (h2 : Shw b) : Shw (.list [a, b]) := by
  constructor
  · show (a.showable && (b.showable && true)) = true
    rw [h1.1, h2.1] <;> rfl
  · show (a.leavesShort 1921 && (b.leavesShort 1921 && true)) = true
    rw [h1.2, h2.2] <;> rfl
theorem Shw.len {d : PyData} (h : Shw d) (w : d.weight ≤ 8000) : d.shown.length ≤ sizeLine := by
  have := PyData.shown_le 1921 (by decide) d h.2
  have e : sizeLine = 16777216 := sizeLine_eq
  have : (1921 + 2) * d.weight ≤ (1921 + 2) * 8000 := Nat.mul_le_mul_left _ w
  omega
/-- what a fraction's data is -/
theorem fr_shape {d : PyData} (h : isFrD d = true) : (∃ i, d = .int i) ∨ ∃ x y, 1 ≤ y ∧ (d = .list [.int x, .int y] ∨ d = .tuple [.int x, .int y]) := by
  have two : ∀ a b : PyData, (isIntD a && posD b) = true → ∃ x y, 1 ≤ y ∧ a = .int x ∧ b = .int y := by
    intro a b e
    rw [Bool.and_eq_true] at e
    obtain ⟨p1, p2⟩ := posD_int e.2
    cases a with
    | int x => cases b with
      | int y => exact ⟨x, y, p2, rfl, rfl⟩
      | _ => cases p1
    | _ => cases e.1
  cases d with
  | int i => exact .inl ⟨i, rfl⟩
  | list ds =>
    match ds, h with
    | [a, b], h =>
      obtain ⟨x, y, h1, rfl, rfl⟩ := two a b h
      exact .inr ⟨x, y, h1, .inl rfl⟩
    | [], h => cases h
    | [_], h => cases h
    | _ :: _ :: _ :: _, h => cases h
  | tuple ds =>
    match ds, h with
    | [a, b], h =>
      obtain ⟨x, y, h1, rfl, rfl⟩ := two a b h
      exact .inr ⟨x, y, h1, .inr rfl⟩
    | [], h => cases h
    | [_], h => cases h
    | _ :: _ :: _ :: _, h => cases h
  | _ => cases h
theorem fr_dn {d : PyData} (h : isFrD d = true) : 1 ≤ dnD d := by
  rcases fr_shape h with ⟨i, rfl⟩ | ⟨x, y, hy, rfl | rfl⟩
  · show (1 : Int) ≤ 1; omega
  · exact hy
  · exact hy
theorem fr_shw {d : PyData} {n : Nat} (h : isFrD d = true) (b1 : Bt n (upD d)) (b2 : Bt n (dnD d)) (l : n ≤ 1900) : Shw d ∧ d.weight ≤ 3850 ∧ d.depth ≤ 5 ∧ noDct d = true ∧ d.hasDict = false ∧ d.canLay0 = true := by
  rcases fr_shape h with ⟨i, rfl⟩ | ⟨x, y, hy, rfl | rfl⟩
  · exact ⟨shw_int b1 l, Nat.le_trans (int_w b1 l) (by decide), by simp [PyData.depth], rfl, rfl, rfl⟩
  · exact ⟨shw_lst2 (shw_int b1 l) (shw_int b2 l), by have := int_w b1 l; have := int_w b2 l; simp only [upD, dnD, valD] at *; rw [PyData.weight]; simp only [PyData.weightAll]; omega, by simp [PyData.depth, PyData.depthAll], rfl, rfl, rfl⟩
  · exact ⟨shw_tup2 (shw_int b1 l) (shw_int b2 l), by have := int_w b1 l; have := int_w b2 l; simp only [upD, dnD, valD] at *; rw [PyData.weight]; simp only [PyData.weightAll]; omega, by simp [PyData.depth, PyData.depthAll], rfl, rfl, rfl⟩
section
variable {q : Addr} {K : PySem.W.Frag} {σ : L2.St} {H : Hp} {Q : VK}
theorem Fr.of {v : V} {d : PyData} {n : Nat} (h : Dq q K H v d) (f : isFrD d = true) (b1 : Bt n (upD d)) (b2 : Bt n (dnD d)) : Fr q K H v (valQ d) n := ⟨d, h, f, rfl, b1, b2, fr_dn f⟩
theorem cut_tt {t : TT} {R : Bool → Hp → Prop} {b : Bool} (h1 : ∀ R' : Bool → Hp → Prop, (∀ H', Same H H' → R' b H') → t σ H R') (h2 : ∀ H', Same H H' → R b H') : t σ H R := h1 R h2
/-- two tuples of one fraction -/
theorem g_neFF {p1 p2 : Addr} {r : Rat} (e1 : SqT K H p1 (rv r)) (e2 : SqT K H p2 (rv r)) (k : Q (.bl false) H) : rNeU K (.ref p1) (.ref p2) H Q := by
  refine .inr ⟨rd r, rd r, .tup e1 (.cons (.int _) (.cons (.int _) .nil)), .tup e2 (.cons (.int _) (.cons (.int _) .nil)), by rfl, by rfl, ?_⟩
  rw [SeqAt.eqv_refl (rd r) (by rfl)]
  exact k
/-- the text of a pair of ints, of two fractions -/
theorem g_reprT {p : Addr} {x y : Int} {n : Nat} (e : SqT K H p [.int x, .int y]) (bx : Bt n x) (by_ : Bt n y) (l : n ≤ 1900) (k : Q (.str (PyData.tuple [.int x, .int y]).shown) H) : rReprU K [.ref p] H Q :=
  g_repr (.tup e (.cons (.int _) (.cons (.int _) .nil))) (shw_tup2 (shw_int bx l) (shw_int by_ l)).1 rfl (by simp [PyData.depth, PyData.depthAll]) ((shw_tup2 (shw_int bx l) (shw_int by_ l)).len (by have := int_w bx l; have := int_w by_ l; rw [PyData.weight]; simp only [PyData.weightAll]; omega)) k
theorem g_reprFF {p : Addr} {v1 v2 : V} {d1 d2 : PyData} {n : Nat} (e : SqL K H p [v1, v2]) (h1 : Dq q K H v1 d1) (h2 : Dq q K H v2 d2) (f1 : isFrD d1 = true) (f2 : isFrD d2 = true)
    (b1 : Bt n (upD d1)) (b2 : Bt n (dnD d1)) (b3 : Bt n (upD d2)) (b4 : Bt n (dnD d2)) (l : n ≤ 1900) (k : Q (.str (PyData.list [d1, d2]).shown) H) : rReprU K [.ref p] H Q := by
  obtain ⟨s1, w1, e1, n1, g1, _⟩ := fr_shw f1 b1 b2 l
  obtain ⟨s2, w2, e2, n2, g2, _⟩ := fr_shw f2 b3 b4 l
  refine g_repr (.lst e (.cons (h1.dp n1) (.cons (h2.dp n2) .nil))) (shw_lst2 s1 s2).1 ?_ ?_ ((shw_lst2 s1 s2).len ?_) k
  · show (d1.hasDict || (d2.hasDict || false)) = false
    rw [g1, g2] <;> rfl
  · simp only [PyData.depth, PyData.depthAll]
    omega
  · rw [PyData.weight]
    simp only [PyData.weightAll]
    omega
end
theorem cross {r : Rat} {U D : Int} (hD : 1 ≤ D) (e : r = Rat.divInt U D) : r.num * D = U * r.den := by
  have h : Rat.divInt r.num r.den = Rat.divInt U D := by rw [Rat.num_divInt_den]; exact e
  exact (Rat.divInt_eq_divInt_iff (by have := den1 r; omega) (by omega)).mp h
theorem div_cross {a b c d : Int} : Rat.divInt a b / Rat.divInt c d = Rat.divInt (a * d * (if 0 < c then 1 else -1)) ((if c < 0 then -c else c) * b) ∨ c = 0 := by
  by_cases hc : c = 0
  · exact .inr hc
  · refine .inl ?_
    rw [Rat.div_def, Rat.inv_divInt, Rat.divInt_mul_divInt]
    by_cases h : 0 < c
    · rw [if_pos h, if_neg (by omega), Int.mul_one, Int.mul_comm b c]
    · rw [if_neg h, if_pos (by omega), Int.mul_neg, Int.mul_one, Int.neg_mul, Rat.neg_divInt_neg, Int.mul_comm b c]
theorem valQ_ne {d : PyData} (h : isFrD d = true) (hc : upD d ≠ 0) : valQ d ≠ 0 := by
  intro e
  have h1 := fr_dn h
  have e2 : Rat.divInt (upD d) (dnD d) = Rat.divInt 0 1 := by
    rw [Rat.zero_divInt]
    exact e
  have := (Rat.divInt_eq_divInt_iff (by omega) (by decide)).mp e2
  omega
theorem coprime_r (r : Rat) : Nat.gcd r.num.natAbs ((r.den : Int)).natAbs = 1 := by
  rw [Int.natAbs_natCast]
  exact r.reduced
/-- a drawn fraction; a pair; the law's own look at a fraction -/
def sp_lfrac (K : PySem.W.Frag) : Sp := fun vs H Q _ => ∃ (q : Addr) (t m : Int), vs = [.ref q, .int m] ∧ Qy K q t H ∧ t ≤ 999990 ∧ 1 ≤ m ∧ m ≤ 10000000000000000000000000000000000000000 ∧
  ∀ t' H' v d, SameX q H H' → Qy K q t' H' → t ≤ t' → t' ≤ t + 4 → Dq q K H' v d → isFrD d = true → Bt 140 (upD d) → Bt 140 (dnD d) → Q v H'
def sp_lpair (K : PySem.W.Frag) : Sp := fun vs H Q _ => ∃ (q : Addr) (v : V) (d : PyData), vs = [v] ∧ Dq q K H v d ∧ isFrD d = true ∧
  ∀ p H', Same H H' → H p = none → H' p = some (.tup [.int (upD d), .int (dnD d)]) → Q (.ref p) H'
def sp_lis (K : PySem.W.Frag) : Sp := fun vs H Q _ => ∃ (p : Addr) (U D : Int) (r : Rat) (n : Nat), vs = [.ref p, .int U, .int D] ∧ SqT K H p (rv r) ∧ 1 ≤ D ∧ r = Rat.divInt U D ∧ Rb n r ∧ Bt n U ∧ Bt n D ∧ n ≤ 1900 ∧ ∀ H', Same H H' → Q (.bl true) H'
theorem fr_pair {x y : Int} {n : Nat} (hy : 1 ≤ y) (bx : Bt n x) (b : Bt n y) : (isFrD (.tuple [.int x, .int y]) = true ∧ Bt n (upD (.tuple [.int x, .int y])) ∧ Bt n (dnD (.tuple [.int x, .int y]))) ∧
    (isFrD (.list [.int x, .int y]) = true ∧ Bt n (upD (.list [.int x, .int y])) ∧ Bt n (dnD (.list [.int x, .int y]))) := by
  have e : (true && decide (1 ≤ y)) = true := by rw [Bool.true_and]; exact decide_eq_true hy
  exact ⟨⟨e, bx, b⟩, ⟨e, bx, b⟩⟩
end Mf
namespace Mf
open PySem PySem.Spec PyProof.Rows L2
/-! ### drawn fractions by their addresses -/
/-- v tells x / y; where it is an object, its address is not among ex -/
def Fz (ex : Addr → Prop) (H : Hp) (v : V) (x y : Int) : Prop := (v = .int x ∧ y = 1) ∨ ∃ a, v = .ref a ∧ ¬ ex a ∧ (H a = some (.tup [.int x, .int y]) ∨ H a = some (.lst [.int x, .int y]))
theorem Fz.go {ex ex' : Addr → Prop} {H H' : Hp} {v : V} {x y : Int} (h : Fz ex H v x y) (s : ∀ b o, ¬ ex b → H b = some o → H' b = some o ∧ ¬ ex' b) : Fz ex' H' v x y := by
  rcases h with h | ⟨a, rfl, n, e⟩
  · exact .inl h
  · refine .inr ⟨a, rfl, ?_, ?_⟩
    · rcases e with e | e
      · exact (s _ _ n e).2
      · exact (s _ _ n e).2
    · rcases e with e | e
      · exact .inl (s _ _ n e).1
      · exact .inr (s _ _ n e).1
/-- the data -/
theorem Fz.dq {ex : Addr → Prop} {H : Hp} {v : V} {x y : Int} {q : Addr} {K : PySem.W.Frag} {n : Nat} (h : Fz ex H v x y) (hq : ex q) (hy : 1 ≤ y) (bx : Bt n x) (b : Bt n y) :
    ∃ d, Dq q K H v d ∧ isFrD d = true ∧ upD d = x ∧ dnD d = y := by
  rcases h with ⟨rfl, rfl⟩ | ⟨a, rfl, na, e | e⟩
  · exact ⟨.int x, .int x, rfl, rfl, rfl⟩
  · have na' : a ≠ q := fun z => na (z ▸ hq)
    exact ⟨.tuple [.int x, .int y], .tup na' (tupU e) (.cons (.int _) (.cons (.int _) .nil)), (fr_pair hy bx b).1.1, rfl, rfl⟩
  · have na' : a ≠ q := fun z => na (z ▸ hq)
    exact ⟨.list [.int x, .int y], .lst na' (seqU e) (.cons (.int _) (.cons (.int _) .nil)), (fr_pair hy bx b).2.1, rfl, rfl⟩
def sp_lfz (K : PySem.W.Frag) : Sp := fun vs H Q _ => ∃ (q : Addr) (t m : Int), vs = [.ref q, .int m] ∧ Qy K q t H ∧ t ≤ 999990 ∧ 1 ≤ m ∧ m ≤ 10000000000000000000000000000000000000000 ∧
  ∀ t' H' v x y, SameX q H H' → Qy K q t' H' → t ≤ t' → t' ≤ t + 4 → Fz (fun a => H a ≠ none) H' v x y → 1 ≤ y → Bt 140 x → Bt 140 y → Q v H'
/-- several -/
structure Fq where
  x : Int
  y : Int
  pos : 1 ≤ y
  bx : Bt 140 x
  by_ : Bt 140 y
inductive FzAll (ex : Addr → Prop) (H : Hp) : List V → List Fq → Prop
  | nil : FzAll ex H [] []
  | cons {v : V} {vs : List V} {f : Fq} {fs : List Fq} : Fz ex H v f.x f.y → FzAll ex H vs fs → FzAll ex H (v :: vs) (f :: fs)
theorem FzAll.go {ex ex' : Addr → Prop} {H H' : Hp} (s : ∀ b o, ¬ ex b → H b = some o → H' b = some o ∧ ¬ ex' b) : ∀ {vs : List V} {fs : List Fq}, FzAll ex H vs fs → FzAll ex' H' vs fs
  | _, _, .nil => .nil
  | _, _, .cons h t => .cons (h.go s) (FzAll.go s t)
theorem FzAll.app {ex : Addr → Prop} {H : Hp} {v : V} {f : Fq} (h : Fz ex H v f.x f.y) : ∀ {vs : List V} {fs : List Fq}, FzAll ex H vs fs → FzAll ex H (vs ++ [v]) (fs ++ [f])
  | _, _, .nil => .cons h .nil
  | _, _, .cons g t => .cons g (FzAll.app h t)
theorem FzAll.len {ex : Addr → Prop} {H : Hp} : ∀ {vs : List V} {fs : List Fq}, FzAll ex H vs fs → vs.length = fs.length
  | _, _, .nil => rfl
  | _, _, .cons _ t => congrArg Nat.succ (FzAll.len t)
def Fq.q (f : Fq) : Rat := Rat.divInt f.x f.y
theorem FzAll.dq {ex : Addr → Prop} {H : Hp} {q : Addr} {K : PySem.W.Frag} (hq : ex q) : ∀ {vs : List V} {fs : List Fq}, FzAll ex H vs fs →
    ∃ ds, DqAll q K H vs ds ∧ (∀ d ∈ ds, isFrD d = true ∧ Bt 140 (upD d) ∧ Bt 140 (dnD d)) ∧ ds.map valQ = fs.map Fq.q
  | _, _, .nil => ⟨[], .nil, fun _ h => absurd h List.not_mem_nil, rfl⟩
  | _, _, .cons (f := f) h t => by
    obtain ⟨ds, h1, h2, h3⟩ := FzAll.dq (K := K) hq t
    obtain ⟨d, k1, k2, k3, k4⟩ := h.dq (K := K) hq f.pos f.bx f.by_
    refine ⟨d :: ds, .cons k1 h1, ?_, ?_⟩
    · intro e he
      rcases List.mem_cons.mp he with rfl | he
      · exact ⟨k2, by rw [k3]; exact f.bx, by rw [k4]; exact f.by_⟩
      · exact h2 e he
    · rw [List.map_cons, List.map_cons, h3]
      show valQ d :: _ = f.q :: _
      unfold valQ Fq.q
      rw [k3, k4]
/-! ### sums -/
def sumQ (rs : List Rat) : Rat := rs.foldl (· + ·) 0
theorem sumQ_snoc (rs : List Rat) (r : Rat) : sumQ (rs ++ [r]) = sumQ rs + r := by
  unfold sumQ
  rw [List.foldl_append]
  rfl
theorem Rb_fold : ∀ (rs : List Rat) (r0 : Rat) (m : Nat), Rb m r0 → (∀ r ∈ rs, Rb 140 r) → Rb (m + 141 * rs.length) (rs.foldl (· + ·) r0)
  | [], r0, m, h0, _ => h0
  | r :: rs, r0, m, h0, h => by
    have h1 := Rb_fold rs (r0 + r) (m + 140 + 1) (h0.add (h r List.mem_cons_self)) fun e he => h e (List.mem_cons_of_mem _ he)
    exact h1.mono (by rw [List.length_cons]; omega)
theorem Rb0 : Rb 1 0 := ⟨by show (0 : Int).natAbs < _; decide, by show ((1 : Nat) : Int).natAbs < _; decide⟩
theorem Rb_sum (rs : List Rat) (h : ∀ r ∈ rs, Rb 140 r) : Rb (1 + 141 * rs.length) (sumQ rs) := Rb_fold rs 0 1 Rb0 h
/-- the sum of a list or tuple of fractions -/
def sp_sum (K : PySem.W.Frag) : Sp := fun vs H Q _ => ∃ (q p : Addr) (xs : List V) (ds : List PyData), vs = [.ref p] ∧ H q ≠ none ∧ p ≠ q ∧ Sq K H p xs ∧ DqAll q K H xs ds ∧ (∀ d ∈ ds, isFrD d = true ∧ Bt 140 (upD d) ∧ Bt 140 (dnD d)) ∧ ds.length ≤ 9 ∧ RetT (sumQ (ds.map valQ)) H Q
def sp_mixd (K : PySem.W.Frag) : Sp := fun vs H Q _ => ∃ q v1 v2 v3 r1 r2 r3, vs = [v1, v2, v3] ∧ H q ≠ none ∧ Fr q K H v1 r1 500 ∧ Fr q K H v2 r2 500 ∧ Fr q K H v3 r3 500 ∧ RetT ((1 - r3) * r1 + r3 * r2) H Q
def sgn (n : Int) : Int := if n < 0 then -1 else if 0 < n then 1 else 0
def sp_sign (K : PySem.W.Frag) : Sp := fun vs H Q _ => ∃ q v r n, vs = [v] ∧ Fr q K H v r n ∧ n ≤ 8000 ∧ ∀ H', Same H H' → Q (.int (sgn r.num)) H'
theorem sgn_div {x y : Int} (hy : 1 ≤ y) : sgn (Rat.divInt x y).num = sgn x := by
  have h1 := cross hy rfl (r := Rat.divInt x y) (U := x)
  have h2 := den1 (Rat.divInt x y)
  generalize (Rat.divInt x y).num = n at *
  generalize ((Rat.divInt x y).den : Int) = d at *
  unfold sgn
  by_cases a : n < 0
  · have : n * y < 0 := Int.mul_neg_of_neg_of_pos a (by omega)
    have : x < 0 := by
      by_cases z : x < 0
      · exact z
      · have := Int.mul_nonneg (show 0 ≤ x by omega) (show 0 ≤ d by omega)
        omega
    rw [if_pos a, if_pos this]
  · rw [if_neg a]
    by_cases b : 0 < n
    · have : 0 < n * y := Int.mul_pos b (by omega)
      have : 0 < x := by
        by_cases z : 0 < x
        · exact z
        · have := Int.mul_nonneg (show 0 ≤ -x by omega) (show 0 ≤ d by omega)
          rw [Int.neg_mul] at this
          omega
      rw [if_pos b, if_neg (by omega), if_pos this]
    · have e : n = 0 := by omega
      rw [e, Int.zero_mul] at h1
      have : x = 0 := by
        rcases Int.mul_eq_zero.mp h1.symm with z | z
        · exact z
        · omega
      rw [if_neg b, this]
      decide
section
variable {K : PySem.W.Frag} {σ : L2.St} {H : Hp} {Q : VK}
/-- for over a list or a tuple that stands in a slot -/
theorem g_forS {i0 j : Nat} {a : Addr} {xs : List V} {tb : TS} {D : Ends} (e : σ[i0]? = some (some (.ref a))) (hs : Sq K H a xs) (Pv : Nat → L2.St → Hp → Prop) (h0 : Pv 0 σ H) (hx : ∀ i σ' H', Pv i σ' H' → Same H H')
    (hb : ∀ i x σ' H', xs[i]? = some x → Pv i σ' H' → tb ⟨Pv (i + 1), D.rt, D.nx, Pv (i + 1)⟩ (σ'.set j (some x)) H') (hd : ∀ σ' H', Pv xs.length σ' H' → D.nx σ' H') :
    tFor (fun σ H R => iList K (tVar i0) σ H R ∨ iTup K (tVar i0) σ H R) (gName j) tb D σ H := by
  rcases hs with hs | hs
  · exact .inl ⟨.ref a, e, a, rfl, ⟨xs, hs⟩, for_list (xs := xs) Pv h0 (fun i σ' H' _ p => (hx i σ' H' p).seq hs) (fun i x σ' H' ex p => hb i x σ' H' ex p) hd⟩
  · exact .inr ⟨.ref a, e, a, rfl, ⟨xs, hs⟩, for_tup (xs := xs) Pv h0 (fun i σ' H' _ p => (Same.x (q := a + 1) (hx i σ' H' p)).tup (Nat.ne_of_lt (Nat.lt_succ_self a)) hs) (fun i x σ' H' ex p => hb i x σ' H' ex p) hd⟩
theorem g_forL {i0 j : Nat} {a : Addr} {xs : List V} {tb : TS} {D : Ends} (e : σ[i0]? = some (some (.ref a))) (hs : SqL K H a xs) (Pv : Nat → L2.St → Hp → Prop) (h0 : Pv 0 σ H) (hx : ∀ i σ' H', Pv i σ' H' → Same H H')
    (hb : ∀ i x σ' H', xs[i]? = some x → Pv i σ' H' → tb ⟨Pv (i + 1), D.rt, D.nx, Pv (i + 1)⟩ (σ'.set j (some x)) H') (hd : ∀ σ' H', Pv xs.length σ' H' → D.nx σ' H') :
    tFor (iList K (tVar i0)) (gName j) tb D σ H :=
  ⟨.ref a, e, a, rfl, ⟨xs, hs⟩, for_list (xs := xs) Pv h0 (fun i σ' H' _ p => (hx i σ' H' p).seq hs) (fun i x σ' H' ex p => hb i x σ' H' ex p) hd⟩
theorem g_yes {R : Bool → Hp → Prop} (q : R true H) : tYes σ H R := q
theorem ne_trk {q p : Addr} (h : H q ≠ none) (e : H p = none) : p ≠ q := fun z => h (z ▸ e)
theorem Same.trk {H' : Hp} {q : Addr} (s : Same H H') (h : H q ≠ none) : H' q ≠ none := by
  cases e : H q with
  | none => exact absurd e h
  | some o =>
    rw [s _ _ e]
    exact Option.some_ne_none _
theorem fresh_x {q p : Addr} {Hz : Hp} (sx : SameX q H Hz) (hq : ∃ o, Hz q = some o) (h : Hz p = none) : ¬ (H p ≠ none) := by
  intro z
  obtain ⟨oq, hq⟩ := hq
  have npq : p ≠ q := by
    intro e
    rw [e, hq] at h
    cases h
  cases e : H p with
  | none => exact z e
  | some o =>
    rw [sx _ _ npq e] at h
    cases h
theorem DqAll.get {q : Addr} : ∀ {xs : List V} {ds : List PyData} {i : Nat} {x : V}, DqAll q K H xs ds → xs[i]? = some x → ∃ d, ds[i]? = some d ∧ Dq q K H x d
  | _, _, _, _, .nil, e => by simp at e
  | _, _, 0, x, .cons h _, e => by
    cases e
    exact ⟨_, rfl, h⟩
  | _, _, i + 1, x, .cons _ t, e => by
    obtain ⟨d, h1, h2⟩ := DqAll.get (i := i) (x := x) t (by simpa using e)
    exact ⟨d, by simpa using h1, h2⟩
theorem all_rep (n : Nat) : (List.replicate n true).all id = true := by
  induction n with
  | zero => rfl
  | succ n ih => rw [List.replicate_succ, List.all_cons, ih] <;> rfl
theorem take_snoc {α : Type} {l : List α} {i : Nat} {x : α} (h : l[i]? = some x) : l.take (i + 1) = l.take i ++ [x] := by
  rw [List.take_add_one, h]
  rfl
theorem mix_cross {A B C D E F : Int} (hB : 1 ≤ B) (hD : 1 ≤ D) (hF : 1 ≤ F) : (1 - Rat.divInt E F) * Rat.divInt A B + Rat.divInt E F * Rat.divInt C D = Rat.divInt ((F - E) * A * D + E * C * B) (F * B * D) := by
  have e1 : (1 : Rat) = Rat.divInt F F := (Rat.divInt_self' (by omega)).symm
  have n1 : F * F * B ≠ 0 := Int.mul_ne_zero (Int.mul_ne_zero (by omega) (by omega)) (by omega)
  have n2 : F * D ≠ 0 := Int.mul_ne_zero (by omega) (by omega)
  have n3 : F * B * D ≠ 0 := Int.mul_ne_zero (Int.mul_ne_zero (by omega) (by omega)) (by omega)
  rw [e1, Rat.divInt_sub_divInt _ _ (by omega) (by omega), Rat.divInt_mul_divInt, Rat.divInt_mul_divInt, Rat.divInt_add_divInt _ _ n1 n2, Rat.divInt_eq_divInt_iff (Int.mul_ne_zero n1 n2) n3]
  grind
theorem sgn_eq (n : Int) : (if decide (0 < n) = true then (1 : Int) else 0) - (if decide (n < 0) = true then 1 else 0) = sgn n := by
  unfold sgn
  by_cases a : n < 0
  · rw [if_pos a, decide_eq_true a, decide_eq_false (by omega)]
    rfl
  · rw [if_neg a, decide_eq_false a]
    by_cases b : 0 < n
    · rw [if_pos b, decide_eq_true b]
      rfl
    · rw [if_neg b, decide_eq_false b]
      rfl
theorem sgn_b (n : Int) : Bt 2 (sgn n) := by
  unfold sgn
  split
  · show (-1 : Int).natAbs < 2 ^ 2; decide
  · split
    · show (1 : Int).natAbs < 2 ^ 2; decide
    · show (0 : Int).natAbs < 2 ^ 2; decide
theorem Qy.trk {t : Int} {q : Addr} (h : Qy K q t H) : H q ≠ none := by
  obtain ⟨o, e⟩ := h.at
  rw [e]
  exact Option.some_ne_none _
theorem one1 : Rat.divInt 1 1 = 1 := Rat.divInt_self' (by decide)
theorem zero1 : Rat.divInt 0 1 = 0 := Rat.zero_divInt 1
theorem cut_lc {te : TE} (P : Hp → Addr → Prop) (h1 : ∀ Q' : VK, (∀ H1 D, Same H H1 → P H1 D → Q' (.ref D) H1) → te σ H Q') (h2 : ∀ H1 D, Same H H1 → P H1 D → Q (.ref D) H1) : te σ H Q := h1 Q h2
theorem g_all {a : Addr} {bs : List Bool} (h : SqL K H a (bs.map V.bl)) (q : Q (.bl (bs.all id)) H) : rAll K [.ref a] H Q := ⟨a, bs, rfl, h, q⟩
theorem g_thenT {te : TE} (q : te σ H fun x H1 => kTup K x H1 Q) : tThen te (kTup K) σ H Q := q
theorem g_tupOf {a : Addr} {xs : List V} (h : SqL K H a xs) (q : ∀ p H2, H p = none → Same H H2 → H2 p = some (.tup xs) → Q (.ref p) H2) : kTup K (.ref a) H Q :=
  .inl ⟨a, xs, rfl, h, fun p hp => q p _ hp (same_new hp) upd_same⟩
theorem g_reprII {p : Addr} {x y : Int} {n : Nat} (e : SqL K H p [.int x, .int y]) (bx : Bt n x) (by_ : Bt n y) (l : n ≤ 1900) (k : Q (.str (PyData.list [.int x, .int y]).shown) H) : rReprU K [.ref p] H Q :=
  g_repr (.lst e (.cons (.int _) (.cons (.int _) .nil))) (shw_lst2 (shw_int bx l) (shw_int by_ l)).1 rfl (by simp [PyData.depth, PyData.depthAll]) ((shw_lst2 (shw_int bx l) (shw_int by_ l)).len (by have := int_w bx l; have := int_w by_ l; rw [PyData.weight]; simp only [PyData.weightAll]; omega)) k
end
end Mf
namespace Mf
open PySem PySem.Spec PyProof.Rows L2
theorem Rb1 : Rb 1 1 := ⟨by show (1 : Int).natAbs < 2 ^ 1; decide, by show ((1 : Nat) : Int).natAbs < 2 ^ 1; decide⟩
theorem Rb.mix {n1 n2 n3 : Nat} {r1 r2 r3 : Rat} (h1 : Rb n1 r1) (h2 : Rb n2 r2) (h3 : Rb n3 r3) : Rb (n1 + n2 + 2 * n3 + 3) ((1 - r3) * r1 + r3 * r2) :=
  (((Rb1.sub h3).mul h1).add (h3.mul h2)).mono (by omega)
section
variable {q : Addr} {K : PySem.W.Frag} {σ : L2.St} {H : Hp} {Q : VK}
theorem fr0 : Fr q K H (.int 0) 0 1 := by
  have z := Fr.int (q := q) (K := K) (H := H) (i := 0) (n := 1) (by show (0 : Int).natAbs < 2 ^ 1; decide) (by decide)
  rw [zero1] at z
  exact z
theorem fr1 : Fr q K H (.int 1) 1 1 := by
  have z := Fr.int (q := q) (K := K) (H := H) (i := 1) (n := 1) (by show (1 : Int).natAbs < 2 ^ 1; decide) (by decide)
  rw [one1] at z
  exact z
theorem Fr.pair {p : Addr} {x y : Int} {n : Nat} (h : SqT K H p [.int x, .int y]) (np : p ≠ q) (hy : 1 ≤ y) (bx : Bt n x) (b : Bt n y) : Fr q K H (.ref p) (Rat.divInt x y) n :=
  ⟨.tuple [.int x, .int y], .tup np h (.cons (.int _) (.cons (.int _) .nil)), (fr_pair hy bx b).1.1, rfl, bx, b, hy⟩
theorem g_neFFe {p1 p2 : Addr} {r s : Rat} (e : r = s) (e1 : SqT K H p1 (rv r)) (e2 : SqT K H p2 (rv s)) (k : Q (.bl false) H) : rNeU K (.ref p1) (.ref p2) H Q := by
  subst e
  exact g_neFF e1 e2 k
end
theorem sgn_neg (n : Int) : sgn (-n) = -sgn n := by
  unfold sgn
  by_cases a : n < 0
  · rw [if_pos a, if_neg (by omega), if_pos (by omega)] <;> rfl
  · rw [if_neg a]
    by_cases b : 0 < n
    · rw [if_pos b, if_pos (by omega)]
    · rw [if_neg b, if_neg (by omega), if_neg (by omega)] <;> rfl
theorem sgn_mul (m n : Int) : sgn (m * n) = sgn m * sgn n := by
  rcases Int.lt_trichotomy m 0 with a | a | a
  · rcases Int.lt_trichotomy n 0 with b | b | b
    · have := Int.mul_pos_of_neg_of_neg a b
      unfold sgn
      rw [if_neg (by omega), if_pos this, if_pos a, if_pos b]
      rfl
    · subst b
      rw [Int.mul_zero, show sgn 0 = 0 from rfl, Int.mul_zero]
    · have := Int.mul_neg_of_neg_of_pos a b
      unfold sgn
      rw [if_pos this, if_pos a, if_neg (by omega), if_pos b]
      rfl
  · subst a
    rw [Int.zero_mul, show sgn 0 = 0 from rfl, Int.zero_mul]
  · rcases Int.lt_trichotomy n 0 with b | b | b
    · have := Int.mul_neg_of_pos_of_neg a b
      unfold sgn
      rw [if_pos this, if_neg (by omega), if_pos a, if_pos b]
      rfl
    · subst b
      rw [Int.mul_zero, show sgn 0 = 0 from rfl, Int.mul_zero]
    · have := Int.mul_pos a b
      unfold sgn
      rw [if_neg (by omega), if_pos this, if_neg (by omega), if_pos a, if_neg (by omega), if_pos b]
      rfl
theorem sgn_sub (r s : Rat) : sgn (r - s).num = -sgn (s - r).num := by
  have e : r - s = -(s - r) := (Rat.neg_sub s r).symm
  rw [e, Rat.neg_num, sgn_neg]
theorem sgn_rmul (r s : Rat) : sgn (r * s).num = sgn r.num * sgn s.num := by
  rw [← mul_div, sgn_div (dd1 r s), sgn_mul]
theorem ne0_of_sgn {r : Rat} (h : sgn r.num ≠ 0) : r ≠ 0 := by
  intro e
  rw [e] at h
  exact h rfl
theorem half1 : Rat.divInt 1 2 = 1 / 2 := by rw [Rat.divInt_eq_div] <;> rfl
theorem quart1 : Rat.divInt 1 4 = 1 / 4 := by rw [Rat.divInt_eq_div] <;> rfl
example : [V.int 0, V.int 1] = rv 0 := rfl
example : [V.int 1, V.int 1] = rv 1 := rfl
end Mf
/-! own errors as values: made by place and by name, a field read, isinstance -/
namespace Mf
open PySem PySem.Spec PySem.Calls PyProof.Rows
section
open PySem.W
variable {prog : Program} {w : World} {A : Around} {E : Value → Shared → Prop} {s : Shared} {K : Frag} {x D : Addr} {ox : Obj} {od : Option Obj}
theorem findObj_dataO {C : Addr} {name : Str} {a g : Value} (hc : (clsIn K C).isSome = true) (ha : findIn K (.ref C) name = some (some a)) (hg : specialIn K a "__get__" = some (some g)) (ht : takesIn K a = some true) : findObj K C od name = some (.bind g a) := by
  obtain ⟨cd, hc⟩ := Option.isSome_iff_exists.mp hc
  unfold findObj
  rw [hc, Option.bind_some, ha, Option.bind_some]
  simp [hg, ht]
theorem kin_classO {Q : Option Value → Shared → Prop} (hga : findIn K (.ref D) "__getattribute__" = some (some (.builtin "BaseException.__getattribute__"))) (hgt : findIn K (.ref D) "__getattr__" = some none) (hsub : subIn K (.ref D) (.type "BaseException") = some true)
    (hdct : hasDictIn K D = true) (ha : findIn K (.ref D) "__class__" = some (some (.builtin "object.__class__")))
    (hn : specialIn K (.builtin "object.__class__") "__get__" = some (some (.builtin "getset_descriptor.__get__"))) (htk : takesIn K (.builtin "object.__class__") = some true) (hm : mroIn K D (.type "object") = some true)
    (X : K.In s.heap) (I : InstAt s.heap x ox D od) (h : Q (some (.ref D)) { s with toks := s.toks + 1 }) : wpAny (model prog w) A (getAttr? (.ref x) "__class__") Q E s := by
  have hf : findObj K D od "__class__" = some (.bind (.builtin "getset_descriptor.__get__") (.builtin "object.__class__")) := findObj_dataO (by obtain ⟨cd, hc, _⟩ := any_some hdct; rw [hc]; rfl) ha hn htk
  obtain ⟨hp, g, d, t, os⟩ := s
  have L0 := I.type (M := model prog w)
  have L1 := looks_findIn (M := model prog w) X hga
  have L2 := looks_findIn (M := model prog w) X hgt
  have L3 := looks_find (M := model prog w) X I hf
  have sub : Looks (model prog w) hp (isInstance (.ref x) (.type "BaseException")) true := L0.andThen (looks_subIn X hsub)
  have hx0 : (false && onTheHeap (Value.builtin "BaseException.__getattribute__")) = false := rfl
  have hx2 : (Value.builtin "BaseException.__getattribute__" == Value.builtin "object.__getattribute__") = false := by decide +kernel
  have hx1 : (onTheHeap (Value.ref D) && Value.builtin "BaseException.__getattribute__" == Value.builtin "object.__getattribute__") = false := by rw [hx2]; rfl
  unfold getAttr? getAttrBy? getAttrBy
  refine wpAny_bind (wpAny_mkText (wpAny_bind (wpAny_attempt (wpAny_holding (wpAny_bind (L0.at (wpAny_bind (L1.at ?_))))))))
  show wpAny _ _ (if (onTheHeap (Value.ref D) && Value.builtin "BaseException.__getattribute__" == Value.builtin "object.__getattribute__") = true then _ else _) _ _ _
  rw [hx1, if_neg Bool.false_ne_true]
  unfold getAttrByItsOwn hookBefore
  refine wpAny_bind ?_
  rw [if_pos (show onTheHeap (Value.ref D) = true from rfl)]
  refine L2.at ?_
  refine wpAny_bind (wpAny_attempt (wpAny_holding ?_))
  unfold callGetattribute
  rw [hx0, if_neg Bool.false_ne_true]
  unfold boundAndCalled
  rw [PySem.F.excAttr_ValueError.ga.bind (.ref x)]
  refine wpAny_bind (wpAny_pure ?_)
  show wpAny _ _ (call (.builtin "BaseException.__getattribute__") [.ref x, .str "__class__" t]) _ _ _
  refine wpAny_call (codeAny_call_builtin PySem.F.excAttr_ValueError.ga.plain PySem.F.entry_bexc_ga ?_)
  refine @check_slot (model prog w) _ _ ⟨hp, g, d, t + 1, os⟩ "BaseException.__getattribute__" "BaseException" "__getattribute__" (.ref x) [.str "__class__" t] [] _ (by decide +kernel) (by decide +kernel) sub (PySem.F.args_bexc_ga (.ref x) (.str "__class__" t)) ?_
  unfold Builtin.«object.__getattribute__»
  refine wpAny_bind (wpAny_of_eq (a := ((Value.ref x : Value), [Value.str "__class__" t])) (by first | rfl | (simp only [slotArgs]; rfl)) ?_)
  refine wpAny_bind (wpAny_pure (wpAny_bind (L0.at (wpAny_bind (L3.at ?_)))))
  show wpAny _ _ (holding [Value.builtin "object.__class__"] (call (.builtin "getset_descriptor.__get__") [.builtin "object.__class__", .ref x, .ref D]) >>= ret) _ _ _
  refine wpAny_bind (wpAny_holding (wpAny_call (class_get (s := ⟨hp, g, d, t + 1, os⟩) (ox := ox) (od := od) X I hm ?_)))
  refine wpAny_pure ?_
  show wpAny _ _ (handedOut (.ref D)) _ _ _
  rw [handedOut_of (v := .ref D) rfl]
  first
    | exact wpAny_pure (wpAny_pure h)
    | exact wpAny_pure h
    | exact wpAny_pure (wpAny_bind (wpAny_pure (wpAny_pure h)))
theorem kitx_excO (hga : findIn K (.ref D) "__getattribute__" = some (some (.builtin "BaseException.__getattribute__"))) (hgt : findIn K (.ref D) "__getattr__" = some none) (hsub : subIn K (.ref D) (.type "BaseException") = some true) (hdct : hasDictIn K D = true) (ha : findIn K (.ref D) "__class__" = some (some (.builtin "object.__class__")))
    (hn : specialIn K (.builtin "object.__class__") "__get__" = some (some (.builtin "getset_descriptor.__get__"))) (htk : takesIn K (.builtin "object.__class__") = some true) (hm : mroIn K D (.type "object") = some true) :
    KitX K (.ref x) (.ref D) (fun h => InstAt h x ox D od) where
  ty := fun _ _ _ I => I.type
  it := fun _ _ X _ => by
    obtain ⟨cdD, hcD, _⟩ := any_some hdct
    unfold clsIn at hcD
    split at hcD
    · rename_i c' d' cd' sl' ho
      intro A' Q' E' s' k q
      unfold isType loadHead
      exact wpAny_bind (wpAny_loadPart (k _ _ (X _ _ ho)) (wpAny_pure q))
    · cases hcD
  ne := fun h tp dd its n sl X htp => by
    obtain ⟨cdD, hcD, _⟩ := any_some hdct
    refine Bool.eq_false_iff.mpr fun q => ?_
    have e : D = tp := Value.ref.inj (beq_iff_eq.mp q)
    subst e
    unfold clsIn at hcD
    split at hcD
    · rename_i c' d' cd' sl' ho
      have z := (X _ _ ho).symm.trans htp
      cases z
    · cases hcD
  ca := fun X I k => kin_classO hga hgt hsub hdct ha hn htk hm X I k
end
open L2
/-- what the written part says of an own error's class -/
structure Erc (K : PySem.W.Frag) (C : Addr) : Prop where
  o : OexC K C
  c : ExcC K C
/-- an error that was made: its fields -/
def Er (H : Hp) (a C : Addr) (fs : List (Str × V)) : Prop := ∃ d, d ≠ a ∧ H a = some (exo a C (some d)) ∧ H d = some (exd d fs)
section
variable {X : Cx} {pins : List (Addr × Obj)} {σ : L2.St} {H : Hp} {s : Shared} {a C : Addr} {fs : List (Str × V)}
theorem Er.inst {P : Program} {w : World} {h : Heap} (e : Er H a C fs) (hok : HOk P w H h) : ∃ (oe od : Obj) (mA : Str → Option Value), PySem.W.InstAt h a oe C (some od) ∧ (∀ y, PySem.W.lookIn y od = some (mA y)) ∧ ∀ f, RelO (fs.lookup f) (mA f) := by
  obtain ⟨d, _, ea, ed⟩ := e
  obtain ⟨t1, ho⟩ := exo_at hok ea
  obtain ⟨mA, hns, rel⟩ := exd_at hok ed
  obtain ⟨od, hod, hl⟩ := lookIn_ns hns
  exact ⟨_, od, mA, ⟨ho, rfl, rfl, hod⟩, hl, rel⟩
/-- isinstance(e, T) -/
def rIsX (K : PySem.W.Frag) : List V → Hp → VK → Prop := fun xs H Q => ∃ (a C : Addr) (fs : List (Str × V)) (c : V) (u : Value) (b : Bool), xs = [.ref a, c] ∧ ClsV c u ∧ Erc K C ∧ Er H a C fs ∧ PySem.W.kitOne K (.ref C) u = some b ∧ Q (.bl b) H
/-- isinstance(e, (T, ..)) -/
def rIsXT (K : PySem.W.Frag) : List V → Hp → VK → Prop := fun xs H Q => ∃ (a C : Addr) (fs : List (Str × V)) (tp : Addr) (cs : List V) (us : List Value) (b : Bool), xs = [.ref a, .ref tp] ∧ H tp = some (.tup cs) ∧ Paired ClsV cs us ∧ Erc K C ∧ Er H a C fs ∧ PySem.W.kitAny K (.ref C) us = some b ∧ Q (.bl b) H
theorem call_isX : CallR X (.builtin "isinstance") (rIsX X.K) := by
  intro pins s σ H xs us Q I r h
  obtain ⟨a, C, fs, c, u, b, rfl, k, T, e, z, q⟩ := h
  obtain ⟨u1, u2, rfl, r1, r2⟩ := vals2 r
  have e2 := k.eq r2
  subst e2
  obtain rfl : u1 = Value.ref a := r1
  obtain ⟨oe, od, mA, J, _⟩ := e.inst I.hok
  exact PySem.W.kia_one (kitx_excO T.c.hg T.c.hk T.c.hs T.c.hd T.c.ha T.c.hn T.c.ht T.c.hm) I.kIn J z (fun z => nomatch z) fun tk => ⟨.bl b, H, I.tok tk, rfl, q⟩
/-- e.f -/
def tXat (K : PySem.W.Frag) (f : Str) (te : TE) : TE := fun σ H Q => te σ H fun x H1 => ∃ (a C : Addr) (fs : List (Str × V)) (v : V), x = .ref a ∧ Erc K C ∧ PySem.W.findIn K (.ref C) f = some none ∧ Er H1 a C fs ∧ fs.lookup f = some v ∧ Q v H1
theorem pe_xat {e : Expr} {f : Str} {te : TE} {pos : Pos} (he : PE X e te) (hb : attributeBase e f X.env (eval e X.env) = eval e X.env := by rfl) : PE X (.Attribute e f pos) (tXat X.K f te) := by
  refine ⟨fun pins s σ H Q I h => ?_⟩
  refine attr_of hb (thn (he.run pins s σ H _ I h) fun u s1 hh => ?_)
  obtain ⟨x, H1, I1, rx, a, C, fs, v, ex, T, hno, e1, l, q⟩ := hh
  subst ex
  obtain rfl : u = Value.ref a := rx
  obtain ⟨oe, od, mA, J, hl, hr⟩ := e1.inst I1.hok
  obtain ⟨u, hu, ru⟩ := RelO.some_of (v := v) (o := mA f) (by rw [← l]; exact hr f)
  exact HandSPX.exc_get I1.kIn J T.c.hg T.c.hk T.c.hs (PySem.W.findObj_own T.c.hd hno rfl (by rw [hl, hu])) (handed_of ru) ⟨v, H1, I1.tok _, ru, q⟩
end
section
variable {X : Cx}
theorem call_isXT : CallR X (.builtin "isinstance") (rIsXT X.K) := by
  intro pins s σ H xs us Q I r h
  obtain ⟨a, C, fs, tp, cs, ws, b, rfl, hT, k, T, e, z, q⟩ := h
  obtain ⟨u1, u2, rfl, r1, r2⟩ := vals2 r
  cases (show u2 = Value.ref tp from r2)
  obtain rfl : u1 = Value.ref a := r1
  obtain ⟨oe, od, mA, J, _⟩ := e.inst I.hok
  obtain ⟨_, its, rv, o, h1, h2, n, h3⟩ := (show ObjOk X.prog X.w H s.heap tp (.tup cs) from I.hok tp _ hT)
  have e3 := ClsV.all k rv
  subst e3
  obtain ⟨oc, od, dt, sl⟩ := o
  simp only at h2 h3
  subst h2 h3
  exact PySem.W.kia_tup (kitx_excO T.c.hg T.c.hk T.c.hs T.c.hd T.c.ha T.c.hn T.c.ht T.c.hm) I.kIn J h1 z (fun z => nomatch z) fun tk => ⟨.bl b, H, I.tok tk, rfl, q⟩
/-- isinstance of an own error, or of any other value -/
def rIsY (K : PySem.W.Frag) : List V → Hp → VK → Prop := fun xs H Q => rIsi K xs H Q ∨ rIsX K xs H Q ∨ rIsXT K xs H Q
theorem call_isY : CallR X (.builtin "isinstance") (rIsY X.K) := by
  intro pins s σ H xs us Q I r h
  rcases h with h | h | h
  · exact call_isi pins s σ H xs us Q I r h
  · exact call_isX pins s σ H xs us Q I r h
  · exact call_isXT pins s σ H xs us Q I r h
/-- C(e, ..), an own error that is kept -/
def tMkE (C : Addr) (sp : Sp) (t : TA) : TE := fun σ H Q => t σ H fun vs H1 => vs.length ≤ 1000 ∧ ∀ a, H1 a = none → sp (.ref a :: vs) (upd H1 a (exo a C none)) (fun v H2 => v = .non ∧ Q (.ref a) H2) E0
theorem pe_mkE {x : Str} {e : Expr} {es : List Expr} {t : TA} {p pos : Pos} {C fI : Addr} {k j : Nat} {fd : FuncData} {ps : List Str} {sp : Sp} (T : OexC X.K C) (iC : PySem.W.findIn X.K (.ref C) "__init__" = some (some (.ref fI))) (tI : PySem.W.typeIn X.K (.ref fI) = some (.type "function"))
    (F1 : FnG X.prog X.w X.K X.mg X.base CX0 k fI fd ps sp) (hA : X.A.guards = some []) (hr : Room j X.A) (hk : k + 1 ≤ j) (hb : Binds X.K fd ps []) (hg : Gl X x) (hm : X.mg x = some (.ref C)) (ha : PA X (e :: es) t)
    (hdb : (x == ("__debug__" : Str)) = false := by decide) (he : starEach (e :: es) X.env = (false, eval e X.env) :: starEach es X.env := by rfl) (hpl : (backTo pos (starEach es X.env)).any (·.1) = false := by rfl) :
    PE X (.Call (.Name x p) (e :: es) [] pos) (tMkE C sp t) := by
  refine ⟨fun pins s σ H Q I h => ?_⟩
  obtain ⟨nm, q, N, bs, bm, sn, sub, ab, col, dd, k0, k1, k2, k3, k5, hC, hbm⟩ := T.cls
  refine wpAny_Call_Name_kw (ld_glob I hg hm ?_ hdb)
  refine PySem.W.callWith_K (h₀ := X.base) I.ok.mod.kin T.kC (thn (ha.run pos pins s σ H _ I h) fun us s1 ⟨vs, H1, I1, r1, hz, q1⟩ => ⟨I1.kIn, ?_⟩) he hpl
  show wpAny _ _ (call (.ref C) us) _ _ _
  obtain ⟨hp, g, dr, tk, os⟩ := s1
  have hsz : hp.objs.size ≤ hp.objs.size + 1 := Nat.le_succ _
  have hn : H1 (hp.objs.size + 1) = none := I1.hok.fresh hsz
  have hq := q1 (hp.objs.size + 1) hn
  have kk : ∀ b o, hp.get? b = some o → ((hp.push (PySem.W.kdv_tup us)).push (PySem.HandSPX.excO C hp.objs.size)).get? b = some o := fun b o e => Heap.get?_push_of_some _ (Heap.get?_push_of_some _ e)
  have hget : ((hp.push (PySem.W.kdv_tup us)).push (PySem.HandSPX.excO C hp.objs.size)).get? (hp.objs.size + 1) = some (PySem.HandSPX.excO C hp.objs.size) := by heap_get
  have I2 : Inv X pins σ (upd H1 (hp.objs.size + 1) (exo (hp.objs.size + 1) C none)) ⟨(hp.push (PySem.W.kdv_tup us)).push (PySem.HandSPX.excO C hp.objs.size), g, dr, tk, os⟩ :=
    I1.laid (t' := tk) (a := hp.objs.size + 1) (o := exo (hp.objs.size + 1) C none) (h' := (hp.push (PySem.W.kdv_tup us)).push (PySem.HandSPX.excO C hp.objs.size)) kk hsz (exo_ok hget)
  have r2 : Vals (V.ref (hp.objs.size + 1) :: vs) (Value.ref (hp.objs.size + 1) :: us) := .cons rfl r1
  have hl : (Value.ref (hp.objs.size + 1) :: us ++ []).length = ps.length := by
    have e := r2.length
    rw [F1.size _ _ _ _ hq] at e
    rw [List.append_nil]
    exact e.symm
  have hus : us.length ≤ sizeLine := by
    rw [← Paired.length r1, sizeLine_eq]
    omega
  have hb' := hb _ (Value.ref (hp.objs.size + 1) :: us) I2.kIn hl
  rw [List.append_nil] at hb'
  refine wpAny_call (PySem.HandSPX.call_own F.excBase_ValueError (fun Y => PySem.HandSPX.refsVE_contains Y bm hbm) (I1.kIn _ _ hC) (PySem.W.looks_findIn I1.kIn iC) (fun self => PySem.W.bind_fn I1.kIn self tI) hus
    (codeAny_mono (F1.go (X.A.under (Code.builtin "type.__call__" ⟨Value.ref C :: us, []⟩)) (show (X.A.under (Code.builtin "type.__call__" ⟨Value.ref C :: us, []⟩)).guards = some [] from hA) X.stack _ _ ⟨Value.ref (hp.objs.size + 1) :: us, []⟩ (Value.ref (hp.objs.size + 1) :: us) _ _ E0 ((hr.mono hk).make C us []) (I2.env0.make C us []) hb' r2 hq) fun r s' hq' => ?_))
  cases r with
  | error er => exact pass0 pins σ _ _ er s' I2 hq'
  | ok fl =>
    cases fl with
    | ret u =>
      obtain ⟨v, H2, J, rv, ev, q2⟩ := I2.after hq'
      subst ev
      exact ⟨rv, .ref (hp.objs.size + 1), H2, J, rfl, q2⟩
    | next => exact False.elim hq'
    | brk => exact False.elim hq'
    | cont => exact False.elim hq'
end
end Mf
/-! own errors made by names alone -/
namespace PySem
namespace HandSPX
open Builtin Builtin.ObjectAttr
section
variable {prog : Program} {w : World} {M : Model} {A : Around} {E : Value → Shared → Prop} {R : Result → Shared → Prop} {h : Heap} {g : Array GenState} {d : Drawn} {t : Nat} {os : OsState}
variable {nm q : Str} {C N : Addr} {bs bm bmB : List Value} {hdct : Bool} {sn : List Str} {sub : List Value} {ab : Bool} {col : Option Bool} {dd : Option Addr} {k0 k1 k2 k3 k5 : Option Value} {B newId initId : String} {kw : List (Str × Value)}
theorem check_new_ownK (F : ExcBaseFacts B newId initId bmB) (hT : ∀ X : String, bm.contains (.type X) = bmB.contains (.type X)) {rest : List Value} {Q : Unit → Shared → Prop}
    (hC : h.get? C = some (excClassObj nm q C N bs bm hdct sn sub ab col dd k0 k1 k2 k3 k5 newId)) (hq : Q () ⟨h, g, d, t, os⟩) : wpAny M A (checkBuiltinCall newId ⟨.ref C :: rest, kw⟩) Q E ⟨h, g, d, t, os⟩ := by
  have hcont : (Value.ref C :: bm).contains (.type B) = true := by rw [List.contains_cons, hT, F.hasB, Bool.or_true]
  have hstar := F.noStar
  simp only [checkBuiltinCall, F.newKind, F.newSplit, F.newRow]
  repeat (first | refine wpAny_loadPart_at hC ?_ | (refine wpAny_isSubtype_exc hC ?_; rw [hcont]) | refine wpAny_staticBase_exc hC ?_ | refine wpAny_madeBy_exc hC ?_ | simp only [bne_self_eq_false, Bool.false_eq_true, if_false] | wp_step)
  exact hq
theorem new_ownK (F : ExcBaseFacts B newId initId bmB) (hT : ∀ X : String, bm.contains (.type X) = bmB.contains (.type X)) {rest : List Value}
    (hC : h.get? C = some (excClassObj nm q C N bs bm hdct sn sub ab col dd k0 k1 k2 k3 k5 newId))
    (hq : R (.ok (.ret (.ref (h.objs.size + 1)))) ⟨(h.push { cls := .type "tuple", data := .seq rest.toArray }).push
      { cls := .ref C, data := .fields #[.ref h.objs.size, .none, .none, .none, .bool false, .none] }, g, d, t, os⟩) (hrest : rest.length ≤ sizeLine) :
    codeAny (model prog w) A (.builtin newId ⟨.ref C :: rest, kw⟩) R ⟨h, g, d, t, os⟩ := by
  have hends := F.ends
  have hcB : (Value.ref C :: bm).contains (.type B) = true := by rw [List.contains_cons, hT, F.hasB, Bool.or_true]
  have hcA : (Value.ref C :: bm).contains (.type "AttributeError") = false := by rw [List.contains_cons, hT, F.noAttr]; rfl
  have hcN : (Value.ref C :: bm).contains (.type "NameError") = false := by rw [List.contains_cons, hT, F.noName]; rfl
  refine codeAny_builtinAt F.entry ?_
  unfold Builtin.«BaseException.__new__»
  refine wpAt_bind ?_
  show wpAt _ _ _ (stack >>= _) _ _ _
  refine wpAt_bind (wpAt_stack fun p below => wpAt_of_wpAny ?_)
  wp_walk
  refine wpAt_of_wpAny ?_
  rw [F.owner]
  repeat (first | with_reducible refine wpAny_madeHere_exc F.canon hC ?_ | with_reducible refine wpAny_loadPart_at hC ?_ | (with_reducible refine wpAny_isSubtype_exc hC ?_; first | rw [hcB] | rw [hcA] | rw [hcN]) | wp_step)
  show R _ _
  rw [Heap.size_push]
  exact hq
theorem type_call_ownK (F : ExcBaseFacts B newId initId bmB) (hT : ∀ X : String, bm.contains (.type X) = bmB.contains (.type X)) {rest : List Value} {fI : Addr} {Q : Fin → Shared → Prop}
    (hC : h.get? C = some (excClassObj nm q C N bs bm hdct sn sub ab col dd k0 k1 k2 k3 k5 newId))
    (hi : W.Looks (model prog w) h (typeLookup (.ref C) "__init__") (some (.ref fI))) (hb : ∀ self, W.Looks (model prog w) h (bindSpecial (.ref fI) self) (.ref fI, [self])) (hrest : rest.length ≤ sizeLine)
    (hq : codeAny (model prog w) A (.call (.ref fI) ⟨.ref (h.objs.size + 1) :: rest, kw⟩)
      (fun r s' => match r with | .ok (.ret v) => v = .none ∧ Q (.done (.ret (.ref (h.objs.size + 1)))) s' | .ok _ => False | .error e => E e s')
      ⟨(h.push (W.kdv_tup rest)).push (excO C h.objs.size), g, d, t, os⟩) :
    wpAny (model prog w) A (Builtin.«type.__call__» ⟨.ref C :: rest, kw⟩) Q E ⟨h, g, d, t, os⟩ := by
  repeat (first | with_reducible refine wpAny_loadPart_at hC ?_ | with_reducible refine wpAny_madeBy_exc hC ?_ | wp_step)
  refine codeAny_call_builtin_code (Code.quiet_builtin _ F.quiet) (check_new_ownK F hT hC ?_)
  refine new_ownK F hT hC ?_ hrest
  show wpAny _ _ _ _ _ _
  have k : ∀ b o, h.get? b = some o → ((h.push (W.kdv_tup rest)).push (excO C h.objs.size)).get? b = some o := fun b o e => Heap.get?_push_of_some _ (Heap.get?_push_of_some _ e)
  have hC₁ := k _ _ hC
  have hget : ((h.push (W.kdv_tup rest)).push (excO C h.objs.size)).get? (h.objs.size + 1) = some (excO C h.objs.size) := by heap_get
  have hcC : (Value.ref C :: bm).contains (.ref C) = true := by simp
  have i1 := hi.keeps k
  have b1 := (hb (.ref (h.objs.size + 1))).keeps k
  unfold isInstance
  repeat (first | with_reducible refine wpAny_loadPart_at hget ?_ | (with_reducible refine wpAny_isSubtype_exc hC₁ ?_; rw [hcC]) | wp_step)
  show wpAny _ _ (typeLookup (.ref C) _) _ _ _
  refine i1.at ?_
  refine wpAny_holding (wpAny_bind (b1.at ?_))
  refine wpAny_bind (wpAny_call (codeAny_mono hq fun r s' z => ?_))
  rcases r with e | (v | _ | _ | _) <;> first | exact z | exact z.elim | skip
  obtain ⟨rfl, z⟩ := z
  first
    | exact wpAny_pure (wpAny_pure z)
    | (wp_walk; exact z)
theorem check_type_call_subK {rest : List Value} {Q : Unit → Shared → Prop} (hC : h.get? C = some (excClassObj nm q C N bs bm hdct sn sub ab col dd k0 k1 k2 k3 k5 newId))
    (hq : Q () ⟨h, g, d, t, os⟩) : wpAny M A (checkBuiltinCall "type.__call__" ⟨.ref C :: rest, kw⟩) Q E ⟨h, g, d, t, os⟩ := by
  have f3 := tc_sub
  have hT : (⟨h, g, d, t, os⟩ : Shared).TypeIs (.ref C) "type" := ⟨_, hC, rfl⟩
  simp only [checkBuiltinCall, tc_kind, tc_split]
  repeat (any_goals (first | assumption | with_reducible refine wpAny_loadPart_at hC ?_ | with_reducible refine wpAny_onRaise ?_ | with_reducible refine wpAny_map ?_ | wp_step))
theorem call_ownK (F : ExcBaseFacts B newId initId bmB) (hT : ∀ X : String, bm.contains (.type X) = bmB.contains (.type X)) {rest : List Value} {fI : Addr}
    (hC : h.get? C = some (excClassObj nm q C N bs bm hdct sn sub ab col dd k0 k1 k2 k3 k5 newId))
    (hi : W.Looks (model prog w) h (typeLookup (.ref C) "__init__") (some (.ref fI))) (hb : ∀ self, W.Looks (model prog w) h (bindSpecial (.ref fI) self) (.ref fI, [self])) (hrest : rest.length ≤ sizeLine)
    (hq : codeAny (model prog w) (A.under (.builtin "type.__call__" ⟨.ref C :: rest, kw⟩)) (.call (.ref fI) ⟨.ref (h.objs.size + 1) :: rest, kw⟩) (W.InitBack (h.objs.size + 1) R)
      ⟨(h.push (W.kdv_tup rest)).push (excO C h.objs.size), g, d, t, os⟩) :
    codeAny (model prog w) A (.call (.ref C) ⟨rest, kw⟩) R ⟨h, g, d, t, os⟩ := by
  have f1 := tc_lookup
  have f2 := tc_bind (.ref C)
  have hTy : (⟨h, g, d, t, os⟩ : Shared).TypeIs (.ref C) "type" := ⟨_, hC, rfl⟩
  refine codeAny_of_tree ?_
  show wpAny _ _ (callAny (.ref C) _) _ _ _
  repeat (any_goals (first | assumption | with_reducible refine wpAny_loadPart_at hC ?_ | wp_step))
  refine ⟨rfl, ?_⟩
  refine codeAny_call_builtin_at (Code.quiet_builtin _ (by decide +kernel)) entry_typeCall (check_type_call_subK hC (type_call_ownK F hT hC hi hb hrest ?_))
  refine codeAny_mono hq fun r s' z => ?_
  rcases r with e | (v | _ | _ | _) <;> exact z
end
end HandSPX
end PySem
/-! own errors by their classes' names -/
namespace Mf
open PySem PySem.Spec PySem.Calls PyProof.Rows L2
theorem Er.go {H H' : Hp} {a C : Addr} {fs : List (Str × V)} (s : Same H H') (e : Er H a C fs) : Er H' a C fs := by
  obtain ⟨d, n, ea, ed⟩ := e
  exact ⟨d, n, s _ _ ea, s _ _ ed⟩
/-- what __init__ of an own error leaves: its fields -/
def sp_init (K : PySem.W.Frag) (fs : List Str) : Sp := fun vs H Q _ => ∃ (a C : Addr) (ws : List V), vs = .ref a :: ws ∧ ws.length = fs.length ∧ H a = some (exo a C none) ∧ OexC K C ∧ (∀ f ∈ fs, PySem.W.findIn K (.ref C) f = some none) ∧
  ∀ H' d, H d = none → d ≠ a → (∀ b o, b ≠ a → H b = some o → H' b = some o) → H' a = some (exo a C (some d)) → H' d = some (exd d (fs.zip ws).reverse) → Q .non H'
/-- a class of own errors, ready to be called -/
structure Ec (c : Cn) (x : Str) (C : Addr) (fs : List Str) : Prop where
  mg : c.mg x = some (.ref C)
  er : Erc c.K C
  no : ∀ f ∈ fs, PySem.W.findIn c.K (.ref C) f = some none
  ln : fs.length ≤ 900
  ex : ∃ (fI : Addr) (fd : FuncData), PySem.W.findIn c.K (.ref C) "__init__" = some (some (.ref fI)) ∧ PySem.W.typeIn c.K (.ref fI) = some (.type "function") ∧
    FnG c.P c.w c.K c.mg c.base CX0 1 fI fd ("self" :: fs) (sp_init c.K fs) ∧ L2.Binds c.K fd ("self" :: fs) [] ∧
    ∀ (s : Shared) (v : Value) (ws : List Value), ws.length = fs.length → BindsTo s fd ⟨[v], fs.reverse.zip ws⟩ ((Str.ofString "self" :: fs).zip (v :: ws.reverse))
/-- C(e, ..), an own error that is kept -/
def tMkX (c : Cn) (C : Addr) (fs : List Str) (t : TA) : TE := fun σ H Q => t σ H fun vs H1 => vs.length = fs.length ∧ ∀ a H2, H1 a = none → Same H1 H2 → Er H2 a C (fs.zip vs).reverse → Q (.ref a) H2
def tMkXk (c : Cn) (C : Addr) (fs : List Str) (t : TA) : TE := fun σ H Q => t σ H fun vs H1 => vs.length = fs.length ∧ ∀ a H2, H1 a = none → Same H1 H2 → Er H2 a C (fs.zip vs.reverse).reverse → Q (.ref a) H2
def tUp (t : TA) : TA := fun σ H Q => ∃ Q' : List V → Hp → Prop, t σ H Q' ∧ ∀ vs H1, Q' vs H1 → Q vs H1
theorem PA.up {X : Cx} {es : List Expr} {t : TA} (ha : PA X es t) : PA X es (tUp t) := ⟨fun pos pins s σ H Q I ⟨Q', h, k⟩ => thn (ha.run pos pins s σ H Q' I h) fun us s ⟨vs, H1, I1, r, q⟩ => ⟨vs, H1, I1, r, k _ _ q⟩⟩
theorem mkX_of {X : Cx} {x : Str} {C : Addr} {fs : List Str} {vs : List V} {H1 : Hp} {Q : VK} (c : Ec (cnOf X) x C fs) (q : vs.length = fs.length ∧ ∀ a H2, H1 a = none → Same H1 H2 → Er H2 a C (fs.zip vs).reverse → Q (.ref a) H2) :
    vs.length ≤ 1000 ∧ ∀ a, H1 a = none → sp_init X.K fs (.ref a :: vs) (upd H1 a (exo a C none)) (fun v H2 => v = .non ∧ Q (.ref a) H2) E0 := by
  obtain ⟨hl, q⟩ := q
  refine ⟨by rw [hl]; exact Nat.le_trans c.ln (by decide), fun a hn => ⟨a, C, vs, rfl, hl, upd_same, c.er.o, c.no, fun H' d hd n k e1 e2 => ⟨rfl, q a H' hn (fun b o z => ?_) ⟨d, n, e1, e2⟩⟩⟩⟩
  have nb : b ≠ a := ne_of_none z hn
  exact k b o nb (by rw [upd_ne nb]; exact z)
section
variable {X : Cx} {x : Str} {e : Expr} {es : List Expr} {t : TA} {p pos : Pos} {C : Addr} {j : Nat} {fs : List Str}
theorem pe_mkX (c : Ec (cnOf X) x C fs) (hA : X.A.guards = some []) (hr : Room j X.A) (hk : 2 ≤ j) (hg : Gl X x) (ha : PA X (e :: es) t)
    (hdb : (x == ("__debug__" : Str)) = false := by decide) (he : starEach (e :: es) X.env = (false, eval e X.env) :: starEach es X.env := by rfl) (hpl : (backTo pos (starEach es X.env)).any (·.1) = false := by rfl) :
    PE X (.Call (.Name x p) (e :: es) [] pos) (tMkX (cnOf X) C fs t) := by
  obtain ⟨fI, fd, iC, tI, F1, hb, _⟩ := c.ex
  have P := pe_mkE (p := p) (pos := pos) c.er.o iC tI F1 hA hr hk hb hg c.mg (PA.up ha) hdb he hpl
  refine ⟨fun pins s σ H Q I h => P.run pins s σ H Q I ⟨_, h, fun vs H1 q => ?_⟩⟩
  exact mkX_of c q
theorem pe_mkXk {kws : List Keyword} {tk : TA} (c : Ec (cnOf X) x C fs) (hA : X.A.guards = some []) (hr : Room j X.A) (hk : 2 ≤ j) (hg : Gl X x) (hkw : PK X kws tk)
    (hall : (backToKw pos (keywordEach kws X.env)).all (·.1.isSome) = true := by rfl) (hks : (backToKw pos (keywordEach kws X.env)).filterMap (·.1) = fs.reverse := by rfl)
    (hdb : (x == ("__debug__" : Str)) = false := by decide)
    (hpl : ((backTo pos (starEach [] X.env)).any (·.1) || (backToKw pos (keywordEach kws X.env)).any (·.1.isNone)) = false := by rfl) :
    PE X (.Call (.Name x p) [] kws pos) (tMkXk (cnOf X) C fs tk) := by
  obtain ⟨fI, fd, iC, tI, F1, _, hb⟩ := c.ex
  refine ⟨fun pins s σ H Q I h => ?_⟩
  obtain ⟨nm, q, N, bs, bm, sn, sub, ab, col, dd, k0, k1, k2, k3, k5, hC, hbm⟩ := c.er.o.cls
  refine wpAny_Call_Name_kw (ld_glob I hg c.mg ?_ hdb)
  refine PySem.W.callWith_KW0 (h₀ := X.base) I.ok.mod.kin c.er.o.kC hall (thn (hkw.run pos pins s σ H _ I h) ?_) hpl
  intro ws s1 ⟨zs, H1, I1, rz, hl, q1⟩
  refine ⟨I1.kIn, ?_⟩
  rw [hks]
  have l1 : ws.length = fs.length := by
    rw [← rz.length]
    exact hl
  obtain ⟨hp, g, dr, tk, os⟩ := s1
  have hsz : hp.objs.size ≤ hp.objs.size + 1 := Nat.le_succ _
  have hn : H1 (hp.objs.size + 1) = none := I1.hok.fresh hsz
  have kk : ∀ b o, hp.get? b = some o → ((hp.push (PySem.W.kdv_tup [])).push (PySem.HandSPX.excO C hp.objs.size)).get? b = some o := fun b o e => Heap.get?_push_of_some _ (Heap.get?_push_of_some _ e)
  have hget : ((hp.push (PySem.W.kdv_tup [])).push (PySem.HandSPX.excO C hp.objs.size)).get? (hp.objs.size + 1) = some (PySem.HandSPX.excO C hp.objs.size) := by heap_get
  have I2 : Inv X pins σ (upd H1 (hp.objs.size + 1) (exo (hp.objs.size + 1) C none)) ⟨(hp.push (PySem.W.kdv_tup [])).push (PySem.HandSPX.excO C hp.objs.size), g, dr, tk, os⟩ :=
    I1.laid (t' := tk) (a := hp.objs.size + 1) (o := exo (hp.objs.size + 1) C none) (h' := (hp.push (PySem.W.kdv_tup [])).push (PySem.HandSPX.excO C hp.objs.size)) kk hsz (exo_ok hget)
  have r2 : Vals (V.ref (hp.objs.size + 1) :: zs.reverse) (Value.ref (hp.objs.size + 1) :: ws.reverse) := .cons rfl rz.reverse
  have hq : sp_init X.K fs (V.ref (hp.objs.size + 1) :: zs.reverse) (upd H1 (hp.objs.size + 1) (exo (hp.objs.size + 1) C none)) (fun v H2 => v = .non ∧ Q (.ref (hp.objs.size + 1)) H2) E0 :=
    (mkX_of c (vs := zs.reverse) ⟨by rw [List.length_reverse]; exact hl, q1⟩).2 _ hn
  refine wpAny_call (PySem.HandSPX.call_ownK F.excBase_ValueError (fun Y => PySem.HandSPX.refsVE_contains Y bm hbm) (I1.kIn _ _ hC) (PySem.W.looks_findIn I1.kIn iC) (fun self => PySem.W.bind_fn I1.kIn self tI) (Nat.zero_le _)
    (codeAny_mono (F1.go (X.A.under (Code.builtin "type.__call__" ⟨[Value.ref C], fs.reverse.zip ws⟩)) (show (X.A.under (Code.builtin "type.__call__" ⟨[Value.ref C], fs.reverse.zip ws⟩)).guards = some [] from hA) X.stack _ _ ⟨[Value.ref (hp.objs.size + 1)], fs.reverse.zip ws⟩ (Value.ref (hp.objs.size + 1) :: ws.reverse) _ _ E0 ((hr.mono hk).make C [] (fs.reverse.zip ws)) (I2.env0.make C [] (fs.reverse.zip ws)) (hb _ _ ws l1) r2 hq) fun r s' hq' => ?_))
  cases r with
  | error er => exact pass0 pins σ _ _ er s' I2 hq'
  | ok fl =>
    cases fl with
    | ret u =>
      obtain ⟨v, H2, J, rv, ev, q2⟩ := I2.after hq'
      subst ev
      exact ⟨rv, .ref (hp.objs.size + 1), H2, J, rfl, q2⟩
    | next => exact False.elim hq'
    | brk => exact False.elim hq'
    | cont => exact False.elim hq'
end
end Mf
/-! what the classes' objects tell -/
namespace Mf
open PySem PySem.Spec PySem.Calls PyProof.Rows L2
/-- at C: an own error's class, its mro behind itself bm -/
def ClsAt (K : PySem.W.Frag) (C : Addr) (bm : List Value) : Prop := ∃ nm q N bs sn sub ab col dd k0 k1 k2 k3 k5, K.lookup C = some (excClassObj nm q C N bs bm true sn sub ab col dd k0 k1 k2 k3 k5 "ValueError.__new__")
abbrev veT : List Value := [.type "ValueError", .type "Exception", .type "BaseException", .type "object"]
section
variable {K : PySem.W.Frag} {C D : Addr} {bm bd : List Value}
theorem ClsAt.clsIn (h : ClsAt K C bm) : ∃ cd, PySem.W.clsIn K C = some cd ∧ cd.mro = .ref C :: bm ∧ cd.hasDict = true := by
  obtain ⟨nm, q, N, bs, sn, sub, ab, col, dd, k0, k1, k2, k3, k5, h⟩ := h
  exact ⟨_, by unfold PySem.W.clsIn; rw [h] <;> rfl, rfl, rfl⟩
theorem ClsAt.mro (h : ClsAt K C bm) (u : Value) : PySem.W.mroIn K C u = some ((Value.ref C :: bm).contains u) := by
  obtain ⟨cd, h1, h2, _⟩ := h.clsIn
  unfold PySem.W.mroIn
  rw [h1, Option.bind_some, h2]
  rfl
theorem ClsAt.ty (h : ClsAt K C bm) : PySem.W.typeIn K (.ref C) = some (.type "type") := by
  obtain ⟨nm, q, N, bs, sn, sub, ab, col, dd, k0, k1, k2, k3, k5, h⟩ := h
  show (K.lookup C).map (·.cls) = _
  rw [h] <;> rfl
theorem ClsAt.hd (h : ClsAt K C bm) : PySem.W.hasDictIn K C = true := by
  obtain ⟨cd, h1, _, h3⟩ := h.clsIn
  unfold PySem.W.hasDictIn
  rw [h1]
  exact h3
theorem kit_own (h : ClsAt K C bm) (g : ClsAt K D bd) : PySem.W.kitOne K (.ref C) (.ref D) = some (decide (C = D) || bm.contains (.ref D)) := by
  unfold PySem.W.kitOne
  by_cases e : C = D
  · subst e
    rw [if_pos (beq_self_eq_true _), decide_eq_true rfl]
    rfl
  · have ne : ¬ ((Value.ref C == Value.ref D) = true) := fun z => e (Value.ref.inj (beq_iff_eq.mp z))
    rw [if_neg ne, decide_eq_false e, Bool.false_or]
    obtain ⟨cd, h1, _⟩ := g.clsIn
    show (if ((PySem.W.clsIn K D).isSome && PySem.W.typeIn K (.ref D) == some (.type "type")) = true then PySem.W.mroIn K C (.ref D) else none) = _
    rw [h1, g.ty, if_pos (by simp), h.mro]
    have n2 : (Value.ref D == Value.ref C) = false := by
      cases z : (Value.ref D == Value.ref C) with
      | false => rfl
      | true => exact absurd (Value.ref.inj (beq_iff_eq.mp z)).symm e
    rw [List.contains_cons, n2, Bool.false_or]
theorem kit_blt {T : String} {b : Bool} (h : ClsAt K C bm) (hm : PySem.W.kitMeta T = true) (hb : bm.contains (.type T) = b) : PySem.W.kitOne K (.ref C) (.type T) = some b := by
  unfold PySem.W.kitOne
  have ne : ¬ ((Value.ref C == Value.type T) = true) := fun z => by
    have z' := beq_iff_eq.mp z
    cases z'
  rw [if_neg ne]
  show (if PySem.W.kitMeta T = true then PySem.W.mroIn K C (.type T) else none) = _
  rw [if_pos hm, h.mro, List.contains_cons]
  have n2 : (Value.type T == Value.ref C) = false := by
    cases z : (Value.type T == Value.ref C) with
    | false => rfl
    | true =>
      have z' := beq_iff_eq.mp z
      cases z'
  rw [n2, Bool.false_or, hb]
end
/-- the class as it stands -/
structure Ed (c : Cn) (x q : Str) (st : Stmt) (C : Addr) (bm : List Value) (fs : List Str) : Prop where
  mg : c.mg x = some (.ref C)
  cl : ClsAt c.K C bm
  ve : PySem.HandSPX.refsVE bm = true
  ob : bm.contains (.type "object") = true
  be : bm.contains (.type "BaseException") = true
  sa : PySem.W.findIn c.K (.ref C) "__setattr__" = some (some (.builtin "object.__setattr__"))
  kC : PySem.W.keepIn c.K (.ref C) = true
  hg : PySem.W.findIn c.K (.ref C) "__getattribute__" = some (some (.builtin "BaseException.__getattribute__"))
  hk : PySem.W.findIn c.K (.ref C) "__getattr__" = some none
  ha : PySem.W.findIn c.K (.ref C) "__class__" = some (some (.builtin "object.__class__"))
  hn : PySem.W.specialIn c.K (.builtin "object.__class__") "__get__" = some (some (.builtin "getset_descriptor.__get__"))
  ht : PySem.W.takesIn c.K (.builtin "object.__class__") = some true
  no : ∀ f ∈ fs, PySem.W.findIn c.K (.ref C) f = some none
  ex : ∃ (fI : Addr) (fd : FuncData), PySem.W.findIn c.K (.ref C) "__init__" = some (some (.ref fI)) ∧ PySem.W.typeIn c.K (.ref fI) = some (.type "function") ∧ Fun c.K "__init__" q st fI fd
section
variable {c : Cn} {x q : Str} {st : Stmt} {C : Addr} {bm : List Value} {fs : List Str}
theorem Ed.erc (D : Ed c x q st C bm fs) : Erc c.K C := by
  have hs : PySem.W.subIn c.K (.ref C) (.type "BaseException") = some true := by
    show PySem.W.mroIn c.K C (.type "BaseException") = some true
    rw [D.cl.mro, List.contains_cons, D.be, Bool.or_true]
  have hm : PySem.W.mroIn c.K C (.type "object") = some true := by
    rw [D.cl.mro, List.contains_cons, D.ob, Bool.or_true]
  obtain ⟨nm, qn, N, bs, sn, sub, ab, col, dd, k0, k1, k2, k3, k5, h⟩ := D.cl
  exact ⟨⟨⟨nm, qn, N, bs, bm, sn, sub, ab, col, dd, k0, k1, k2, k3, k5, h, D.ve⟩, D.sa, hs, ClsAt.ty ⟨nm, qn, N, bs, sn, sub, ab, col, dd, k0, k1, k2, k3, k5, h⟩, D.kC⟩,
    ⟨D.hg, D.hk, hs, ClsAt.hd ⟨nm, qn, N, bs, sn, sub, ab, col, dd, k0, k1, k2, k3, k5, h⟩, D.ha, D.hn, D.ht, hm⟩⟩
def PlI (q : Str) (st : Stmt) (ps : List Str) : Prop := ∀ (kV doc pm : Value) (an : Option Addr) (cdv ct : Value) (us : List Value), us.length = ps.length →
  bindArgs (PySem.W.fnOf "__init__" q (defArgs st) (defBody st) (defScope st) .none kV doc pm an cdv ct) ⟨us, []⟩ = pure (ps.zip us)
def PkI (q : Str) (st : Stmt) (fs : List Str) : Prop := ∀ (kV doc pm : Value) (an : Option Addr) (cdv ct : Value) (v : Value) (ws : List Value), ws.length = fs.length →
  bindArgs (PySem.W.fnOf "__init__" q (defArgs st) (defBody st) (defScope st) .none kV doc pm an cdv ct) ⟨[v], fs.reverse.zip ws⟩ = pure ((Str.ofString "self" :: fs).zip (v :: ws.reverse))
theorem Ed.ec {N : List Str} (D : Ed c x q st C bm fs) (hz : fs.length ≤ 900) (S : FnScope N (Str.ofString "self" :: fs) (defScope st)) (hp : PlI q st (Str.ofString "self" :: fs)) (hk : PkI q st fs)
    (hbody : ∀ (f : Addr) (cdv : Value) (A : Around) (outer : List Env) (s : Shared) (H : Hp) (vs : List V) (Q : VK) (E : XK),
      sp_init c.K fs vs H Q E → ∃ t, PSs (cxOf CX0 c.P c.w c.K c.mg c.base N q (defScope st) f cdv A outer s H E).nox (defBody st) t ∧
        t { nx := fun _ H' => Q .non H', rt := Q } (start N vs) H) : Ec c x C fs := by
  obtain ⟨fI, fd, iC, tI, F⟩ := D.ex
  refine ⟨D.mg, D.erc, D.no, hz, fI, fd, iC, tI, okG F S (fun vs H Q E h => ?_) (fun cdv A outer s H vs Q E _ _ h => hbody fI cdv A outer s H vs Q E h), F.binds hp, fun s v ws hl => ?_⟩
  · obtain ⟨a, C, ws, rfl, hl, _⟩ := h
    show ws.length + 1 = fs.length + 1
    rw [hl]
  · obtain ⟨oc, od, kV, doc, pm, an, cdv, ct, osl, rfl, lk, hcd⟩ := F.ex
    exact .of_eq (hk kV doc pm an cdv ct v ws hl)
/-- self.f = f -/
theorem init1_rd {K : PySem.W.Frag} {f : Str} {vs : List V} {H : Hp} {Q : VK} {E : XK} (h : sp_init K [f] vs H Q E) :
    tOst K f (tVar 0) (tVar 1) { nx := fun _ H' => Q .non H', rt := Q } (start ["self", f] vs) H := by
  obtain ⟨a, C, ws, rfl, hl, e, T, no, k⟩ := h
  match ws, hl with
  | [v], _ =>
    unfold tOst
    refine g_var (v := v) rfl ?_
    refine g_var (v := .ref a) rfl ?_
    refine ⟨a, C, rfl, T, no f (List.mem_cons_self ..), .inl ⟨e, fun dx hd ne => ?_⟩⟩
    refine k _ dx hd ne (fun b o nb eb => ?_) upd_same (by rw [upd_ne ne]; exact upd_same)
    rw [upd_ne nb, upd_ne (ne_of_none eb hd)]
    exact eb
theorem init2_rd {K : PySem.W.Frag} {f g : Str} {vs : List V} {H : Hp} {Q : VK} {E : XK} (h : sp_init K [f, g] vs H Q E) :
    tSeq (tOst K f (tVar 0) (tVar 1)) (tOst K g (tVar 0) (tVar 2)) { nx := fun _ H' => Q .non H', rt := Q } (start ["self", f, g] vs) H := by
  obtain ⟨a, C, ws, rfl, hl, e, T, no, k⟩ := h
  match ws, hl with
  | [v, z], _ =>
    refine g_seq ?_
    unfold tOst
    refine g_var (v := v) rfl ?_
    refine g_var (v := .ref a) rfl ?_
    refine ⟨a, C, rfl, T, no f (List.mem_cons_self ..), .inl ⟨e, fun dx hd ne => ?_⟩⟩
    have e1 : upd (upd H dx (exd dx [(f, v)])) a (exo a C (some dx)) a = some (exo a C (some dx)) := upd_same
    have e2 : upd (upd H dx (exd dx [(f, v)])) a (exo a C (some dx)) dx = some (exd dx [(f, v)]) := by
      rw [upd_ne ne]
      exact upd_same
    dsimp only
    refine g_var (v := z) rfl ?_
    refine g_var (v := .ref a) rfl ?_
    refine ⟨a, C, rfl, T, no g (List.mem_cons_of_mem _ (List.mem_cons_self ..)), .inr ⟨dx, _, e1, e2, by show 1 ≤ 900; decide, ?_⟩⟩
    refine k _ dx hd ne (fun b o nb eb => ?_) (by rw [upd_ne (Ne.symm ne)]; exact e1) upd_same
    rw [upd_ne (ne_of_none eb hd), upd_ne nb, upd_ne (ne_of_none eb hd)]
    exact eb
end
end Mf
/-! own errors that are raised, and caught; repr of values with an empty dict -/
namespace Mf
open PySem PySem.Spec PySem.Calls PyProof.Rows L2
def tMkR (C : Addr) (fs : List Str) (t : TA) : L2.St → Hp → XK → Prop := fun σ H Q => t σ H fun vs H1 => vs.length = fs.length ∧ ∀ d H2, H1 d = none → Same H1 H2 → H2 d = some (.xd (fs.zip vs).reverse) → Q (.ref C) (some d) H2
def tMkRk (C : Addr) (fs : List Str) (t : TA) : L2.St → Hp → XK → Prop := fun σ H Q => t σ H fun vs H1 => vs.length = fs.length ∧ ∀ d H2, H1 d = none → Same H1 H2 → H2 d = some (.xd (fs.zip vs.reverse).reverse) → Q (.ref C) (some d) H2
theorem mkR_same {H1 H2 : Hp} {a C d : Addr} {u : HO} (hn : H1 a = none) (hd : H1 d = none) (k : ∀ b o, b ≠ a → upd H1 a (exo a C none) b = some o → H2 b = some o) : Same H1 (upd (del H2 a) d u) := fun b o e => by
  have nb : b ≠ a := ne_of_none e hn
  rw [upd_ne (ne_of_none e hd), del_ne nb]
  exact k b o nb (by rw [upd_ne nb]; exact e)
section
variable {X : Cx} {x : Str} {e : Expr} {es : List Expr} {t : TA} {p pos : Pos} {C : Addr} {j : Nat} {fs : List Str}
theorem pmk_mkX (c : Ec (cnOf X) x C fs) (hA : X.A.guards = some []) (hr : Room j X.A) (hk : 2 ≤ j) (hg : Gl X x) (ha : PA X (e :: es) t)
    (hdb : (x == ("__debug__" : Str)) = false := by decide) (he : starEach (e :: es) X.env = (false, eval e X.env) :: starEach es X.env := by rfl) (hpl : (backTo pos (starEach es X.env)).any (·.1) = false := by rfl) :
    PMk X (.Call (.Name x p) (e :: es) [] pos) (tMkR C fs t) := by
  obtain ⟨fI, fd, iC, tI, F1, hb, _⟩ := c.ex
  intro pins s σ H Q I h
  have T := c.er.o
  obtain ⟨nm, q, N, bs, bm, sn, sub, ab, col, dd, k0, k1, k2, k3, k5, hC, hbm⟩ := T.cls
  refine wpAny_Call_Name_kw (ld_glob I hg c.mg ?_ hdb)
  refine PySem.W.callWith_K (h₀ := X.base) I.ok.mod.kin T.kC (thn (ha.run pos pins s σ H _ I h) fun us s1 ⟨vs, H1, I1, r1, hz, q1⟩ => ⟨I1.kIn, ?_⟩) he hpl
  show wpAny _ _ (call (.ref C) us) _ _ _
  obtain ⟨hp, g, dr, tk, os⟩ := s1
  have hsz : hp.objs.size ≤ hp.objs.size + 1 := Nat.le_succ _
  have hn : H1 (hp.objs.size + 1) = none := I1.hok.fresh hsz
  have kk : ∀ b o, hp.get? b = some o → ((hp.push (PySem.W.kdv_tup us)).push (PySem.HandSPX.excO C hp.objs.size)).get? b = some o := fun b o e => Heap.get?_push_of_some _ (Heap.get?_push_of_some _ e)
  have hget : ((hp.push (PySem.W.kdv_tup us)).push (PySem.HandSPX.excO C hp.objs.size)).get? (hp.objs.size + 1) = some (PySem.HandSPX.excO C hp.objs.size) := by heap_get
  have I2 : Inv X pins σ (upd H1 (hp.objs.size + 1) (exo (hp.objs.size + 1) C none)) ⟨(hp.push (PySem.W.kdv_tup us)).push (PySem.HandSPX.excO C hp.objs.size), g, dr, tk, os⟩ :=
    I1.laid (t' := tk) (a := hp.objs.size + 1) (o := exo (hp.objs.size + 1) C none) (h' := (hp.push (PySem.W.kdv_tup us)).push (PySem.HandSPX.excO C hp.objs.size)) kk hsz (exo_ok hget)
  have r2 : Vals (V.ref (hp.objs.size + 1) :: vs) (Value.ref (hp.objs.size + 1) :: us) := .cons rfl r1
  have hus : us.length ≤ sizeLine := by
    rw [← Paired.length r1, sizeLine_eq, hz]
    have := c.ln
    omega
  have hq : sp_init X.K fs (V.ref (hp.objs.size + 1) :: vs) (upd H1 (hp.objs.size + 1) (exo (hp.objs.size + 1) C none))
      (fun v H2 => v = .non ∧ ∃ d, H1 d = none ∧ H2 (hp.objs.size + 1) = some (exo (hp.objs.size + 1) C (some d)) ∧ H2 d = some (exd d (fs.zip vs).reverse) ∧ Q (.ref C) (some d) (upd (del H2 (hp.objs.size + 1)) d (.xd (fs.zip vs).reverse))) E0 := by
    refine ⟨hp.objs.size + 1, C, vs, rfl, hz, upd_same, T, c.no, fun H' d hd n k e1 e2 => ?_⟩
    have hd1 : H1 d = none := by rw [upd_ne n] at hd; exact hd
    exact ⟨rfl, d, hd1, e1, e2, q1 d _ hd1 (mkR_same hn hd1 k) upd_same⟩
  have hl : (Value.ref (hp.objs.size + 1) :: us ++ []).length = (Str.ofString "self" :: fs).length := by
    have e := r2.length
    rw [F1.size _ _ _ _ hq] at e
    rw [List.append_nil]
    exact e.symm
  have hb' := hb _ (Value.ref (hp.objs.size + 1) :: us) I2.kIn hl
  rw [List.append_nil] at hb'
  refine wpAny_call (PySem.HandSPX.call_own F.excBase_ValueError (fun Y => PySem.HandSPX.refsVE_contains Y bm hbm) (I1.kIn _ _ hC) (PySem.W.looks_findIn I1.kIn iC) (fun self => PySem.W.bind_fn I1.kIn self tI) hus
    (codeAny_mono (F1.go (X.A.under (Code.builtin "type.__call__" ⟨Value.ref C :: us, []⟩)) (show (X.A.under (Code.builtin "type.__call__" ⟨Value.ref C :: us, []⟩)).guards = some [] from hA) X.stack _ _ ⟨Value.ref (hp.objs.size + 1) :: us, []⟩ (Value.ref (hp.objs.size + 1) :: us) _ _ E0 ((hr.mono hk).make C us []) (I2.env0.make C us []) hb' r2 hq) fun r s' hq' => ?_))
  cases r with
  | error er => exact pass0 pins σ _ _ er s' I2 hq'
  | ok fl =>
    cases fl with
    | ret u =>
      obtain ⟨v, H2, os2, bare2, un2, hok2, rv, ev, d, hd1, ea, ed, q2⟩ := hq'
      subst ev
      obtain ⟨h2, g2, d2, t2, os'⟩ := s'
      exact ⟨rv, mk_end (raises_own T.exC T.tyC) I1 hsz kk un2 hok2 os2 bare2 ea ed hd1 q2⟩
    | next => exact False.elim hq'
    | brk => exact False.elim hq'
    | cont => exact False.elim hq'
theorem pmk_mkXk {kws : List Keyword} {tk : TA} (c : Ec (cnOf X) x C fs) (hA : X.A.guards = some []) (hr : Room j X.A) (hk : 2 ≤ j) (hg : Gl X x) (hkw : PK X kws tk)
    (hall : (backToKw pos (keywordEach kws X.env)).all (·.1.isSome) = true := by rfl) (hks : (backToKw pos (keywordEach kws X.env)).filterMap (·.1) = fs.reverse := by rfl)
    (hdb : (x == ("__debug__" : Str)) = false := by decide)
    (hpl : ((backTo pos (starEach [] X.env)).any (·.1) || (backToKw pos (keywordEach kws X.env)).any (·.1.isNone)) = false := by rfl) :
    PMk X (.Call (.Name x p) [] kws pos) (tMkRk C fs tk) := by
  obtain ⟨fI, fd, iC, tI, F1, _, hb⟩ := c.ex
  intro pins s σ H Q I h
  have T := c.er.o
  obtain ⟨nm, q, N, bs, bm, sn, sub, ab, col, dd, k0, k1, k2, k3, k5, hC, hbm⟩ := T.cls
  refine wpAny_Call_Name_kw (ld_glob I hg c.mg ?_ hdb)
  refine PySem.W.callWith_KW0 (h₀ := X.base) I.ok.mod.kin T.kC hall (thn (hkw.run pos pins s σ H _ I h) ?_) hpl
  intro ws s1 ⟨zs, H1, I1, rz, hz, q1⟩
  refine ⟨I1.kIn, ?_⟩
  rw [hks]
  have l1 : ws.length = fs.length := by
    rw [← rz.length]
    exact hz
  obtain ⟨hp, g, dr, tk, os⟩ := s1
  have hsz : hp.objs.size ≤ hp.objs.size + 1 := Nat.le_succ _
  have hn : H1 (hp.objs.size + 1) = none := I1.hok.fresh hsz
  have kk : ∀ b o, hp.get? b = some o → ((hp.push (PySem.W.kdv_tup [])).push (PySem.HandSPX.excO C hp.objs.size)).get? b = some o := fun b o e => Heap.get?_push_of_some _ (Heap.get?_push_of_some _ e)
  have hget : ((hp.push (PySem.W.kdv_tup [])).push (PySem.HandSPX.excO C hp.objs.size)).get? (hp.objs.size + 1) = some (PySem.HandSPX.excO C hp.objs.size) := by heap_get
  have I2 : Inv X pins σ (upd H1 (hp.objs.size + 1) (exo (hp.objs.size + 1) C none)) ⟨(hp.push (PySem.W.kdv_tup [])).push (PySem.HandSPX.excO C hp.objs.size), g, dr, tk, os⟩ :=
    I1.laid (t' := tk) (a := hp.objs.size + 1) (o := exo (hp.objs.size + 1) C none) (h' := (hp.push (PySem.W.kdv_tup [])).push (PySem.HandSPX.excO C hp.objs.size)) kk hsz (exo_ok hget)
  have r2 : Vals (V.ref (hp.objs.size + 1) :: zs.reverse) (Value.ref (hp.objs.size + 1) :: ws.reverse) := .cons rfl rz.reverse
  have hq : sp_init X.K fs (V.ref (hp.objs.size + 1) :: zs.reverse) (upd H1 (hp.objs.size + 1) (exo (hp.objs.size + 1) C none))
      (fun v H2 => v = .non ∧ ∃ d, H1 d = none ∧ H2 (hp.objs.size + 1) = some (exo (hp.objs.size + 1) C (some d)) ∧ H2 d = some (exd d (fs.zip zs.reverse).reverse) ∧ Q (.ref C) (some d) (upd (del H2 (hp.objs.size + 1)) d (.xd (fs.zip zs.reverse).reverse))) E0 := by
    refine ⟨hp.objs.size + 1, C, zs.reverse, rfl, by rw [List.length_reverse]; exact hz, upd_same, T, c.no, fun H' d hd n k e1 e2 => ?_⟩
    have hd1 : H1 d = none := by rw [upd_ne n] at hd; exact hd
    exact ⟨rfl, d, hd1, e1, e2, q1 d _ hd1 (mkR_same hn hd1 k) upd_same⟩
  refine wpAny_call (PySem.HandSPX.call_ownK F.excBase_ValueError (fun Y => PySem.HandSPX.refsVE_contains Y bm hbm) (I1.kIn _ _ hC) (PySem.W.looks_findIn I1.kIn iC) (fun self => PySem.W.bind_fn I1.kIn self tI) (Nat.zero_le _)
    (codeAny_mono (F1.go (X.A.under (Code.builtin "type.__call__" ⟨[Value.ref C], fs.reverse.zip ws⟩)) (show (X.A.under (Code.builtin "type.__call__" ⟨[Value.ref C], fs.reverse.zip ws⟩)).guards = some [] from hA) X.stack _ _ ⟨[Value.ref (hp.objs.size + 1)], fs.reverse.zip ws⟩ (Value.ref (hp.objs.size + 1) :: ws.reverse) _ _ E0 ((hr.mono hk).make C [] (fs.reverse.zip ws)) (I2.env0.make C [] (fs.reverse.zip ws)) (hb _ _ ws l1) r2 hq) fun r s' hq' => ?_))
  cases r with
  | error er => exact pass0 pins σ _ _ er s' I2 hq'
  | ok fl =>
    cases fl with
    | ret u =>
      obtain ⟨v, H2, os2, bare2, un2, hok2, rv, ev, d, hd1, ea, ed, q2⟩ := hq'
      subst ev
      obtain ⟨h2, g2, d2, t2, os'⟩ := s'
      exact ⟨rv, mk_end (raises_own T.exC T.tyC) I1 hsz kk un2 hok2 os2 bare2 ea ed hd1 q2⟩
    | next => exact False.elim hq'
    | brk => exact False.elim hq'
    | cont => exact False.elim hq'
/-- e.f, e the error that the suite holds -/
def tByX (K : PySem.W.Frag) (a : Addr) (cls : Value) (d : Option Addr) (f : Str) (te : TE) : TE := fun σ H Q => te σ H fun x H1 => x = .ref a ∧ ∃ (C dd : Addr) (fs : List (Str × V)) (v : V), cls = .ref C ∧ Erc K C ∧ PySem.W.findIn K (.ref C) f = some none ∧ d = some dd ∧ H1 dd = some (.xd fs) ∧ fs.lookup f = some v ∧ Q v H1
theorem pe_byX {f : Str} {a : Addr} {oe : Obj} {cls : Value} {d : Option Addr} {pn : List (Addr × Obj)} {te : TE} (hz : Zc cls d oe) (hf : ∃ vs, oe.data = .fields vs) (he : PE (X.suite a ((a, oe) :: pn)) e te)
    (hb : attributeBase e f X.env (eval e X.env) = eval e X.env := by rfl) :
    PE (X.suite a ((a, oe) :: pn)) (.Attribute e f pos) (tByX X.K a cls d f te) := by
  refine ⟨fun pins s σ H Q I h => ?_⟩
  refine attr_of hb (thn (he.run pins s σ H _ I h) fun u s1 hh => ?_)
  obtain ⟨x, H1, I1, rx, ex, C, dd, fs, v, ec, T, no, ed, ea, l, q⟩ := hh
  subst ex
  obtain rfl : u = Value.ref a := rx
  subst ec
  subst ed
  obtain ⟨ha, _⟩ := I1.pin (a, oe) (List.mem_append_left _ List.mem_cons_self)
  obtain ⟨vs, hd⟩ := hf
  have hx : ObjOk X.prog X.w H1 s1.heap dd (.xd fs) := I1.hok dd _ ea
  obtain ⟨mA, hns, hr⟩ := hx
  obtain ⟨od, ho, hl⟩ := lookIn_ns hns
  obtain ⟨u, hu, ru⟩ := RelO.some_of (v := v) (o := mA f) (by rw [← l]; exact hr f)
  have J : PySem.W.InstAt s1.heap a oe C (some od) := ⟨ha, hz.1, by unfold PySem.W.notCls; rw [hd] <;> rfl, by rw [hz.2]; exact ho⟩
  exact HandSPX.exc_get I1.kIn J T.c.hg T.c.hk T.c.hs (PySem.W.findObj_own T.c.hd no rfl (by rw [hl, hu])) (handed_of ru) ⟨v, H1, I1.tok _, ru, q⟩
end
end Mf
/-! the fields of k00: values with an empty dict, their repr -/
namespace Mf
open PySem PySem.Spec PySem.Calls PyProof.Rows L2
def leafD : PyData → Bool
  | .none | .bool _ | .int _ | .str _ => true
  | _ => false
/-- a value of the menu: data without a list, or [i, [j]], or the empty dict -/
def Dk (q : Addr) (K : PySem.W.Frag) (H : Hp) (v : V) (d : PyData) : Prop := (leafD d = true ∧ Dq q K H v d) ∨
  (∃ (a b : Addr) (i j : Int), d = .list [.int i, .list [.int j]] ∧ v = .ref a ∧ a ≠ q ∧ b ≠ q ∧ a ≠ sysModules ∧ b ≠ sysModules ∧ H a = some (.lst [.int i, .ref b]) ∧ H b = some (.lst [.int j])) ∨
  (∃ (a : Addr) (i j : Int), d = .tuple [.int i, .int j] ∧ v = .ref a ∧ a ≠ q ∧ H a = some (.tup [.int i, .int j])) ∨
  (d = .dict [] ∧ ∃ a, v = .ref a ∧ a ≠ q ∧ H a = some (.dK []))
theorem Dk.go {q : Addr} {K : PySem.W.Frag} {H H' : Hp} {v : V} {d : PyData} (s : SameX q H H') (h : Dk q K H v d) : Dk q K H' v d := by
  rcases h with ⟨n, h⟩ | ⟨a, b, i, j, e1, e2, n1, n2, m1, m2, h1, h2⟩ | ⟨a, i, j, e1, e2, n1, h1⟩ | ⟨rfl, a, rfl, n, e⟩
  · exact .inl ⟨n, h.go s⟩
  · exact .inr (.inl ⟨a, b, i, j, e1, e2, n1, n2, m1, m2, s.kept _ _ n1 h1, s.kept _ _ n2 h2⟩)
  · exact .inr (.inr (.inl ⟨a, i, j, e1, e2, n1, s.kept _ _ n1 h1⟩))
  · exact .inr (.inr (.inr ⟨rfl, a, rfl, n, s.kept _ _ n e⟩))
inductive DkAll (q : Addr) (K : PySem.W.Frag) (H : Hp) : List V → List PyData → Prop
  | nil : DkAll q K H [] []
  | cons {v : V} {vs : List V} {d : PyData} {ds : List PyData} : Dk q K H v d → DkAll q K H vs ds → DkAll q K H (v :: vs) (d :: ds)
theorem DkAll.mem {q : Addr} {K : PySem.W.Frag} {H : Hp} : ∀ {vs : List V} {ds : List PyData} {x : V}, DkAll q K H vs ds → x ∈ vs → ∃ d ∈ ds, Dk q K H x d
  | _, _, _, .nil, h => nomatch h
  | _, _, x, .cons h t, m => by
    cases m with
    | head => exact ⟨_, List.mem_cons_self .., h⟩
    | tail _ m =>
      obtain ⟨d, hd, z⟩ := DkAll.mem t m
      exact ⟨d, List.mem_cons_of_mem _ hd, z⟩
section
variable {X : Cx} {pins : List (Addr × Obj)} {σ : L2.St} {H : Hp} {s : Shared} {q : Addr}
theorem Dk.reads (I : L2.Inv X pins σ H s) {v : V} {u : Value} {d : PyData} (h : Dk q X.K H v d) (r : RelV v u) : ∃ as, Reads s.heap u d as ∧ sysModules ∉ as := by
  rcases h with ⟨n, h⟩ | ⟨a, b, i, j, rfl, rfl, n1, n2, m1, m2, h1, h2⟩ | ⟨a, i, j, rfl, rfl, n1, h1⟩ | ⟨rfl, a, rfl, n, e⟩
  · cases h with
    | non =>
      cases r
      exact ⟨_, Reads.none, fun z => nomatch z⟩
    | bl b =>
      cases r
      exact ⟨_, Reads.bool b, fun z => nomatch z⟩
    | int i =>
      obtain ⟨t, rfl⟩ := r
      exact ⟨_, Reads.int i t, fun z => nomatch z⟩
    | str x hx =>
      obtain ⟨t, rfl⟩ := r
      exact ⟨_, Reads.str x t, fun z => nomatch z⟩
    | lst _ _ _ => exact absurd n (by unfold leafD; exact Bool.false_ne_true)
    | dct _ _ => exact absurd n (by unfold leafD; exact Bool.false_ne_true)
    | tup _ _ _ => exact absurd n (by unfold leafD; exact Bool.false_ne_true)
  · cases (show u = Value.ref a from r)
    obtain ⟨_, its, n, rv, e1⟩ := (show ObjOk X.prog X.w H s.heap a (.lst [.int i, .ref b]) from I.hok a _ h1)
    obtain ⟨_, jts, m, rw', e2⟩ := (show ObjOk X.prog X.w H s.heap b (.lst [.int j]) from I.hok b _ h2)
    cases rv with
    | cons r1 rv =>
      cases rv with
      | cons r2 rv =>
        cases rv
        cases rw' with
        | cons r3 rw' =>
          cases rw'
          obtain ⟨t1, rfl⟩ := r1
          obtain ⟨t3, rfl⟩ := r3
          rename_i u2
          cases (show u2 = Value.ref b from r2)
          refine ⟨_, Reads.list e1 rfl rfl (ReadsAll.cons (Reads.int i t1) (ReadsAll.cons (Reads.list e2 rfl rfl (ReadsAll.cons (Reads.int j t3) ReadsAll.nil)) ReadsAll.nil)), fun z => ?_⟩
          cases z with
          | head => exact m1 rfl
          | tail _ z =>
            cases z with
            | head => exact m2 rfl
            | tail _ z => cases z
  · cases (show u = Value.ref a from r)
    obtain ⟨_, its, rv, o, ho, hc, m, hd⟩ := (show ObjOk X.prog X.w H s.heap a (.tup [.int i, .int j]) from I.hok a _ h1)
    cases rv with
    | cons r1 rv =>
      cases rv with
      | cons r2 rv =>
        cases rv
        obtain ⟨t1, rfl⟩ := r1
        obtain ⟨t2, rfl⟩ := r2
        exact ⟨_, Reads.tuple ho hc hd (ReadsAll.cons (Reads.int i t1) (ReadsAll.cons (Reads.int j t2) ReadsAll.nil)), fun z => nomatch z⟩
  · cases (show u = Value.ref a from r)
    obtain ⟨_, hs, vs, kv, o, es, ep, h3, h4, h5, _, h6, _⟩ := (show ObjOk X.prog X.w H s.heap a (.dK []) from I.hok a _ e)
    cases kv
    have e5 : es.toList = [] := by
      cases z : es.toList with
      | nil => rfl
      | cons y l =>
        rw [z] at h6
        cases h6
    refine ⟨[a], Reads.dict (kvs := []) (as := []) (bs := []) h3 h4.1 h5 ?_ ?_, fun z => ?_⟩
    · rw [e5]
      exact .nil
    · rw [e5]
      exact .nil
    · rw [List.mem_singleton] at z
      rw [← z] at hs
      simp at hs
theorem DkAll.reads (I : L2.Inv X pins σ H s) : ∀ {vs : List V} {us : List Value} {ds : List PyData}, DkAll q X.K H vs ds → Vals vs us → ∃ as, ReadsAll s.heap us ds as ∧ sysModules ∉ as
  | _, _, _, .nil, .nil => ⟨_, ReadsAll.nil, fun z => nomatch z⟩
  | _, _, _, .cons (d := d) (ds := ds) h t, .cons r1 r2 => by
    obtain ⟨as, a1, a2⟩ := Dk.reads I h r1
    obtain ⟨bs, b1, b2⟩ := DkAll.reads I t r2
    exact ⟨_, ReadsAll.cons a1 b1, fun z => (List.mem_append.mp z).elim a2 b2⟩
end
section
variable {X : Cx}
/-- repr(v) of a value of the menu -/
def rReprK (K : PySem.W.Frag) : List V → Hp → VK → Prop := fun xs H Q => ∃ (q : Addr) (v : V) (d : PyData), xs = [v] ∧ Dk q K H v d ∧ d.showable = true ∧ d.depth ≤ 60 ∧ d.shown.length ≤ sizeLine ∧ Q (.str d.shown) H
theorem call_reprK (hA : X.A.guards = some []) (hu : X.A.units + 64 < cLine) : CallR X (.builtin "repr") (rReprK X.K) := by
  intro pins s σ H xs us Q I r h
  obtain ⟨q, v, d, rfl, hd, hs, hdep, hz, q1⟩ := h
  obtain ⟨u, rfl, rx⟩ := vals1 r
  obtain ⟨as, rd, hsm⟩ := Dk.reads I hd rx
  have arm : ∀ a, v = .ref a → wpAny (model X.prog X.w) X.A (call (.builtin "repr") [u]) (EP X pins σ Q) X.xe s := by
    intro a e
    subst e
    cases (show u = Value.ref a from rx)
    refine repr_of_reads' rd hs (fun _ => hsm) hA (by omega) (fun b o e => e) ?_ hz
    intro h' u tk hk
    exact ⟨.str _, H, I.kept hk, ⟨u, rfl⟩, q1⟩
  rcases hd with ⟨n, hd⟩ | ⟨a, b, i, j, e1, e2, _⟩ | ⟨a, i, j, e1, e2, _⟩ | ⟨_, a, e, _⟩
  · cases hd with
    | non =>
      cases (show u = Value.none from rx)
      exact PySem.P.repr_of_none ⟨.str _, H, I.tok _, ⟨_, rfl⟩, q1⟩
    | bl b =>
      cases (show u = Value.bool b from rx)
      exact PySem.P.repr_of_bool ⟨.str _, H, I.tok _, ⟨_, rfl⟩, q1⟩
    | int i =>
      obtain ⟨t, rfl⟩ := (show ∃ t, u = Value.int i t from rx)
      exact PySem.P.repr_of_int (of_decide_eq_true hs) ⟨.str _, H, I.tok _, ⟨_, rfl⟩, q1⟩
    | str x hx =>
      obtain ⟨t, rfl⟩ := (show ∃ t, u = Value.str x t from rx)
      exact PySem.P.repr_of_str ⟨.str _, H, I.tok _, ⟨_, rfl⟩, q1⟩ hz
    | lst _ _ _ => exact arm _ rfl
    | dct _ _ => exact arm _ rfl
    | tup _ _ _ => exact arm _ rfl
  · exact arm a e2
  · exact arm a e2
  · exact arm a e
/-- repr of a list of such that was just laid -/
def rReprL (K : PySem.W.Frag) : List V → Hp → VK → Prop := fun xs H Q => ∃ (q p : Addr) (vs : List V) (ds : List PyData), xs = [.ref p] ∧ H p = some (.lst vs) ∧ p ≠ sysModules ∧ DkAll q K H vs ds ∧ (PyData.list ds).showable = true ∧ (PyData.list ds).depth ≤ 60 ∧ (PyData.list ds).shown.length ≤ sizeLine ∧ Q (.str (PyData.list ds).shown) H
theorem call_reprL (hA : X.A.guards = some []) (hu : X.A.units + 64 < cLine) : CallR X (.builtin "repr") (rReprL X.K) := by
  intro pins s σ H xs us Q I r h
  obtain ⟨q, p, vs, ds, rfl, hp, np, hd, hs, hdep, hz, q1⟩ := h
  obtain ⟨u, rfl, rx⟩ := vals1 r
  cases (show u = Value.ref p from rx)
  obtain ⟨_, its, n, rv, h1⟩ := (show ObjOk X.prog X.w H s.heap p (.lst vs) from I.hok p _ hp)
  obtain ⟨as, ra, hsm⟩ := DkAll.reads I hd rv
  refine repr_of_reads' (as := p :: as) (Reads.list h1 rfl rfl (by simpa using ra)) hs (fun _ m => ?_) hA (by omega) (fun b o e => e) ?_ hz
  · cases m with
    | head => exact np rfl
    | tail _ m => exact hsm m
  · intro h' u tk hk
    exact ⟨.str _, H, I.kept hk, ⟨u, rfl⟩, q1⟩
/-- [..]: the new list is no table of modules -/
def NewS (xs : List V) (H : Hp) (Q : VK) : Prop := xs.length ≤ sizeLine ∧ ∀ p, H p = none → p ≠ sysModules → Q (.ref p) (upd H p (.lst xs))
def tLstS (t : TA) : TE := fun σ H Q => t σ H fun xs H1 => NewS xs H1 Q
theorem pe_lstS {es : List Expr} {pos : Pos} {t : TA} (h : PA X es t) : PE X (.List es pos) (tLstS t) := by
  refine ⟨fun pins s σ H Q I hq => ?_⟩
  refine wpAny_List_spliced (thn (h.run pos pins s σ H _ I hq) fun us s1 ⟨xs, H1, I1, r, z, q⟩ => ⟨by rw [← r.length]; exact z, ?_⟩)
  have hf : H1 s1.heap.objs.size = none := I1.hok.fresh (Nat.le_refl _)
  refine ⟨.ref s1.heap.objs.size, upd H1 s1.heap.objs.size (.lst xs), I1.laid (t' := s1.toks) (fun b u e => Heap.get?_push_of_some _ e) (Nat.le_refl _) ?_, rfl, q _ hf (Ne.symm (Nat.ne_of_lt I1.big))⟩
  exact ⟨z, us, 0, r, Heap.get?_push_size _ rfl⟩
theorem g_newS {xs : List V} {H : Hp} {Q : VK} (hl : xs.length ≤ sizeLine) (q : ∀ p H2, H p = none → p ≠ sysModules → Same H H2 → H2 p = some (.lst xs) → Q (.ref p) H2) : NewS xs H Q :=
  ⟨hl, fun p hp np => q p _ hp np (same_new hp) upd_same⟩
theorem g_dnew {H : Hp} {σ : L2.St} {Q : VK} (q : ∀ p H2, H p = none → Same H H2 → H2 p = some (.dK []) → Q (.ref p) H2) : tDNewK σ H Q := fun p hp => q p _ hp (same_new hp) upd_same
end
end Mf
namespace Mf
open PySem PySem.Spec PySem.Calls PyProof.Rows L2
section
variable {K : PySem.W.Frag} {σ : L2.St} {H : Hp} {Q : VK} {te : TE} {t : TA} {f : Str} {c : Cn} {C : Addr} {fs : List Str}
theorem g_lstS (q : t σ H fun xs H1 => NewS xs H1 Q) : tLstS t σ H Q := q
def XAt (K : PySem.W.Frag) (f : Str) (x : V) (H1 : Hp) (Q : VK) : Prop := ∃ (a C : Addr) (fs : List (Str × V)) (v : V), x = .ref a ∧ Erc K C ∧ PySem.W.findIn K (.ref C) f = some none ∧ Er H1 a C fs ∧ fs.lookup f = some v ∧ Q v H1
theorem g_xat (q : te σ H fun x H1 => XAt K f x H1 Q) : tXat K f te σ H Q := q
def MkX (C : Addr) (fs : List Str) (vs : List V) (H1 : Hp) (Q : VK) : Prop := vs.length = fs.length ∧ ∀ a H2, H1 a = none → Same H1 H2 → Er H2 a C (fs.zip vs).reverse → Q (.ref a) H2
def MkXk (C : Addr) (fs : List Str) (vs : List V) (H1 : Hp) (Q : VK) : Prop := vs.length = fs.length ∧ ∀ a H2, H1 a = none → Same H1 H2 → Er H2 a C (fs.zip vs.reverse).reverse → Q (.ref a) H2
theorem g_mkX (q : t σ H fun vs H1 => MkX C fs vs H1 Q) : tMkX c C fs t σ H Q := q
theorem g_mkXk (q : t σ H fun vs H1 => MkXk C fs vs H1 Q) : tMkXk c C fs t σ H Q := q
end
section
variable {K : PySem.W.Frag} {σ : L2.St} {H : Hp} {Q : VK}
/-- a statement whose end is told apart -/
theorem g_seqJ {s1 s2 : TS} {D : Ends} (Pv : L2.St → Hp → Prop) (h1 : ∀ nx : L2.St → Hp → Prop, (∀ σ H, Pv σ H → nx σ H) → s1 ⟨nx, D.rt, D.bk, D.ct⟩ σ H) (h2 : ∀ σ H, Pv σ H → s2 D σ H) : tSeq s1 s2 D σ H := h1 _ h2
end
/-- errors of a part, one class behind another from C i on -/
inductive ErL (C : Nat → Addr) (v : V) (H : Hp) : Nat → List V → Prop
  | nil (i : Nat) : ErL C v H i []
  | cons {i : Nat} {a : Addr} {l : List V} : Er H a (C i) [("part", v)] → ErL C v H (i + 1) l → ErL C v H i (.ref a :: l)
theorem ErL.go {C : Nat → Addr} {v : V} {H H' : Hp} (s : Same H H') : ∀ {l : List V} {i : Nat}, ErL C v H i l → ErL C v H' i l
  | _, _, .nil i => .nil i
  | _, _, .cons e t => .cons (e.go s) (t.go s)
theorem ErL.at {C : Nat → Addr} {v : V} {H : Hp} : ∀ {l : List V} {i k : Nat} {x : V}, ErL C v H i l → l[k]? = some x → ∃ a, x = .ref a ∧ Er H a (C (i + k)) [("part", v)]
  | _, i, k, x, .nil _, h => by cases k <;> cases h
  | _, i, 0, x, .cons (a := a) e t, h => by
    cases h
    exact ⟨a, rfl, e⟩
  | _, i, k + 1, x, .cons e t, h => by
    obtain ⟨a, e1, e2⟩ := ErL.at t (k := k) h
    refine ⟨a, e1, ?_⟩
    rw [show i + (k + 1) = i + 1 + k by omega]
    exact e2
/-- errors as they are drawn and raised: caught as C's base -/
theorem exm_of {K : PySem.W.Frag} {C F : Addr} (h : ClsAt K C (.ref F :: veT)) (g : ClsAt K F veT) : PySem.W.exmOne K (.ref C) (.ref F) = some true := by
  refine PySem.W.exm_ref ?_ g.hd g.ty ?_
  · show PySem.W.mroIn K F (.type "BaseException") = some true
    rw [g.mro]
    rfl
  · show PySem.W.mroIn K C (.ref F) = some true
    rw [h.mro, List.contains_cons, List.contains_cons, beq_self_eq_true, Bool.true_or, Bool.or_true]
end Mf
/-! defs that raise, where the guards are known -/
namespace Mf
open PySem PySem.Spec PyProof.Rows L2
section
variable {P : Program} {w : World} {K : PySem.W.Frag} {mg : Str → Option Value} {base : Heap}
theorem okGX {x qual : Str} {st : Stmt} {f : Addr} {fd : FuncData} {N ps : List Str} {k : Nat} {sp : Sp} (F : Fun K x qual st f fd) (S : FnScope N ps (defScope st))
    (len : ∀ vs H Q E, sp vs H Q E → vs.length = ps.length)
    (hbody : ∀ (cdv : Value) (A : Around) (outer : List Env) (s : Shared) (H : Hp) (vs : List V) (Q : VK) (E : XK),
      (A.deeper (envOfC qual (defScope st) s.heap.objs.size f cdv)).guards = some [] →
      Room k (A.deeper (envOfC qual (defScope st) s.heap.objs.size f cdv)) → sp vs H Q E →
      ∃ t, PSs (cxOf (L2.CX P w) P w K mg base N qual (defScope st) f cdv A outer s H E) (defBody st) t ∧
        t { nx := fun _ H' => Q .non H', rt := Q } (start N vs) H) :
    FnG P w K mg base (L2.CX P w) (k + 1) f fd ps sp := by
  obtain ⟨oc, od, kV, doc, pm, an, cdv, ct, osl, rfl, lk, hcd⟩ := F.ex
  refine ⟨len, ?_⟩
  intro A hA outer s H args us vs Q E hr e0 hb r hsp
  have KX : K.In s.heap := e0.mod.kin.keeps fun b o e => (e0.bs b o e).1
  have lim : s.heap.NoLimit := e0.mod.nolimit.keeps fun b o e => (e0.bs b o e).1
  have hl := len _ _ _ _ hsp
  have kinds : ∀ y ∈ ps.zip us, (defScope st).names.lookup y.1 = some .local ∨
      ((defScope st).names.lookup y.1 = some .cell ∧ ((cellsFrom (s.heap.objs.size + 1) (defScope st).names []).lookup y.1).isSome = true) := by
    intro y hy
    obtain ⟨n, v⟩ := y
    cases S.par n (List.of_mem_zip hy).1 with
    | inl q => exact Or.inl q
    | inr q => exact Or.inr ⟨q, PySem.W.cellsFrom_some _ _ _ (.inl q)⟩
  refine codeAny_call_function hr.depth (KX _ _ lk) rfl S.co S.gen rfl (PySem.W.codeRec_of KX hcd) (hb _ _ _ _ ?_)
  refine wpAny_newFunctionEnv_cells S.kind kinds ?_
  intro env he s1 x
  subst he
  refine ⟨lim.keeps x.toInCall.keep, codeAny_func ?_⟩
  have hAg : (A.deeper (envOfC qual (defScope st) s.heap.objs.size f cdv)).guards = some [] := hA
  obtain ⟨t, ht, hq⟩ := hbody cdv A outer s H vs Q E hAg (hr.deeper _) hsp
  have I := inv_start (CX := L2.CX P w) (mg := mg) (base := base) (N := N) (qual := qual) (f := f) (cd := cdv) (E := E) S hr.hd e0 hl r x
  refine wpAny_mono (ht.run [] s1 (start N vs) H _ I hq) ?_ (fun e s' hs => hs)
  intro fl s' hs
  cases fl with
  | ret u =>
    obtain ⟨v, σ', H', J, rv, q⟩ := hs
    exact ⟨v, H', J.os, J.bare, J.base, J.hok, rv, q⟩
  | next =>
    obtain ⟨σ', H', J, q⟩ := hs
    exact ⟨V.non, H', J.os, J.bare, J.base, J.hok, (rfl : Value.none = Value.none), q⟩
  | brk => obtain ⟨_, _, _, q⟩ := hs; exact False.elim q
  | cont => obtain ⟨_, _, _, q⟩ := hs; exact False.elim q
end
section
variable {X : Cx} {CX : CXT} {k : Nat} {f : Addr} {fd : FuncData} {ps : List Str} {sp : Sp} {E : L2.St → XK} {x : Str} {p pos : Pos} {e : Expr} {es : List Expr} {t : TA}
theorem run_fnGS {pins : List (Addr × Obj)} {σ : L2.St} {H : Hp} {s : Shared} {Q : VK} {us : List Value} {vs : List V} (F : FnG X.prog X.w X.K X.mg X.base CX k f fd ps sp) (hA : X.A.guards = some []) (hr : Room k X.A) (hb : Binds X.K fd ps []) (hx : PassesAt CX X σ (E σ))
    (I : Inv X pins σ H s) (r : Vals vs us) (h : sp vs H Q (E σ)) : wpAny (model X.prog X.w) X.A (call (.ref f) us) (EP X pins σ Q) X.xe s := by
  have hl : us.length = ps.length := by rw [← r.length]; exact F.size _ _ _ _ h
  have b := hb s us I.kIn (by rw [List.append_nil]; exact hl)
  rw [List.append_nil] at b
  refine wpAny_call (codeAny_mono (F.go X.A hA X.stack s H ⟨us, []⟩ us vs Q (E σ) hr I.env0 b r h) fun r s' hq => ?_)
  cases r with
  | error e => exact hx pins H s e s' I hq
  | ok fl => cases fl with
    | ret u => exact I.after hq
    | next => exact hq.elim
    | brk => exact hq.elim
    | cont => exact hq.elim
/-- f(e, ..), which may raise, where the guards are known -/
theorem pe_callGS (F : FnG X.prog X.w X.K X.mg X.base CX k f fd ps sp) (hA : X.A.guards = some []) (hr : Room k X.A) (hg : Gl X x) (hm : X.mg x = some (.ref f)) (hk : PySem.W.keepIn X.K (.ref f) = true) (hb : Binds X.K fd ps []) (hx : ∀ σ, PassesAt CX X σ (E σ))
    (ha : PA X (e :: es) t) (hdb : (x == ("__debug__" : Str)) = false := by decide) (he : starEach (e :: es) X.env = (false, eval e X.env) :: starEach es X.env := by rfl) (hpl : (backTo pos (starEach es X.env)).any (·.1) = false := by rfl) :
    PE X (.Call (.Name x p) (e :: es) [] pos) (tCallS sp E t) := by
  refine ⟨fun pins s σ H Q I h => ?_⟩
  refine wpAny_Call_Name_kw (ld_glob I hg hm ?_ hdb)
  refine PySem.W.callWith_K (h₀ := X.base) I.ok.mod.kin hk (thn (ha.run pos pins s σ H _ I h) fun us s1 ⟨vs, H1, I1, r, q⟩ => ⟨I1.kIn, ?_⟩) he hpl
  exact run_fnGS F hA hr hb (hx σ) I1 r q
end
end Mf
/-! a for over enumerate(e), e a tuple -/
namespace Mf
open PySem PySem.Spec PyProof.Rows L2
theorem enumT_new (l : Addr) (its : Array Value) : Meets (Builtin.«enumerate.__new__» ⟨[.type "enumerate", .ref l], []⟩) (fun _ R s => s.heap.IsTuple l its ∧
    R (.ok (.ret (.ref (s.heap.push { cls := .type "tuple_iterator", data := .fields #[.ref l, .int 0 0] }).objs.size)))
      { s with heap := (s.heap.push { cls := .type "tuple_iterator", data := .fields #[.ref l, .int 0 0] }).push { cls := .type "enumerate", data := .fields #[.none, .bool false, .ref s.heap.objs.size, rawInt 0, .none, .none] } }) :=
  .of_wp fun pg w A R s k => by
    obtain ⟨hp, g, d, tk, os⟩ := s
    obtain ⟨kT, k⟩ := k
    have hsub := sub_enumerate
    have qT : ∀ {A' : Around} {E : Value → Shared → Prop} {Q : Value → Shared → Prop}, Q (.ref hp.objs.size) ⟨hp.push { cls := .type "tuple_iterator", data := .fields #[.ref l, .int 0 0] }, g, d, tk, os⟩ → wpAny (model pg w) A' (pyIter (.ref l)) Q E ⟨hp, g, d, tk, os⟩ :=
      fun q => (begins_tuple l its).iter pg w _ _ ⟨hp, g, d, tk, os⟩ _ kT q
    have kT' : Heap.IsTuple (Shared.heap ⟨hp, g, d, tk, os⟩) l its := kT
    obtain ⟨ol, kl, kc, n, kd⟩ := kT'
    have kl' : (Shared.heap ⟨hp, g, d, tk, os⟩).get? l = some ol := kl
    wp_walk using qT
    refine wpAny_stack_any fun st => wpAny_pure ?_
    split
    · rename_i c _ _ _ _ _
      cases (c == Value.type "enumerate")
      · wp_walk using qT
        exact ⟨_, rfl, k⟩
      · wp_walk using qT
        exact ⟨_, rfl, k⟩
    · wp_walk using qT
      exact ⟨_, rfl, k⟩
theorem enumT_call {pg : Program} {w : World} {A : Around} {E : Value → Shared → Prop} {s : Shared} {l : Addr} {its : Array Value} {Q : Value → Shared → Prop} (kT : s.heap.IsTuple l its)
    (k : ∀ h', IsEnum h' (s.heap.objs.size + 1) s.heap.objs.size 0 .none → h'.IsTupleIter s.heap.objs.size l 0 → (∀ b o, s.heap.get? b = some o → h'.get? b = some o) → Q (.ref (s.heap.objs.size + 1)) { s with heap := h' }) :
    wpAny (model pg w) A (call (.type "enumerate") [.ref l]) Q E s := by
  refine callType_new F.called_enumerate (by decide) (F.typeCall_enumerate_1 _) (F.newCall_enumerate_1 _) (fun obj => F.args_object_init_2 obj _) F.entry_enumerate_new (enumT_new l its) ⟨kT, ?_⟩
  have hz : (s.heap.push { cls := .type "tuple_iterator", data := .fields #[.ref l, .int 0 0] }).objs.size = s.heap.objs.size + 1 := Heap.size_push ..
  show _ ∧ _
  rw [hz]
  have he : IsEnum ((s.heap.push { cls := .type "tuple_iterator", data := .fields #[.ref l, .int 0 0] }).push { cls := .type "enumerate", data := .fields #[.none, .bool false, .ref s.heap.objs.size, rawInt 0, .none, .none] })
      (s.heap.objs.size + 1) s.heap.objs.size 0 .none := by
    have := Heap.get?_push_size (s.heap.push { cls := .type "tuple_iterator", data := .fields #[.ref l, .int 0 0] }) (o := { cls := .type "enumerate", data := .fields #[.none, .bool false, .ref s.heap.objs.size, rawInt 0, .none, .none] }) rfl
    rw [hz] at this
    exact this
  exact ⟨⟨_, he, rfl⟩, k _ he ⟨_, Heap.get?_push_of_some _ (Heap.get?_push_size _ rfl), rfl, rfl⟩ fun b o x => Heap.get?_push_of_some _ (Heap.get?_push_of_some _ x)⟩
/-- the tuple at a, each item in a new pair -/
def IteT (K : PySem.W.Frag) (a : Addr) : It :=
  ⟨fun i H => ∃ (xs : List V) (x : V), SqT K H a xs ∧ xs[i]? = some x, fun i H v H' => ∃ T x, v = .ref T ∧ H T = none ∧ H' = upd H T (.tup [.int (i : Nat), x]) ∧ ∀ xs, SqT K H a xs → xs[i]? = some x,
    fun i H => ∃ xs : List V, SqT K H a xs ∧ xs.length ≤ i⟩
theorem enumT_turn {P : Program} {w : World} {K : PySem.W.Frag} {elts : List Expr} {kk : Nat} {tpos : Pos} (a e it : Addr) :
    Turn P w K (.Tuple elts kk tpos) (IteT K a) [e, it] e (fun i h => (∃ old, IsEnum h e it ((i : Nat) : Int) old) ∧ h.IsTupleIter it a i ∧ e ≠ it) where
  mem := by simp
  obj := fun i h st b hb => by
    obtain ⟨⟨old, he⟩, ⟨o, ho, hc, hd⟩, _⟩ := st
    have e' : b = e ∨ b = it := by simpa using hb
    rcases e' with z | z
    · rw [z]; exact ⟨_, he, fun v q => nomatch q⟩
    · rw [z]; exact ⟨o, ho, fun v q => by rw [hd] at q; cases q⟩
  keep := fun i h h' st k => let ⟨⟨old, he⟩, hi, hne⟩ := st; ⟨⟨old, k e (by simp) _ he⟩, hi.at fun o q => k it (by simp) o q, hne⟩
  item := by
    intro X hP hw hK hc i pins s σ H E I hf st hg
    subst hP hw hK
    obtain ⟨⟨old, he⟩, hit, hne⟩ := st
    obtain ⟨xs, x, hq, hx⟩ := hg
    obtain ⟨its, rv, p, hz⟩ := I.tuple hq
    obtain ⟨u, hu, ru⟩ := rv.get hx
    have pT : s.heap.IsTuple a its.toArray := p
    have hel : e < s.heap.objs.size := Heap.lt_size he
    have hil : it < s.heap.objs.size := by obtain ⟨_, q, _⟩ := hit; exact Heap.lt_size q
    have nat : a ≠ it := fun z => by
      obtain ⟨o1, q1, c1, _⟩ := pT
      obtain ⟨o2, q2, c2, _⟩ := hit
      rw [z, q2] at q1
      cases q1
      rw [c1] at c2
      exact absurd c2 (by decide)
    have nae : a ≠ e := fun z => by
      obtain ⟨o1, q1, c1, _⟩ := pT
      rw [z, he] at q1
      cases q1
      have c2 : Value.type "enumerate" = Value.type "tuple" := c1
      exact absurd c2 (by decide)
    have hi2 : i < its.toArray.size := by
      have : i < its.length := (List.getElem?_eq_some_iff.mp hu).1
      simpa using this
    refine wpAny_pyNext_enum_itemD (Draws.tuple (show X.A.in1.handled = none from I.ok.hd hc) it a nat its.toArray) he ⟨hit, pT⟩ hi2 hne (fun z => by
      rcases List.mem_cons.mp z with z | z
      · exact hne z
      · exact nae (List.mem_singleton.mp z).symm) fun x2 h' tk hP2 ho hst hT hsz hk => ?_
    obtain ⟨hit', _⟩ := hst
    obtain rfl : x2 = u := by
      have z : its.toArray[i]? = some x2 := hP2
      rw [show its.toArray[i]? = some u by simpa using hu] at z
      exact (Option.some.inj z).symm
    refine ⟨_, rfl, wpAny_letOwnedTupleGo_enum (s := { s with heap := h', toks := tk + 1 }) ho fun h'' he' sb => ?_⟩
    have hT2 : h''.get? s.heap.objs.size = some { cls := .type "tuple", data := .seq #[.int i tk, x2] } := (sb.2 _ (Nat.ne_of_gt hel)).trans hT
    have new : ObjOk X.prog X.w (upd H s.heap.objs.size (.tup [.int (i : Nat), x])) h'' s.heap.objs.size (.tup [.int (i : Nat), x]) :=
      ⟨by show 2 ≤ sizeLine; decide, [.int i tk, x2], .cons ⟨_, rfl⟩ (.cons ru .nil), ⟨_, hT2, rfl, _, rfl⟩⟩
    have I1 : Inv X pins σ (upd H s.heap.objs.size (.tup [.int (i : Nat), x])) { s with heap := h'', toks := tk + 1 } :=
      I.turnedNew (ch := [e, it]) (fun b ob hb q => (sb.2 b (fun z => hb (by simp [z]))).trans (hk b ob (fun z => hb (by simp [z])) (fun z => hb (by simp [z])) q)) hf (Nat.le_refl _) new
    refine ⟨.ref s.heap.objs.size, _, I1, rfl, ⟨_, x, rfl, I.hok.fresh (Nat.le_refl _), rfl, fun ys hy => by rw [I.tuple_inj hy hq]; exact hx⟩, ⟨⟨x2, ?_⟩, hit'.at fun o q => (sb.2 it (Ne.symm hne)).trans q, hne⟩, fun b hb => ?_⟩
    · have e1 : ((i + 1 : Nat) : Int) = (i : Int) + 1 := by omega
      rw [e1]; exact he'
    · have hb' : b < s.heap.objs.size := by
        have e' : b = e ∨ b = it := by simpa using hb
        rcases e' with z | z
        · rw [z]; exact hel
        · rw [z]; exact hil
      rw [upd_ne (Nat.ne_of_lt hb')]
      exact (hf b hb).1
  done := by
    intro X hP hw hK hc i pins s σ H E I hf st hg
    subst hP hw hK
    obtain ⟨⟨old, he⟩, hit, hne⟩ := st
    obtain ⟨xs, hq, hx⟩ := hg
    obtain ⟨its, rv, p, hz⟩ := I.tuple hq
    obtain ⟨f0, f1, f2, f3, f4, f5⟩ := hf it (by simp)
    have hl := rv.length
    have pT : s.heap.IsTuple a its.toArray := p
    have nat : a ≠ it := fun z => by
      obtain ⟨o1, q1, c1, _⟩ := pT
      obtain ⟨o2, q2, c2, _⟩ := hit
      rw [z, q2] at q1
      cases q1
      rw [c1] at c2
      exact absurd c2 (by decide)
    unfold pyNext
    have hT : s.TypeIs (.ref e) "enumerate" := ⟨_, he, rfl⟩
    refine wpAny_bind (wpAny_attempt (wpAny_callSpecial?_slot (name := Str.ofString "__next__") hT F.slot_enumerate_next
      (wpAny_call_entry F.slot_enumerate_next hT F.entry_enumerate_next ?_ (F.args_enumerate_next_1 _))))
    show wpAny _ _ (field (.ref e) 2 >>= _) _ _ _
    refine wpAny_bind (wpAny_field he rfl (x := .ref it) rfl ?_)
    refine wpAny_bind (wpAny_nextOf_tuple_end (show X.A.in1.handled = none from I.ok.hd hc) hit pT (by simp; omega) fun h' x he' hx' => ?_)
    obtain ⟨o, ho, hcx⟩ := hx'
    refine wpAny_bind (wpAny_isInstance (T := "StopIteration") (b := true) ⟨o, ho, hcx⟩ isSubtype_stop ?_)
    exact wpAny_pure ⟨rfl, I.turned (t' := s.toks) (fun b o hb q => he' b o hb q) f0 f1 f3 f4 f5⟩
  self := fun A i s Q E st h => let ⟨⟨_, he⟩, _⟩ := st; wpAny_pyIter_enum he h
def iEnumT (K : PySem.W.Frag) (ta : TA) : TI := fun σ H R => ta σ H fun vs H1 => ∃ a xs, vs = [.ref a] ∧ SqT K H1 a xs ∧ R (IteT K a) H1
theorem pi_enumT {X : Cx} {e : Expr} {ta : TA} {p pos tpos : Pos} {elts : List Expr} {kk : Nat} (hg : Gl X "enumerate") (hm : X.mg "enumerate" = none) (ha : PA X [e] ta) (hs : starEach [e] X.env = [(false, eval e X.env)] := by rfl) :
    PI X (.Tuple elts kk tpos) (.Call (.Name "enumerate" p) [e] [] pos) (iEnumT X.K ta) := by
  refine ⟨fun pins s σ H R I h => ?_⟩
  refine Call_ (ld_blt I hg hm boot_enumerate (PyProof.Rows.callWith_type1 (thn (ha.run pos pins s σ H _ I h) fun us s1 ⟨vs, H1, I1, r1, q1⟩ => ?_) hs rfl))
  obtain ⟨a, xs, ex, hq, q⟩ := q1
  subst ex
  cases r1 with
  | cons r rr =>
    cases rr
    cases r
    obtain ⟨its, rv, p', hz⟩ := I1.tuple hq
    refine enumT_call (show s1.heap.IsTuple a its.toArray from p') fun h' he hit hk => wpAny_pyIter_enum he ?_
    have I2 : Inv X pins σ H1 { s1 with heap := h' } := I1.kept (t' := s1.toks) hk
    refine ⟨s1.heap.objs.size + 1, [s1.heap.objs.size + 1, s1.heap.objs.size], _, _, H1, rfl, I2, enumT_turn a (s1.heap.objs.size + 1) s1.heap.objs.size, ⟨⟨.none, he⟩, hit, Nat.succ_ne_self _⟩, fun b hb => ?_, q⟩
    have e' : b = s1.heap.objs.size + 1 ∨ b = s1.heap.objs.size := by simpa using hb
    have hle : s1.heap.objs.size ≤ b := by
      rcases e' with z | z
      · rw [z]; exact Nat.le_add_right _ _
      · rw [z]; exact Nat.le_refl _
    exact I1.fpOk hle (I1.hok.fresh hle)
end Mf
namespace Mf
/-! ### polynomials as lists of fractions: the mathematics -/
def co (l : List Rat) (i : Nat) : Rat := l.getD i 0
theorem co_ge {l : List Rat} {i : Nat} (h : l.length ≤ i) : co l i = 0 := by
  unfold co
  rw [List.getD_eq_getElem?_getD, List.getElem?_eq_none h]
  rfl
theorem co_get {l : List Rat} {i : Nat} (h : i < l.length) : co l i = l[i] := by
  unfold co
  rw [List.getD_eq_getElem?_getD, List.getElem?_eq_getElem h]
  rfl
theorem co_some {l : List Rat} {i : Nat} {r : Rat} (h : l[i]? = some r) : co l i = r := by
  unfold co
  rw [List.getD_eq_getElem?_getD, h]
  rfl
theorem co_set {l : List Rat} {k n : Nat} {x : Rat} (h : k < l.length) : co (l.set k x) n = if n = k then x else co l n := by
  unfold co
  rw [List.getD_eq_getElem?_getD, List.getD_eq_getElem?_getD, List.getElem?_set]
  by_cases e : k = n
  · subst e
    rw [if_pos rfl, if_pos rfl, if_pos h]
    rfl
  · rw [if_neg e, if_neg (fun z => e z.symm)]
theorem co_take {l : List Rat} {k n : Nat} (h : n < k) : co (l.take k) n = co l n := by
  unfold co
  rw [List.getD_eq_getElem?_getD, List.getD_eq_getElem?_getD, List.getElem?_take, if_pos h]
theorem co_take' {l : List Rat} {k n : Nat} (h : k ≤ n) : co (l.take k) n = 0 := co_ge (by rw [List.length_take]; omega)
theorem co_append {l m : List Rat} {n : Nat} : co (l ++ m) n = if n < l.length then co l n else co m (n - l.length) := by
  unfold co
  simp only [List.getD_eq_getElem?_getD, List.getElem?_append]
  split <;> rfl
theorem co_nil {n : Nat} : co [] n = 0 := co_ge (Nat.zero_le _)
theorem co_map {f : Nat → Rat} {m n : Nat} (h : n < m) : co ((List.range m).map f) n = f n := by
  rw [co_get (by simpa using h)]
  simp
theorem ext_co {a b : List Rat} (hl : a.length = b.length) (h : ∀ i, co a i = co b i) : a = b := by
  refine List.ext_getElem hl fun i h1 h2 => ?_
  have := h i
  rw [co_get h1, co_get h2] at this
  exact this
/-- how long it is without zeros at its end, looked at up to n -/
def tlen (l : List Rat) : Nat → Nat
  | 0 => 0
  | n + 1 => if co l n = 0 then tlen l n else n + 1
def trimR (l : List Rat) : List Rat := l.take (tlen l l.length)
theorem tlen_le (l : List Rat) : ∀ n, tlen l n ≤ n
  | 0 => Nat.le_refl _
  | n + 1 => by
    unfold tlen
    split
    · exact Nat.le_succ_of_le (tlen_le l n)
    · exact Nat.le_refl _
theorem tlen_zero (l : List Rat) : ∀ n i, tlen l n ≤ i → i < n → co l i = 0
  | 0, i, _, h => absurd h (Nat.not_lt_zero _)
  | n + 1, i, h, h2 => by
    unfold tlen at h
    split at h
    · rename_i e
      by_cases z : i = n
      · rw [z]; exact e
      · exact tlen_zero l n i h (by omega)
    · omega
theorem tlen_last (l : List Rat) : ∀ n, tlen l n ≠ 0 → co l (tlen l n - 1) ≠ 0
  | 0, h => absurd rfl h
  | n + 1, h => by
    unfold tlen at h ⊢
    by_cases e : co l n = 0
    · rw [if_pos e] at h ⊢
      exact tlen_last l n h
    · rw [if_neg e]
      exact e
theorem len_trim (l : List Rat) : (trimR l).length = tlen l l.length := by
  unfold trimR
  rw [List.length_take]
  have := tlen_le l l.length
  omega
theorem len_trim_le (l : List Rat) : (trimR l).length ≤ l.length := by
  rw [len_trim]
  exact tlen_le _ _
theorem co_trim (l : List Rat) (i : Nat) : co (trimR l) i = co l i := by
  by_cases h : i < tlen l l.length
  · exact co_take h
  · rw [show co (trimR l) i = 0 from co_take' (by omega)]
    by_cases h2 : i < l.length
    · exact (tlen_zero l l.length i (by omega) h2).symm
    · exact (co_ge (by omega)).symm
/-- no zero at the end -/
def Tr (l : List Rat) : Prop := l ≠ [] → co l (l.length - 1) ≠ 0
theorem tr_trim (l : List Rat) : Tr (trimR l) := by
  intro h
  rw [co_trim, len_trim]
  refine tlen_last l _ fun z => h ?_
  refine List.length_eq_zero_iff.mp ?_
  rw [len_trim, z]
theorem Tr.le {a b : List Rat} (ha : Tr a) (h : ∀ i, co a i = co b i) : a.length ≤ b.length := by
  by_cases e : a = []
  · rw [e]; exact Nat.zero_le _
  · have h1 := ha e
    rw [h] at h1
    have h2 : 0 < a.length := List.length_pos_iff.mpr e
    by_cases z : a.length - 1 < b.length
    · omega
    · exact absurd (co_ge (by omega)) h1
theorem Tr.ext {a b : List Rat} (ha : Tr a) (hb : Tr b) (h : ∀ i, co a i = co b i) : a = b :=
  ext_co (Nat.le_antisymm (ha.le h) (hb.le fun i => (h i).symm)) h
theorem Tr.trim {a : List Rat} (ha : Tr a) : trimR a = a := (tr_trim a).ext ha (co_trim a)
theorem trim_eq {a b : List Rat} (h : ∀ i, co a i = co b i) : trimR a = trimR b := (tr_trim a).ext (tr_trim b) fun i => by rw [co_trim, co_trim, h]
theorem mem_trim {l : List Rat} {r : Rat} (h : r ∈ trimR l) : r ∈ l := List.mem_of_mem_take h
/-- sums of products: i of them -/
def cs (a b : Nat → Rat) : Nat → Nat → Rat
  | 0, _ => 0
  | i + 1, n => cs a b i n + (if i ≤ n then a i * b (n - i) else 0)
theorem cs_succ (a b : Nat → Rat) (i n : Nat) : cs a b (i + 1) n = cs a b i n + (if i ≤ n then a i * b (n - i) else 0) := rfl
theorem cs_stop (a b : Nat → Rat) {m n : Nat} (h : ∀ k, m ≤ k → k ≤ n → a k * b (n - k) = 0) : ∀ i, m ≤ i → cs a b i n = cs a b m n
  | 0, hi => by
    have : m = 0 := by omega
    rw [this]
  | i + 1, hi => by
    by_cases e : m = i + 1
    · rw [e]
    · rw [cs_succ, cs_stop a b h i (by omega)]
      split
      · rename_i z
        rw [h i (by omega) z, Rat.add_zero]
      · rw [Rat.add_zero]
/-- a number of a product -/
def pc (a b : Nat → Rat) (n : Nat) : Rat := cs a b (n + 1) n
theorem cs_pc (a b : Nat → Rat) (n m : Nat) (h : ∀ k, m ≤ k → a k = 0) : cs a b m n = pc a b n := by
  have z : ∀ k, m ≤ k → k ≤ n → a k * b (n - k) = 0 := fun k h1 _ => by rw [h k h1, Rat.zero_mul]
  have z2 : ∀ k, n + 1 ≤ k → k ≤ n → a k * b (n - k) = 0 := fun k h1 h2 => by omega
  unfold pc
  by_cases e : m ≤ n + 1
  · rw [cs_stop a b z (n + 1) e]
  · rw [cs_stop a b z2 m (by omega)]
theorem cs_co (a : List Rat) (b : Nat → Rat) (n : Nat) : cs (co a) b a.length n = pc (co a) b n := cs_pc _ _ _ _ fun k h => co_ge h
theorem pc_congr {a a' b b' : Nat → Rat} (h1 : ∀ i, a i = a' i) (h2 : ∀ i, b i = b' i) (n : Nat) : pc a b n = pc a' b' n := by
  rw [funext h1, funext h2]
theorem pc_zero {a b : List Rat} {n : Nat} (h : a.length + b.length - 1 ≤ n) : pc (co a) (co b) n = 0 := by
  have key : ∀ i, cs (co a) (co b) i n = 0 := by
    intro i
    induction i with
    | zero => rfl
    | succ i ih =>
      unfold cs
      rw [ih, Rat.zero_add]
      split
      · by_cases e : a.length ≤ i
        · rw [co_ge e, Rat.zero_mul]
        · rw [co_ge (l := b) (by omega), Rat.mul_zero]
      · rfl
  exact key _
theorem cs_add_left (a a' b : Nat → Rat) (n : Nat) : ∀ i, cs (fun k => a k + a' k) b i n = cs a b i n + cs a' b i n
  | 0 => by show (0 : Rat) = 0 + 0; rw [Rat.add_zero]
  | i + 1 => by
    unfold cs
    rw [cs_add_left a a' b n i]
    split <;> grind
theorem pc_sub_left (a a' b : Nat → Rat) (n : Nat) : pc (fun k => a k - a' k) b n = pc a b n - pc a' b n := by
  have key : ∀ i, cs (fun k => a k - a' k) b i n = cs a b i n - cs a' b i n := by
    intro i
    induction i with
    | zero => show (0 : Rat) = 0 - 0; grind
    | succ i ih =>
      unfold cs
      rw [ih]
      split <;> grind
  exact key _
/-- one number of the first one is put in -/
theorem pc_set {a a' b : Nat → Rat} {s : Nat} {x : Rat} (h0 : a s = 0) (h1 : a' s = x) (h2 : ∀ k, k ≠ s → a' k = a k) (n : Nat) : pc a' b n = pc a b n + (if s ≤ n then x * b (n - s) else 0) := by
  have key : ∀ i, cs a' b i n = cs a b i n + (if s < i then (if s ≤ n then x * b (n - s) else 0) else 0) := by
    intro i
    induction i with
    | zero => show (0 : Rat) = 0 + _; rw [if_neg (Nat.not_lt_zero _)]; grind
    | succ i ih =>
      rw [cs_succ, cs_succ, ih]
      by_cases e : i = s
      · subst e
        rw [h1, h0, if_neg (Nat.lt_irrefl i), if_pos (Nat.lt_succ_self i)]
        split <;> grind
      · rw [h2 i e]
        by_cases z : s < i
        · have z2 : s < i + 1 := by omega
          simp only [if_pos z, if_pos z2]
          split <;> split <;> grind
        · have z2 : ¬ s < i + 1 := by omega
          simp only [if_neg z, if_neg z2]
          split <;> grind
  unfold pc
  rw [key]
  by_cases e : s ≤ n
  · rw [if_pos (by omega)]
  · rw [if_neg e, if_neg (by omega : ¬ s < n + 1)]
/-- the product -/
def conv (a b : List Rat) : List Rat := (List.range (a.length + b.length - 1)).map (pc (co a) (co b))
theorem len_conv (a b : List Rat) : (conv a b).length = a.length + b.length - 1 := by simp [conv]
theorem co_conv (a b : List Rat) (n : Nat) : co (conv a b) n = pc (co a) (co b) n := by
  by_cases h : n < a.length + b.length - 1
  · exact co_map h
  · rw [co_ge (by rw [len_conv]; omega), pc_zero (by omega)]
def padd (a b : List Rat) : List Rat := (List.range (max a.length b.length)).map fun n => co a n + co b n
theorem len_padd (a b : List Rat) : (padd a b).length = max a.length b.length := by simp [padd]
theorem co_padd (a b : List Rat) (n : Nat) : co (padd a b) n = co a n + co b n := by
  by_cases h : n < max a.length b.length
  · exact co_map h
  · rw [co_ge (by rw [len_padd]; omega), co_ge (l := a) (by omega), co_ge (l := b) (by omega)]
    grind
/-- dividing is unique -/
theorem div_uniq {b : List Rat} (hb : b ≠ []) (hl : co b (b.length - 1) ≠ 0) {d e : Nat → Rat} {N : Nat} (hd : ∀ k, N ≤ k → d k = 0) (he : ∀ k, b.length - 1 ≤ k → e k = 0)
    (h : ∀ n, pc d (co b) n + e n = 0) : (∀ k, d k = 0) ∧ ∀ k, e k = 0 := by
  have hb0 : 0 < b.length := List.length_pos_iff.mpr hb
  have top : ∀ j k, N ≤ k + j → d k = 0 := by
    intro j
    induction j with
    | zero => exact fun k hk => hd k hk
    | succ j ih =>
      intro k hk
      have h1 := h (k + (b.length - 1))
      rw [he _ (by omega), Rat.add_zero] at h1
      have h2 : pc d (co b) (k + (b.length - 1)) = d k * co b (b.length - 1) := by
        rw [← cs_pc d (co b) (k + (b.length - 1)) (k + 1) fun i hi => ih i (by omega)]
        have low : ∀ i, i ≤ k → cs d (co b) i (k + (b.length - 1)) = 0 := by
          intro i
          induction i with
          | zero => intro _; rfl
          | succ i ih2 =>
            intro hi
            unfold cs
            rw [ih2 (by omega), if_pos (by omega), co_ge (l := b) (by omega)]
            grind
        unfold cs
        rw [low k (Nat.le_refl k), if_pos (by omega), Rat.zero_add, show k + (b.length - 1) - k = b.length - 1 by omega]
      rw [h2] at h1
      rcases Rat.mul_eq_zero.mp h1 with z | z
      · exact z
      · exact absurd z hl
  have d0 : ∀ k, d k = 0 := fun k => top N k (by omega)
  refine ⟨d0, fun k => ?_⟩
  have h1 := h k
  have h2 : pc d (co b) k = 0 := by
    rw [← cs_pc d (co b) k 0 fun i _ => d0 i]
    rfl
  rw [h2, Rat.zero_add] at h1
  exact h1
/-- slopes -/
def slp (a : Nat → Rat) (n : Nat) : Rat := ((n + 1 : Nat) : Rat) * a (n + 1)
theorem slp_cs (a b : Nat → Rat) (n : Nat) : ((n + 1 : Nat) : Rat) * pc a b (n + 1) = pc (slp a) b n + pc a (slp b) n := by
  have natc : ∀ x y : Nat, ((x + y : Nat) : Rat) = (x : Rat) + (y : Rat) := fun x y => Rat.natCast_add x y
  have k1 : ∀ i, i ≤ n + 1 → cs (fun k => (k : Rat) * a k) b (i + 1) (n + 1) = cs (slp a) b i n := by
    intro i
    induction i with
    | zero =>
      intro _
      show 0 + (if 0 ≤ n + 1 then ((0 : Nat) : Rat) * a 0 * b (n + 1 - 0) else 0) = 0
      rw [if_pos (Nat.zero_le _)]
      have : ((0 : Nat) : Rat) = 0 := rfl
      grind
    | succ i ih =>
      intro hi
      rw [show cs (fun k => (k : Rat) * a k) b (i + 1 + 1) (n + 1) = cs (fun k => (k : Rat) * a k) b (i + 1) (n + 1) + (if i + 1 ≤ n + 1 then ((i + 1 : Nat) : Rat) * a (i + 1) * b (n + 1 - (i + 1)) else 0) from rfl, ih (by omega)]
      show _ = cs (slp a) b i n + (if i ≤ n then slp a i * b (n - i) else 0)
      rw [if_pos hi, if_pos (by omega), show n + 1 - (i + 1) = n - i by omega]
      rfl
  have k2 : ∀ i, i ≤ n + 1 → cs a (fun k => (k : Rat) * b k) i (n + 1) = cs a (slp b) i n := by
    intro i
    induction i with
    | zero => intro _; rfl
    | succ i ih =>
      intro hi
      unfold cs
      rw [ih (by omega), if_pos (by omega), if_pos (by omega), show n + 1 - i = n - i + 1 by omega]
      rfl
  have k3 : ∀ i, i ≤ n + 2 → ((n + 1 : Nat) : Rat) * cs a b i (n + 1) = cs (fun k => (k : Rat) * a k) b i (n + 1) + cs a (fun k => (k : Rat) * b k) i (n + 1) := by
    intro i
    induction i with
    | zero =>
      intro _
      show _ * (0 : Rat) = 0 + 0
      grind
    | succ i ih =>
      intro hi
      unfold cs
      rw [if_pos (by omega), if_pos (by omega), if_pos (by omega)]
      have e := ih (by omega)
      have e2 : ((n + 1 : Nat) : Rat) = (i : Rat) + ((n + 1 - i : Nat) : Rat) := by
        rw [← natc, show i + (n + 1 - i) = n + 1 by omega]
      grind
  have e := k3 (n + 2) (Nat.le_refl _)
  rw [k1 (n + 1) (Nat.le_refl _)] at e
  have e3 : cs a (fun k => (k : Rat) * b k) (n + 2) (n + 1) = cs a (slp b) (n + 1) n := by
    show cs a (fun k => (k : Rat) * b k) (n + 1) (n + 1) + (if n + 1 ≤ n + 1 then a (n + 1) * (((n + 1 - (n + 1) : Nat) : Rat) * b (n + 1 - (n + 1))) else 0) = _
    rw [k2 (n + 1) (Nat.le_refl _), if_pos (Nat.le_refl _), show n + 1 - (n + 1) = 0 by omega]
    have : ((0 : Nat) : Rat) = 0 := rfl
    grind
  rw [e3] at e
  exact e
def slope (l : List Rat) : List Rat := (List.range (l.length - 1)).map (slp (co l))
theorem len_slope (l : List Rat) : (slope l).length = l.length - 1 := by simp [slope]
theorem co_slope (l : List Rat) (n : Nat) : co (slope l) n = slp (co l) n := by
  by_cases h : n < l.length - 1
  · exact co_map h
  · rw [co_ge (by rw [len_slope]; omega)]
    unfold slp
    rw [co_ge (l := l) (by omega)]
    grind
end Mf
namespace Mf
open PySem PySem.Spec PyProof.Rows L2
/-! ### lists of reduced fractions on the heap -/
/-- all tuples stay -/
def KeepT (H H' : Hp) : Prop := ∀ b xs, H b = some (.tup xs) → H' b = some (.tup xs)
theorem Same.kt {H H' : Hp} (s : Same H H') : KeepT H H' := fun b xs e => s b _ e
theorem KeepT.refl (H : Hp) : KeepT H H := fun _ _ e => e
theorem KeepT.trans {H H1 H2 : Hp} (a : KeepT H H1) (b : KeepT H1 H2) : KeepT H H2 := fun c xs e => b c xs (a c xs e)
theorem SameX.kt {K : PySem.W.Frag} {q : Addr} {t : Int} {H H' : Hp} (s : SameX q H H') (hq : Qy K q t H) : KeepT H H' := fun b xs e => by
  refine s.kept b _ (fun z => ?_) e
  obtain ⟨c, ns, r, h1, _⟩ := hq
  rw [z, h1] at e
  cases e
theorem upd_kt {H : Hp} {D : Addr} {acc : List V} {o : HO} (e : H D = some (.lst acc)) : KeepT H (upd H D o) := fun b xs eb => by
  rw [upd_ne (fun z => by rw [z, e] at eb; cases eb)]
  exact eb
inductive TL (H : Hp) : List V → List Rat → Prop
  | nil : TL H [] []
  | cons {a : Addr} {r : Rat} {vs : List V} {rs : List Rat} : H a = some (.tup (rv r)) → TL H vs rs → TL H (.ref a :: vs) (r :: rs)
theorem TL.go {H H' : Hp} (s : KeepT H H') : ∀ {vs : List V} {rs : List Rat}, TL H vs rs → TL H' vs rs
  | _, _, .nil => .nil
  | _, _, .cons e t => .cons (s _ _ e) (TL.go s t)
theorem TL.len {H : Hp} : ∀ {vs : List V} {rs : List Rat}, TL H vs rs → vs.length = rs.length
  | _, _, .nil => rfl
  | _, _, .cons _ t => congrArg Nat.succ (TL.len t)
theorem TL.get {H : Hp} : ∀ {vs : List V} {rs : List Rat} {i : Nat} {v : V}, TL H vs rs → vs[i]? = some v → ∃ a, v = .ref a ∧ H a = some (.tup (rv (co rs i))) ∧ rs[i]? = some (co rs i)
  | _, _, _, _, .nil, h => by cases h
  | _, _, 0, _, .cons e _, h => by
    cases h
    exact ⟨_, rfl, e, rfl⟩
  | _, _, i + 1, v, .cons e t, h => by
    obtain ⟨a, h1, h2, h3⟩ := TL.get (i := i) (v := v) t h
    exact ⟨a, h1, h2, h3⟩
theorem TL.at {H : Hp} {vs : List V} {rs : List Rat} {i : Nat} (h : TL H vs rs) (hi : i < rs.length) : ∃ a, vs[i]? = some (.ref a) ∧ H a = some (.tup (rv (co rs i))) := by
  have : i < vs.length := by rw [h.len]; exact hi
  obtain ⟨a, h1, h2, _⟩ := h.get (List.getElem?_eq_getElem this)
  exact ⟨a, by rw [List.getElem?_eq_getElem this, h1], h2⟩
theorem TL.snoc {H : Hp} {a : Addr} {r : Rat} (e : H a = some (.tup (rv r))) : ∀ {vs : List V} {rs : List Rat}, TL H vs rs → TL H (vs ++ [.ref a]) (rs ++ [r])
  | _, _, .nil => .cons e .nil
  | _, _, .cons g t => .cons g (TL.snoc e t)
theorem TL.app {H : Hp} : ∀ {vs ws : List V} {rs ss : List Rat}, TL H vs rs → TL H ws ss → TL H (vs ++ ws) (rs ++ ss)
  | _, _, _, _, .nil, h => h
  | _, _, _, _, .cons e t, h => .cons e (TL.app t h)
theorem TL.take {H : Hp} : ∀ {vs : List V} {rs : List Rat} (n : Nat), TL H vs rs → TL H (vs.take n) (rs.take n)
  | _, _, _, .nil => by rw [List.take_nil, List.take_nil]; exact .nil
  | _, _, 0, .cons _ _ => .nil
  | _, _, n + 1, .cons e t => .cons e (TL.take n t)
theorem TL.drop {H : Hp} : ∀ {vs : List V} {rs : List Rat} (n : Nat), TL H vs rs → TL H (vs.drop n) (rs.drop n)
  | _, _, _, .nil => by rw [List.drop_nil, List.drop_nil]; exact .nil
  | _, _, 0, .cons e t => .cons e t
  | _, _, n + 1, .cons e t => TL.drop n t
theorem TL.set {H : Hp} {a : Addr} {r : Rat} (e : H a = some (.tup (rv r))) : ∀ {vs : List V} {rs : List Rat} (k : Nat), TL H vs rs → TL H (vs.set k (.ref a)) (rs.set k r)
  | _, _, _, .nil => .nil
  | _, _, 0, .cons _ t => .cons e t
  | _, _, k + 1, .cons g t => .cons g (TL.set e k t)
theorem TL.rep {H : Hp} {a : Addr} {r : Rat} (e : H a = some (.tup (rv r))) : ∀ n : Nat, TL H (List.replicate n (.ref a)) (List.replicate n r)
  | 0 => .nil
  | n + 1 => .cons e (TL.rep e n)
theorem TL.nil_of {H : Hp} {rs : List Rat} (h : TL H [] rs) : rs = [] := by cases h; rfl
theorem TL.data {H : Hp} {q : Addr} {K : PySem.W.Frag} {acc : List V} (hq : H q = some (.lst acc)) : ∀ {vs : List V} {rs : List Rat}, TL H vs rs → DqAll q K H vs (rs.map rd)
  | _, _, .nil => .nil
  | _, _, .cons e t => .cons (.tup (fun z => by rw [z, hq] at e; cases e) (tupU e) (.cons (.int _) (.cons (.int _) .nil))) (TL.data hq t)
theorem TL.dp {H : Hp} {K : PySem.W.Frag} : ∀ {vs : List V} {rs : List Rat}, TL H vs rs → DpAll K H vs (rs.map rd)
  | _, _, .nil => .nil
  | _, _, .cons e t => .cons (.tup (tupU e) (.cons (.int _) (.cons (.int _) .nil))) (TL.dp t)
/-- all numbers below 2 ^ n -/
def RbL (n : Nat) (rs : List Rat) : Prop := ∀ r ∈ rs, Rb n r
theorem RbL.mono {m n : Nat} {rs : List Rat} (h : RbL m rs) (l : m ≤ n) : RbL n rs := fun r hr => (h r hr).mono l
theorem Rb0n {n : Nat} (h : 1 ≤ n) : Rb n 0 := Rb0.mono h
theorem RbL.co {n : Nat} {rs : List Rat} (h : RbL n rs) (hn : 1 ≤ n) (i : Nat) : Rb n (co rs i) := by
  by_cases e : i < rs.length
  · rw [co_get e]
    exact h _ (List.getElem_mem e)
  · rw [co_ge (by omega)]
    exact Rb0n hn
theorem RbL.of_co {n : Nat} {rs : List Rat} (h : ∀ i, i < rs.length → Rb n (Mf.co rs i)) : RbL n rs := by
  intro r hr
  obtain ⟨i, hi, e⟩ := List.getElem_of_mem hr
  rw [← e, ← co_get hi]
  exact h i hi
theorem RbL.trim {n : Nat} {rs : List Rat} (h : RbL n rs) : RbL n (trimR rs) := fun r hr => h r (mem_trim hr)
theorem RbL.take {n k : Nat} {rs : List Rat} (h : RbL n rs) : RbL n (rs.take k) := fun r hr => h r (List.mem_of_mem_take hr)
theorem RbL.drop {n k : Nat} {rs : List Rat} (h : RbL n rs) : RbL n (rs.drop k) := fun r hr => h r (List.mem_of_mem_drop hr)
theorem fr_tl {q : Addr} {K : PySem.W.Frag} {H : Hp} {a : Addr} {r : Rat} {n : Nat} (e : H a = some (.tup (rv r))) (b : Rb n r) : Fr (a + 1) K H (.ref a) r n := .tup (tupU e) (Nat.ne_of_lt (Nat.lt_succ_self a)) b
/-! ### repr and == of such lists -/
structure ShN (B W d : Nat) (x : PyData) : Prop where
  sh : x.showable = true
  lv : x.leavesShort B = true
  nd : x.hasDict = false
  ly : x.canLay0 = true
  wt : x.weight ≤ W
  dp : x.depth ≤ d
structure ShA (B W d : Nat) (xs : List PyData) : Prop where
  sh : PyData.showableAll xs = true
  lv : PyData.leavesShortAll B xs = true
  nd : PyData.hasDictAll xs = false
  ly : PyData.canLayAll0 xs = true
  wt : PyData.weightAll xs ≤ W
  dp : PyData.depthAll xs ≤ d
theorem ShN.mono {B W d W' d' : Nat} {x : PyData} (h : ShN B W d x) (w : W ≤ W') (e : d ≤ d') : ShN B W' d' x := ⟨h.sh, h.lv, h.nd, h.ly, Nat.le_trans h.wt w, Nat.le_trans h.dp e⟩
theorem sha_nil {B W d : Nat} : ShA B W d [] := ⟨rfl, rfl, rfl, rfl, Nat.zero_le _, Nat.zero_le _⟩
theorem sha_cons {B W W' d : Nat} {x : PyData} {xs : List PyData} (h : ShN B W d x) (t : ShA B W' d xs) : ShA B (W + 1 + W') d (x :: xs) := by
  refine ⟨?_, ?_, ?_, ?_, ?_, ?_⟩
  · show (x.showable && PyData.showableAll xs) = true
    rw [h.sh, t.sh] <;> rfl
  · show (x.leavesShort B && PyData.leavesShortAll B xs) = true
    rw [h.lv, t.lv] <;> rfl
  · show (x.hasDict || PyData.hasDictAll xs) = false
    rw [h.nd, t.nd] <;> rfl
  · show (x.canLay0 && PyData.canLayAll0 xs) = true
    rw [h.ly, t.ly] <;> rfl
  · have := h.wt
    have := t.wt
    simp only [PyData.weightAll]
    omega
  · have := h.dp
    have := t.dp
    simp only [PyData.depthAll]
    omega
theorem sha_tup {B W d : Nat} {xs : List PyData} (h : ShA B W d xs) : ShN B (W + 1) (d + 1) (.tuple xs) := by
  refine ⟨h.sh, h.lv, h.nd, h.ly, ?_, ?_⟩
  · have := h.wt
    rw [PyData.weight]
    omega
  · have := h.dp
    simp only [PyData.depth]
    omega
theorem sha_lst {B W d : Nat} {xs : List PyData} (h : ShA B W d xs) : ShN B (W + 1) (d + 1) (.list xs) := by
  refine ⟨h.sh, h.lv, h.nd, h.ly, ?_, ?_⟩
  · have := h.wt
    rw [PyData.weight]
    omega
  · have := h.dp
    simp only [PyData.depth]
    omega
theorem shn_int {i : Int} {n : Nat} (b : Bt n i) (hn : 1 ≤ n) (l : n ≤ 1900) : ShN (n + 1) n 1 (.int i) := by
  have lg : i.natAbs.log2 < n := by
    by_cases z : i.natAbs = 0
    · rw [z, Nat.log2_zero]
      omega
    · exact (Nat.log2_lt z).mpr b
  refine ⟨decide_eq_true (by omega), ?_, rfl, rfl, ?_, ?_⟩
  · show decide ((PyData.shown (.int i)).length ≤ n + 1) = true
    refine decide_eq_true ?_
    show (PySem.Str.ofString (toString i)).length ≤ n + 1
    rw [PySem.ofString_length]
    exact PySem.int_text_length_le (by omega) lg
  · show (if (i == 0) = true then 0 else i.natAbs.log2 + 1) ≤ n
    split <;> omega
  · simp [PyData.depth]
theorem shn_rd {r : Rat} {n : Nat} (b : Rb n r) (hn : 1 ≤ n) (l : n ≤ 1900) : ShN (n + 1) (2 * n + 3) 2 (rd r) :=
  (sha_tup (sha_cons (shn_int b.1 hn l) (sha_cons (shn_int b.2 hn l) (sha_nil (W := 0))))).mono (by omega) (Nat.le_refl _)
theorem sha_rds {n : Nat} (hn : 1 ≤ n) (l : n ≤ 1900) : ∀ {rs : List Rat}, RbL n rs → ShA (n + 1) (rs.length * (2 * n + 4)) 2 (rs.map rd)
  | [], _ => sha_nil
  | r :: rs, h => by
    have t := sha_rds hn l (rs := rs) fun x hx => h x (List.mem_cons_of_mem _ hx)
    have z := sha_cons (shn_rd (h r List.mem_cons_self) hn l) t
    refine ⟨z.sh, z.lv, z.nd, z.ly, ?_, z.dp⟩
    have w := z.wt
    rw [List.length_cons, Nat.succ_mul]
    show PyData.weightAll (rd r :: rs.map rd) ≤ _
    omega
theorem shn_poly {n L : Nat} (hn : 1 ≤ n) (l : n ≤ 1900) {rs : List Rat} (h : RbL n rs) (hl : rs.length ≤ L) : ShN (n + 1) (L * (2 * n + 4) + 1) 3 (.tuple (rs.map rd)) :=
  (sha_tup (sha_rds hn l h)).mono (Nat.add_le_add_right (Nat.mul_le_mul_right _ hl) 1) (Nat.le_refl _)
section
variable {K : PySem.W.Frag} {H : Hp} {Q : VK} {v : V}
theorem g_reprS {B W d : Nat} {x : PyData} (h : Dp K H v x) (s : ShN B W d x) (hB : 8 ≤ B) (hw : (B + 2) * W + B ≤ 16777216) (hd : d ≤ 60) (k : Q (.str x.shown) H) : rReprU K [v] H Q := by
  refine g_repr h s.sh s.nd (Nat.le_trans s.dp hd) ?_ k
  rw [sizeLine_eq]
  have h1 := PyData.shown_le B hB x s.lv
  have h2 : (B + 2) * x.weight ≤ (B + 2) * W := Nat.mul_le_mul_left _ s.wt
  omega
theorem shp {B W d : Nat} {x : PyData} (s : ShN B W d x) (hd : d ≤ 60) : SeqAt.shaped x = true := by
  unfold SeqAt.shaped
  rw [Bool.and_eq_true]
  exact ⟨s.ly, decide_eq_true (Nat.le_trans s.dp (by omega))⟩
theorem g_neSame {u v : V} {B W d : Nat} {x : PyData} (h1 : Dp K H u x) (h2 : Dp K H v x) (s : ShN B W d x) (hd : d ≤ 60) (k : Q (.bl false) H) : rNeU K u v H Q := by
  refine .inr ⟨x, x, h1, h2, shp s hd, shp s hd, ?_⟩
  rw [SeqAt.eqv_refl x s.ly]
  exact k
theorem g_eqSame {u v : V} {B W d : Nat} {x : PyData} (h1 : Dp K H u x) (h2 : Dp K H v x) (s : ShN B W d x) (hd : d ≤ 60) (k : Q (.bl true) H) : rEqU K u v H Q := by
  refine .inr ⟨x, x, h1, h2, shp s hd, shp s hd, ?_⟩
  rw [SeqAt.eqv_refl x s.ly]
  exact k
theorem lay_rds : ∀ rs : List Rat, PyData.canLayAll0 (rs.map rd) = true
  | [] => rfl
  | r :: rs => by
    show ((rd r).canLay0 && PyData.canLayAll0 (rs.map rd)) = true
    rw [lay_rds rs] <;> rfl
theorem dep_rds : ∀ rs : List Rat, PyData.depthAll (rs.map rd) ≤ 2
  | [] => Nat.zero_le _
  | r :: rs => by
    have h := dep_rds rs
    have h2 : (rd r).depth ≤ 2 := by simp [rd, PyData.depth, PyData.depthAll]
    rw [List.map_cons]
    simp only [PyData.depthAll]
    omega
theorem shp_rds (rs : List Rat) : SeqAt.shaped (.tuple (rs.map rd)) = true := by
  unfold SeqAt.shaped
  rw [Bool.and_eq_true]
  refine ⟨lay_rds rs, decide_eq_true ?_⟩
  have := dep_rds rs
  simp only [PyData.depth]
  omega
/-- a tuple of fractions != () -/
theorem g_neNilT {a p : Addr} {vs : List V} {rs : List Rat} (h : SqT K H a vs) (t : TL H vs rs) (h2 : SqT K H p []) (k : Q (.bl (!rs.isEmpty)) H) : rNeU K (.ref a) (.ref p) H Q := by
  refine .inr ⟨.tuple (rs.map rd), .tuple [], .tup h t.dp, .tup h2 .nil, shp_rds rs, by decide, ?_⟩
  cases rs with
  | nil => exact k
  | cons r rs => exact k
theorem eqv_rd (r : Rat) : PyData.eqv (rd r) (rd 0) = decide (r = 0) := by
  have e : PyData.eqv (rd r) (rd 0) = ((r.num == 0) && (((r.den : Int) == 1) && true)) := rfl
  rw [e]
  by_cases z : r = 0
  · subst z
    rfl
  · rw [decide_eq_false z, beq_eq_false_iff_ne.mpr (fun n => z (Rat.num_eq_zero.mp n))] <;> rfl
theorem g_eqZ {a p : Addr} {r : Rat} (h : SqT K H a (rv r)) (h2 : SqT K H p (rv 0)) (k : Q (.bl (decide (r = 0))) H) : rEqU K (.ref a) (.ref p) H Q := by
  refine .inr ⟨rd r, rd 0, .tup h (.cons (.int _) (.cons (.int _) .nil)), .tup h2 (.cons (.int _) (.cons (.int _) .nil)), by rfl, by rfl, ?_⟩
  rw [eqv_rd]
  exact k
end
end Mf
namespace Mf
/-! ### dividing, step by step -/
def dsh (g rest : List Rat) : Rat := co rest (rest.length - 1) / co g (g.length - 1)
def dlow (g rest : List Rat) (s : Nat) : List Rat := (List.range (g.length - 1)).map fun k => co rest (s + k) - dsh g rest * co g k
def dnext (g rest : List Rat) (s : Nat) : List Rat := rest.take s ++ dlow g rest s
def drun (g : List Rat) : Nat → List Rat → List Rat → List Rat × List Rat
  | 0, Q, rest => (Q, rest)
  | s + 1, Q, rest => drun g s (Q.set s (dsh g rest)) (dnext g rest s)
theorem len_dlow (g rest : List Rat) (s : Nat) : (dlow g rest s).length = g.length - 1 := by simp [dlow]
theorem len_dnext {g rest : List Rat} {s : Nat} (h : s ≤ rest.length) : (dnext g rest s).length = s + (g.length - 1) := by
  unfold dnext
  rw [List.length_append, List.length_take, len_dlow]
  omega
theorem co_dnext {g rest : List Rat} {s : Nat} (hg : g ≠ []) (hl : co g (g.length - 1) ≠ 0) (h : rest.length = s + g.length) (n : Nat) :
    co (dnext g rest s) n = co rest n - (if s ≤ n then dsh g rest * co g (n - s) else 0) := by
  have g0 : 0 < g.length := List.length_pos_iff.mpr hg
  unfold dnext
  rw [co_append, List.length_take, Nat.min_eq_left (by omega)]
  by_cases z : n < s
  · rw [if_pos z, if_neg (by omega), co_take z]
    grind
  · rw [if_neg z, if_pos (by omega)]
    by_cases z2 : n - s < g.length - 1
    · show co (dlow g rest s) (n - s) = _
      unfold dlow
      rw [co_map z2, show s + (n - s) = n by omega]
    · rw [co_ge (l := dlow g rest s) (by rw [len_dlow]; omega)]
      by_cases z3 : n = s + (g.length - 1)
      · subst z3
        rw [show s + (g.length - 1) - s = g.length - 1 by omega]
        unfold dsh
        rw [h, show s + g.length - 1 = s + (g.length - 1) by omega, Rat.div_def, Rat.mul_assoc, Rat.inv_mul_cancel _ hl]
        grind
      · rw [co_ge (l := rest) (by omega), co_ge (l := g) (by omega)]
        grind
theorem drun_spec {g : List Rat} (hg : g ≠ []) (hl : co g (g.length - 1) ≠ 0) : ∀ (s : Nat) (Q rest : List Rat), s ≤ Q.length → (s = 0 ∧ rest.length < g.length ∨ rest.length + 1 = s + g.length) → (∀ k, k < s → co Q k = 0) →
    (drun g s Q rest).1.length = Q.length ∧ (drun g s Q rest).2.length < g.length ∧ ∀ n, pc (co (drun g s Q rest).1) (co g) n + co (drun g s Q rest).2 n = pc (co Q) (co g) n + co rest n := by
  intro s
  have g0 : 0 < g.length := List.length_pos_iff.mpr hg
  induction s with
  | zero =>
    intro Q rest hQ hr hz
    exact ⟨rfl, by show rest.length < _; omega, fun n => rfl⟩
  | succ s ih =>
    intro Q rest hQ hr hz
    have hr' : rest.length = s + g.length := by omega
    have e := ih (Q.set s (dsh g rest)) (dnext g rest s) (by rw [List.length_set]; omega) (.inr (by rw [len_dnext (by omega)]; omega)) (fun k hk => by rw [co_set (by omega), if_neg (by omega)]; exact hz k (by omega))
    obtain ⟨e1, e2, e3⟩ := e
    refine ⟨by show (drun g s _ _).1.length = _; rw [e1, List.length_set], e2, fun n => ?_⟩
    show pc (co (drun g s (Q.set s (dsh g rest)) (dnext g rest s)).1) (co g) n + co (drun g s (Q.set s (dsh g rest)) (dnext g rest s)).2 n = _
    rw [e3 n, co_dnext hg hl hr', pc_set (a := co Q) (s := s) (x := dsh g rest) (hz s (by omega)) (by rw [co_set (by omega), if_pos rfl]) (fun k hk => by rw [co_set (by omega), if_neg hk])]
    grind
/-- the sizes along the way -/
def dfits (B : Nat) (g : List Rat) : Nat → List Rat → Prop
  | 0, rest => RbL B rest
  | s + 1, rest => RbL B rest ∧ Rb B (dsh g rest) ∧ dfits B g s (dnext g rest s)
theorem dfits.now {B : Nat} {g rest : List Rat} : ∀ {s : Nat}, dfits B g s rest → RbL B rest
  | 0, h => h
  | _ + 1, h => h.1
theorem dfits.out {B : Nat} (hB : 1 ≤ B) {g : List Rat} : ∀ {s : Nat} {Q rest : List Rat}, dfits B g s rest → RbL B Q → RbL B (drun g s Q rest).1 ∧ RbL B (drun g s Q rest).2
  | 0, Q, rest, h, hQ => ⟨hQ, h⟩
  | s + 1, Q, rest, h, hQ => by
    refine dfits.out hB (s := s) h.2.2 fun r hr => ?_
    rcases List.mem_or_eq_of_mem_set hr with z | z
    · exact hQ r z
    · rw [z]
      exact h.2.1
/-- numbers with one down -/
def Sc (W : Int) (k : Nat) (r : Rat) : Prop := ∃ u : Int, r = Rat.divInt u W ∧ Bt k u
theorem Sc.rb {W : Int} {k w B : Nat} {r : Rat} (h : Sc W k r) (hW : 1 ≤ W) (bW : Bt w W) (h1 : k ≤ B) (h2 : w ≤ B) : Rb B r := by
  obtain ⟨u, rfl, b⟩ := h
  exact Rb.of hW (b.mono h1) (bW.mono h2)
theorem Sc.zero {W : Int} {k : Nat} : Sc W k 0 := ⟨0, by rw [Rat.zero_divInt], by show (0 : Int).natAbs < 2 ^ k; exact Nat.two_pow_pos k⟩
theorem Sc.mono {W : Int} {k k' : Nat} {r : Rat} (h : Sc W k r) (l : k ≤ k') : Sc W k' r := by
  obtain ⟨u, e, b⟩ := h
  exact ⟨u, e, b.mono l⟩
theorem Sc.scale {W V : Int} {k v : Nat} {r : Rat} (h : Sc W k r) (hW : 1 ≤ W) (hV : 1 ≤ V) (bV : Bt v V) : Sc (W * V) (k + v) r := by
  obtain ⟨u, rfl, b⟩ := h
  refine ⟨u * V, ?_, b.mul bV⟩
  exact (Rat.divInt_mul_right (by omega)).symm
theorem Sc.add {W : Int} {k l : Nat} {r s : Rat} (h : Sc W k r) (h2 : Sc W l s) (hW : 1 ≤ W) : Sc W (max k l + 1) (r + s) := by
  obtain ⟨u, rfl, b⟩ := h
  obtain ⟨v, rfl, c⟩ := h2
  refine ⟨u + v, ?_, (b.mono (Nat.le_max_left _ _)).add (c.mono (Nat.le_max_right _ _))⟩
  rw [Rat.divInt_add_divInt _ _ (by omega) (by omega), ← Int.add_mul, Rat.divInt_mul_right (by omega)]
theorem Sc.mul {W V : Int} {k l : Nat} {r s : Rat} (h : Sc W k r) (h2 : Sc V l s) : Sc (W * V) (k + l) (r * s) := by
  obtain ⟨u, rfl, b⟩ := h
  obtain ⟨v, rfl, c⟩ := h2
  exact ⟨u * v, Rat.divInt_mul_divInt _ _, b.mul c⟩
theorem mul_ge1 {a b : Int} (ha : 1 ≤ a) (hb : 1 ≤ b) : 1 ≤ a * b := Int.le_trans (by decide) (Int.mul_le_mul ha hb (by decide) (by omega))
/-- all numbers of a list with one down -/
theorem sc_of {n : Nat} : ∀ {rs : List Rat}, RbL n rs → ∃ W : Int, 1 ≤ W ∧ Bt (rs.length * n + 1) W ∧ ∀ i, Sc W (rs.length * n + n + 1) (co rs i)
  | [], _ => ⟨1, by decide, by show (1 : Int).natAbs < 2 ^ (0 * n + 1); rw [Nat.zero_mul]; decide, fun i => by rw [co_nil]; exact Sc.zero⟩
  | r :: rs, h => by
    obtain ⟨W, h1, h2, h3⟩ := sc_of (rs := rs) fun x hx => h x (List.mem_cons_of_mem _ hx)
    have hr := h r List.mem_cons_self
    have e : r = Rat.divInt r.num r.den := (Rat.num_divInt_den r).symm
    refine ⟨W * r.den, mul_ge1 h1 (den1 r), (h2.mul hr.2).mono (by rw [List.length_cons, Nat.succ_mul]; omega), fun i => ?_⟩
    cases i with
    | zero =>
      have z : Sc (r.den : Int) n r := ⟨r.num, e, hr.1⟩
      have z2 := z.scale (den1 r) h1 h2
      rw [Int.mul_comm] at z2
      exact z2.mono (by rw [List.length_cons, Nat.succ_mul]; omega)
    | succ i =>
      have z := (h3 i).scale h1 (den1 r) hr.2
      exact z.mono (by rw [List.length_cons, Nat.succ_mul]; omega)
theorem sc_pc {a b : Nat → Rat} {W V : Int} {k l : Nat} (hW : 1 ≤ W) (hV : 1 ≤ V) (ha : ∀ i, Sc W k (a i)) (hb : ∀ i, Sc V l (b i)) : ∀ i n, Sc (W * V) (k + l + i) (cs a b i n)
  | 0, n => Sc.zero
  | i + 1, n => by
    rw [cs_succ]
    split
    · exact ((sc_pc hW hV ha hb i n).add ((ha i).mul (hb (n - i))) (mul_ge1 hW hV)).mono (by omega)
    · rw [Rat.add_zero]
      exact (sc_pc hW hV ha hb i n).mono (by omega)
theorem sc_low {W l D u v c : Int} (hW : 1 ≤ W) (hD : 1 ≤ D) (hl : l ≠ 0) :
    Rat.divInt v W - Rat.divInt u W / Rat.divInt l D * Rat.divInt c D = Rat.divInt ((v * l - u * c) * (if 0 < l then 1 else -1)) (W * (l.natAbs : Int)) := by
  have e1 : Rat.divInt u W / Rat.divInt l D = Rat.divInt (u * D) (W * l) := by
    rw [Rat.div_def, Rat.inv_divInt, Rat.divInt_mul_divInt]
  have n1 : W * l ≠ 0 := Int.mul_ne_zero (by omega) hl
  rw [e1, Rat.divInt_mul_divInt]
  have e2 : Rat.divInt (u * D * c) (W * l * D) = Rat.divInt (u * c) (W * l) := by
    rw [show u * D * c = u * c * D by grind, Rat.divInt_mul_right (by omega)]
  have e3 : Rat.divInt v W = Rat.divInt (v * l) (W * l) := (Rat.divInt_mul_right hl).symm
  rw [e2, e3, Rat.divInt_sub_divInt _ _ n1 n1, ← Int.sub_mul, Rat.divInt_mul_right n1]
  by_cases h : 0 < l
  · rw [if_pos h, Int.mul_one, show (l.natAbs : Int) = l by omega]
  · rw [if_neg h, show (l.natAbs : Int) = -l by omega, ← Rat.neg_divInt_neg, Int.mul_neg, Int.mul_one, Int.mul_neg]
/-- so the numbers stay small -/
theorem dfits_of {g : List Rat} (hg : g ≠ []) (hl : co g (g.length - 1) ≠ 0) {D : Int} {d kg B : Nat} (hD : 1 ≤ D) (bD : Bt d D) (sg : ∀ i, Sc D kg (co g i)) :
    ∀ (s : Nat) (rest : List Rat) (W : Int) (w k : Nat), (s = 0 ∨ rest.length + 1 = s + g.length) → 1 ≤ W → Bt w W → (∀ i, Sc W k (co rest i)) → k + s * (kg + 1) + d ≤ B → w + s * kg + kg ≤ B → dfits B g s rest := by
  intro s
  have g0 : 0 < g.length := List.length_pos_iff.mpr hg
  obtain ⟨l, el, bl⟩ := sg (g.length - 1)
  have hl0 : l ≠ 0 := fun z => hl (by rw [el, z, Rat.zero_divInt])
  induction s with
  | zero =>
    intro rest W w k hr hW bW sr h1 h2
    refine RbL.of_co fun i _ => ?_
    exact (sr i).rb hW bW (by omega) (by omega)
  | succ s ih =>
    intro rest W w k hr hW bW sr h1 h2
    have hr' : rest.length = s + g.length := by omega
    rw [Nat.succ_mul] at h1 h2
    have bl' : Bt kg (l.natAbs : Int) := by
      show (l.natAbs : Int).natAbs < 2 ^ kg
      rw [Int.natAbs_natCast]
      exact bl
    have hW' : 1 ≤ W * (l.natAbs : Int) := mul_ge1 hW (by omega)
    obtain ⟨u, eu, bu⟩ := sr (rest.length - 1)
    refine ⟨RbL.of_co fun i _ => (sr i).rb hW bW (by omega) (by omega), ?_, ?_⟩
    · unfold dsh
      rw [eu, el, Rat.div_def, Rat.inv_divInt, Rat.divInt_mul_divInt]
      by_cases z : 0 < l
      · exact Rb.of (mul_ge1 hW (by omega)) ((bu.mul bD).mono (by omega)) ((bW.mul bl).mono (by omega))
      · rw [← Rat.neg_divInt_neg, show -(W * l) = W * -l from (Int.mul_neg _ _).symm]
        exact Rb.of (mul_ge1 hW (by omega)) ((bu.mul bD).neg.mono (by omega)) ((bW.mul bl.neg).mono (by omega))
    · refine ih (dnext g rest s) (W * (l.natAbs : Int)) (w + kg) (k + kg + 1) (.inr (by rw [len_dnext (by omega)]; omega)) hW' (bW.mul bl') (fun i => ?_) (by omega) (by omega)
      rw [co_dnext hg hl hr']
      by_cases z : s ≤ i
      · rw [if_pos z]
        obtain ⟨v, ev, bv⟩ := sr i
        obtain ⟨c, ec, bc⟩ := sg (i - s)
        unfold dsh
        rw [eu, el, ev, ec, sc_low hW hD hl0]
        refine ⟨_, rfl, ?_⟩
        have b1 : Bt (k + kg + 1) (v * l - u * c) := (bv.mul bl).sub (bu.mul bc)
        split
        · rw [Int.mul_one]
          exact b1
        · rw [Int.mul_neg, Int.mul_one]
          exact b1.neg
      · rw [if_neg z, show co rest i - 0 = co rest i by grind]
        exact ((sr i).scale hW (by omega) bl').mono (by omega)
/-- sizes of the sums of a product -/
theorem cs_rb {a b : List Rat} {A B : Nat} (ha : RbL A a) (hb : RbL B b) (hA : 1 ≤ A) (hB : 1 ≤ B) (i n : Nat) : Rb (1 + b.length * (A + B + 1)) (cs (co a) (co b) i n) := by
  have key : ∀ i, Rb (1 + (min i (n + 1) - (n + 1 - b.length)) * (A + B + 1)) (cs (co a) (co b) i n) := by
    intro i
    induction i with
    | zero => exact Rb0.mono (by omega)
    | succ i ih =>
      rw [cs_succ]
      by_cases z : i ≤ n
      · rw [if_pos z]
        by_cases z2 : n - i < b.length
        · have e : min (i + 1) (n + 1) - (n + 1 - b.length) = (min i (n + 1) - (n + 1 - b.length)) + 1 := by omega
          rw [e, Nat.succ_mul]
          exact (ih.add ((ha.co hA i).mul (hb.co hB (n - i)))).mono (by omega)
        · rw [co_ge (l := b) (by omega), Rat.mul_zero, Rat.add_zero]
          exact ih.mono (Nat.add_le_add_left (Nat.mul_le_mul_right _ (by omega)) 1)
      · rw [if_neg z, Rat.add_zero]
        exact ih.mono (Nat.add_le_add_left (Nat.mul_le_mul_right _ (by omega)) 1)
  exact (key i).mono (Nat.add_le_add_left (Nat.mul_le_mul_right _ (by omega)) 1)
theorem rbl_conv {a b : List Rat} {A B : Nat} (ha : RbL A a) (hb : RbL B b) (hA : 1 ≤ A) (hB : 1 ≤ B) : RbL (1 + b.length * (A + B + 1)) (conv a b) :=
  RbL.of_co fun i _ => by
    rw [co_conv]
    exact cs_rb ha hb hA hB _ _
theorem rbl_padd {a b : List Rat} {A B : Nat} (ha : RbL A a) (hb : RbL B b) (hA : 1 ≤ A) (hB : 1 ≤ B) : RbL (A + B + 1) (padd a b) :=
  RbL.of_co fun i _ => by
    rw [co_padd]
    exact (ha.co hA i).add (hb.co hB i)
theorem num_nat (n : Nat) : (n : Rat).num = (n : Int) := rfl
theorem den_nat (n : Nat) : ((n : Rat).den : Int) = 1 := rfl
theorem tr_slope {l : List Rat} (h : Tr l) : Tr (slope l) := by
  intro hne
  have hl : 0 < (slope l).length := List.length_pos_iff.mpr hne
  rw [len_slope] at hl
  rw [co_slope, len_slope]
  unfold slp
  rw [show l.length - 1 - 1 + 1 = l.length - 1 by omega]
  have h1 := h (fun z => by rw [z] at hl; simp at hl)
  intro z
  rcases Rat.mul_eq_zero.mp z with e | e
  · have := congrArg Rat.num e
    rw [num_nat] at this
    simp at this
    omega
  · exact h1 e
end Mf
namespace Mf
open PySem PySem.Spec PyProof.Rows L2
abbrev g2 (K : PySem.W.Frag) (i j : Nat) : TG := gTup K 2 (gCons (gName i) (gCons (gName j) gNil))
section
variable {K : PySem.W.Frag} {σ : L2.St} {H H1 : Hp} {Q : VK} {v x y : V} {te : TE} {tt : TT} {vs : List Nat} {D : Ends} {tb : TS}
theorem g_pair {i j : Nat} {a : Addr} {R : L2.St → Hp → Prop} (h : SqT K H a [x, y]) (q : R ((σ.set i (some x)).set j (some y)) H) : g2 K i j (.ref a) σ H R :=
  ⟨a, [x, y], rfl, h, rfl, x, [y], rfl, y, [], rfl, rfl, q⟩
def iEnumS (K : PySem.W.Frag) (ta : TA) : TI := fun σ H R => iEnum K ta σ H R ∨ iEnumT K ta σ H R
/-- for i, x in enumerate(a), a a list or a tuple that stays -/
theorem g_forE {i0 i j : Nat} {a : Addr} {xs : List V} {H0 : Hp} (e : σ[i0]? = some (some (.ref a))) (hs : Sq K H0 a xs) (Pv : Nat → L2.St → Hp → Prop) (h0 : Pv 0 σ H) (hx : ∀ n σ' H', Pv n σ' H' → Same H0 H')
    (hb : ∀ n x σ' H' T, xs[n]? = some x → Pv n σ' H' → H' T = none → tb ⟨Pv (n + 1), D.rt, D.nx, Pv (n + 1)⟩ ((σ'.set i (some (.int (n : Nat)))).set j (some x)) (upd H' T (.tup [.int (n : Nat), x])))
    (hd : ∀ σ' H', Pv xs.length σ' H' → D.nx σ' H') : tFor (iEnumS K (tCons (tVar i0) tNil)) (g2 K i j) tb D σ H := by
  have sH := hx _ _ _ h0
  rcases hs with hs | hs
  · refine .inl (g_cons (g_var e (g_nil ⟨a, xs, rfl, sH.seq hs, fun i m σ H => m = xs.length - i ∧ i ≤ xs.length ∧ Pv i σ H, ⟨xs.length, by omega, Nat.zero_le _, h0⟩, ?_⟩)))
    rintro n m σ H ⟨rfl, hi, p⟩
    have q := (hx _ _ _ p).seq hs
    by_cases hlt : n < xs.length
    · refine .inr ⟨⟨xs, xs[n], q, by simp [hlt]⟩, Pv (n + 1), fun σ' H' p' => ⟨xs.length - (n + 1), by omega, rfl, hlt, p'⟩, fun x H' yl => ?_⟩
      obtain ⟨T, z, rfl, nT, rfl, ez⟩ := yl
      exact g_pair (tupU upd_same) (hb n z σ H T (ez xs q) p nT)
    · have e2 : n = xs.length := by omega
      subst e2
      exact .inl ⟨⟨xs, q, Nat.le_refl _⟩, hd σ H p⟩
  · have st : ∀ {H' : Hp}, Same H0 H' → SqT K H' a xs := fun s => (Same.x (q := a + 1) s).tup (Nat.ne_of_lt (Nat.lt_succ_self a)) hs
    refine .inr (g_cons (g_var e (g_nil ⟨a, xs, rfl, st sH, fun i m σ H => m = xs.length - i ∧ i ≤ xs.length ∧ Pv i σ H, ⟨xs.length, by omega, Nat.zero_le _, h0⟩, ?_⟩)))
    rintro n m σ H ⟨rfl, hi, p⟩
    have q := st (hx _ _ _ p)
    by_cases hlt : n < xs.length
    · refine .inr ⟨⟨xs, xs[n], q, by simp [hlt]⟩, Pv (n + 1), fun σ' H' p' => ⟨xs.length - (n + 1), by omega, rfl, hlt, p'⟩, fun x H' yl => ?_⟩
      obtain ⟨T, z, rfl, nT, rfl, ez⟩ := yl
      exact g_pair (tupU upd_same) (hb n z σ H T (ez xs q) p nT)
    · have e2 : n = xs.length := by omega
      subst e2
      exact .inl ⟨⟨xs, q, Nat.le_refl _⟩, hd σ H p⟩
/-- a comprehension over enumerate(a), a a tuple -/
theorem lcgo_enumT {a : Addr} {xs : List V} {i j : Nat} (Pv : Addr → Nat → Hp → Prop) (hw : ∀ x y, wipe (((wipe σ vs).set i (some x)).set j (some y)) vs = wipe σ vs)
    (h0 : ∀ D, H1 D = none → Pv D 0 (upd H1 D (.lst []))) (hl : ∀ D n H, n ≤ xs.length → Pv D n H → SqT K H a xs)
    (hs : ∀ D n x T H, H1 D = none → xs[n]? = some x → Pv D n H → H T = none → tt (((wipe σ vs).set i (some (.int (n : Nat)))).set j (some x)) (upd H T (.tup [.int (n : Nat), x])) fun b H3 =>
      if b = true then te (((wipe σ vs).set i (some (.int (n : Nat)))).set j (some x)) H3 fun y H4 => ∃ acc, H4 D = some (.lst acc) ∧ acc.length < sizeLine ∧ Pv D (n + 1) (upd H4 D (.lst (acc ++ [y]))) else Pv D (n + 1) H3)
    (hd : ∀ D H, H1 D = none → Pv D xs.length H → Q (.ref D) H) : LcGo (IteT K a) (g2 K i j) tt te vs σ H1 Q := by
  intro D hD
  refine ⟨fun n m H => m = xs.length - n ∧ n ≤ xs.length ∧ Pv D n H, ⟨xs.length, by omega, Nat.zero_le _, h0 D hD⟩, ?_⟩
  rintro n m H ⟨rfl, hi, p⟩
  have q := hl D n H hi p
  by_cases hlt : n < xs.length
  · refine .inr ⟨⟨xs, xs[n], q, by simp [hlt]⟩, Pv D (n + 1), fun H' p' => ⟨xs.length - (n + 1), by omega, rfl, hlt, p'⟩, fun x H' yl => ?_⟩
    obtain ⟨T, z, rfl, nT, rfl, ez⟩ := yl
    exact g_pair (tupU upd_same) ⟨hw _ _, hs D n z T H hD (ez xs q) p nT⟩
  · have e2 : n = xs.length := by omega
    subst e2
    exact .inl ⟨⟨xs, q, Nat.le_refl _⟩, hd D H hD p⟩
theorem g_lcE {ta : TA} {g : TG} (q : ta σ H fun us H1 => ∃ a xs, us = [.ref a] ∧ SqT K H1 a xs ∧ LcGo (IteT K a) g tt te vs σ H1 Q) : tLc (iEnumT K ta) g tt te vs σ H Q := q
/-- max of two, list of .., a part of a tuple -/
def rMax2 : List V → Hp → VK → Prop := fun xs H Q => ∃ i j, xs = [.int i, .int j] ∧ Q (.int (if j > i then j else i)) H
theorem call_max2R {X : Cx} (hc : X.calm = true) : CallR X (.builtin "max") rMax2 := call_max2 hc
theorem g_max2 {i j : Int} (q : Q (.int (if j > i then j else i)) H) : rMax2 [.int i, .int j] H Q := ⟨i, j, rfl, q⟩
def rLstOf (K : PySem.W.Frag) : List V → Hp → VK → Prop := fun xs H Q => ∃ p ys, xs = [.ref p] ∧ (SqL K H p ys ∨ SqT K H p ys) ∧ ∀ l, H l = none → Q (.ref l) (upd H l (.lst ys))
theorem call_lstOf {X : Cx} : CallR X (.type "list") (rLstOf X.K) := call_list_of
theorem g_lstOf {a : Addr} {xs : List V} (h : Sq K H a xs) (q : ∀ p H2, H p = none → Same H H2 → H2 p = some (.lst xs) → Q (.ref p) H2) : rLstOf K [.ref a] H Q :=
  ⟨a, xs, rfl, h, fun p hp => q p _ hp (same_new hp) upd_same⟩
theorem sIx_def (n : Nat) (d : Nat) (k : Int) : HT.sIx n d (some k) = HT.sIx n 0 (some k) := rfl
theorem cut_hi {xs : List V} {k : Nat} (h : k ≤ xs.length) : cutV xs none (some (k : Int)) = xs.take k := by
  have e : HT.sIx xs.length xs.length (some (k : Int)) = k := by
    simp only [HT.sIx]
    rw [if_neg (by omega)]
    omega
  unfold cutV
  rw [e]
  show (xs.drop 0).take (k - 0) = _
  rw [List.drop_zero, Nat.sub_zero]
theorem cut_m1 {xs : List V} (h : xs ≠ []) : HT.sIx xs.length xs.length (some (-1)) = xs.length - 1 := by
  have : 0 < xs.length := List.length_pos_iff.mpr h
  simp only [HT.sIx]
  rw [if_pos (by decide)]
  omega
theorem cut_lo1 {xs : List V} : cutV xs (some 1) none = xs.drop 1 := by
  have e2 : HT.sIx xs.length xs.length none = xs.length := rfl
  have e : HT.sIx xs.length 0 (some 1) = min 1 xs.length := by
    simp only [HT.sIx]
    rw [if_neg (by decide)]
    omega
  unfold cutV
  rw [e, e2]
  cases xs with
  | nil => rfl
  | cons z r =>
    rw [show min 1 (z :: r).length = 1 by simp only [List.length_cons]; omega]
    show r.take ((z :: r).length - 1) = r
    simp
theorem g_slTm1 {a : Addr} {xs : List V} (h : SqT K H a xs) (hne : xs ≠ []) (q : ∀ p H2, H p = none → Same H H2 → H2 p = some (.tup (xs.take (xs.length - 1))) → Q (.ref p) H2) : rSlT K (.ref a) none (some (-1)) H Q := by
  have hl : 0 < xs.length := List.length_pos_iff.mpr hne
  have e := cut_m1 hne
  refine ⟨a, xs, rfl, h, fun z => ?_, fun p hp => ?_⟩
  · rw [e] at z
    omega
  · have e2 : cutV xs none (some (-1)) = xs.take (xs.length - 1) := by
      unfold cutV
      rw [e]
      show (xs.drop 0).take (xs.length - 1 - 0) = _
      rw [List.drop_zero, Nat.sub_zero]
    rw [e2]
    exact q p _ hp (same_new hp) upd_same
/-- a place from behind -/
theorem at_m1 {xs : List V} {x : V} (h : xs[xs.length - 1]? = some x) : atI xs (-1) = some x := by
  have hl : xs.length - 1 < xs.length := (List.getElem?_eq_some_iff.mp h).1
  have e : ixN xs.length (-1) = some (xs.length - 1) := by
    unfold ixN
    rw [if_neg (by decide), if_pos (by omega)]
    congr 1
    omega
  unfold atI
  rw [e]
  exact h
theorem g_star {t : TA} {R : List V → Hp → Prop} (q : te σ H fun x H1 => ∃ p xs, x = V.ref p ∧ (SqT K H1 p xs ∨ SqL K H1 p xs) ∧ t σ H1 fun ys H2 => R (xs ++ ys) H2) : StX.tStar K te t σ H R := q
end
theorem pe_globI {X : Cx} {x : Str} {i : Int} {pos : Pos} (hg : Gl X x) (hm : ∃ t, X.mg x = some (.int i t)) (hd : (x == ("__debug__" : Str)) = false := by decide) : PE X (.Name x pos) (tC (.int i)) := by
  obtain ⟨t, e⟩ := hm
  exact pe_glob hg e ⟨t, rfl⟩ hd
/-- f(e, .., k = e, ..): n by place, the rest by names -/
def Pm (x : Str) (st : Stmt) (ps ks : List Str) (n : Nat) : Prop := ∀ (kV doc pm : Value) (an : Option Addr) (cdv ct : Value) (us ws : List Value), us.length = n → ws.length = ks.length →
  bindArgs (PySem.W.fnOf x x (defArgs st) (defBody st) (defScope st) .none kV doc pm an cdv ct) ⟨us, ks.zip ws⟩ = pure (ps.zip (us ++ ws))
section
variable {X : Cx} {k j n : Nat} {ps ks : List Str} {sp : Sp} {x : Str} {p pos : Pos} {e : Expr} {es : List Expr} {t tk : TA} {st : Stmt} {kws : List Keyword}
def tClM (sp : Sp) (n m : Nat) (t tk : TA) : TE := fun σ H Q => t σ H fun vs H1 => tk σ H1 fun zs H2 => vs.length = n ∧ zs.length = m ∧ sp (vs ++ zs) H2 Q E0
theorem pe_fm (c : Cl (cnOf X) k x st ps sp) (hA : X.A.guards = some []) (hr : Room j X.A) (hk : k ≤ j) (hp : Pm x st ps ks n) (hg : Gl X x) (ha : PA X (e :: es) t) (hkw : PK X kws tk)
    (hall : (backToKw pos (keywordEach kws X.env)).all (·.1.isSome) = true := by rfl) (hks : (backToKw pos (keywordEach kws X.env)).filterMap (·.1) = ks := by rfl)
    (hdb : (x == ("__debug__" : Str)) = false := by decide)
    (hpl : ((backTo pos (starEach (e :: es) X.env)).any (·.1) || (backToKw pos (keywordEach kws X.env)).any (·.1.isNone)) = false := by rfl)
    (he : starEach (e :: es) X.env = (false, eval e X.env) :: starEach es X.env := by rfl) :
    PE X (.Call (.Name x p) (e :: es) kws pos) (tClM sp n ks.length t tk) := by
  obtain ⟨f, fd, F, hm, W⟩ := c.ex
  refine ⟨fun pins s σ H Q I h => ?_⟩
  refine wpAny_Call_Name_kw (ld_glob I hg hm ?_ hdb)
  refine PySem.W.callWith_KW (h₀ := X.base) I.ok.mod.kin W.kp hall (thn (ha.run pos pins s σ H _ I h) fun us s1 ⟨vs, H1, I1, rv1, q1⟩ => thn (hkw.run pos pins s1 σ H1 _ I1 q1) ?_) hpl he
  intro ws s2 ⟨zs, H2, I2, rz, l1, l2, q2⟩
  refine ⟨I2.kIn, ?_⟩
  rw [hks]
  have e1 : us.length = n := by rw [← rv1.length]; exact l1
  have e2 : ws.length = ks.length := by rw [← rz.length]; exact l2
  have hb : BindsTo s2 fd ⟨us, ks.zip ws⟩ (ps.zip (us ++ ws)) := by
    obtain ⟨oc, od, kV, doc, pm, an, cdv, ct, osl, rfl, lk, hcd⟩ := W.ex
    exact .of_eq (hp kV doc pm an cdv ct us ws e1 e2)
  have r2 : Vals (vs ++ zs) (us ++ ws) := rv1.append rz
  refine wpAny_call (codeAny_mono (F.go X.A hA X.stack s2 H2 ⟨us, ks.zip ws⟩ (us ++ ws) (vs ++ zs) Q E0 (hr.mono hk) I2.env0 hb r2 q2) ?_)
  intro r s' hq
  cases r with
  | error e => exact pass0 pins σ H2 s2 e s' I2 hq
  | ok fl => cases fl with
    | ret u => exact I2.after hq
    | next => exact hq.elim
    | brk => exact hq.elim
    | cont => exact hq.elim
theorem g_clm {K : PySem.W.Frag} {σ : L2.St} {H : Hp} {Q : VK} {m : Nat} (q : t σ H fun vs H1 => tk σ H1 fun zs H2 => vs.length = n ∧ zs.length = m ∧ sp (vs ++ zs) H2 Q E0) : tClM sp n m t tk σ H Q := q
end
/-! ### promises -/
def RetL (rs : List Rat) (H : Hp) (Q : VK) : Prop := ∀ p H' vs, Same H H' → H p = none → H' p = some (.tup vs) → TL H' vs rs → Q (.ref p) H'
def sp_low (K : PySem.W.Frag) : Sp := fun vs H Q _ => ∃ (u d : Int), vs = [.int u, .int d] ∧ 1 ≤ d ∧ Bt 8000 d ∧ RetT (Rat.divInt u d) H Q
def sp_lbin (f : Rat → Rat → Rat) (K : PySem.W.Frag) : Sp := fun vs H Q _ => ∃ a b r s m n, vs = [.ref a, .ref b] ∧ H a = some (.tup (rv r)) ∧ H b = some (.tup (rv s)) ∧ Rb m r ∧ Rb n s ∧ m + n ≤ 7000 ∧ RetT (f r s) H Q
def sp_lrat (K : PySem.W.Frag) : Sp := fun vs H Q _ => ∃ (q : Addr) (t : Int), vs = [.ref q] ∧ Qy K q t H ∧ t ≤ 999990 ∧
  ∀ t' H' p r, SameX q H H' → Qy K q t' H' → t ≤ t' → t' ≤ t + 5 → H p = none → H' p = some (.tup (rv r)) → Rb 12 r → Q (.ref p) H'
/-- a list at H -/
def isL (H : Hp) (b : Addr) : Prop := ∃ acc, H b = some (.lst acc)
def sp_las (K : PySem.W.Frag) : Sp := fun vs H Q _ => ∃ (q p : Addr) (t : Int) (r : Rat), vs = [.ref q, .ref p] ∧ Qy K q t H ∧ t ≤ 999990 ∧ H p = some (.tup (rv r)) ∧ Rb 100 r ∧
  ∀ t' H' v x y, SameX q H H' → Qy K q t' H' → t ≤ t' → t' ≤ t + 2 → Fz (isL H) H' v x y → 1 ≤ y → Rat.divInt x y = r → Bt 140 x → Bt 140 y → Q v H'
def sp_row (K : PySem.W.Frag) : Sp := fun vs H Q _ => ∃ (q : Addr) (t m : Int), vs = [.ref q, .int m] ∧ Qy K q t H ∧ t ≤ 999000 ∧ 0 ≤ m ∧ m ≤ 100 ∧
  ∀ t' H' p vs' rs, SameX q H H' → Qy K q t' H' → t ≤ t' → t' ≤ t + 1 + 5 * m → H p = none → Qn q p H' → H' p = some (.lst vs') → TL H' vs' rs → RbL 12 rs → (rs.length : Int) ≤ m → Q (.ref p) H'
def sp_trim (K : PySem.W.Frag) : Sp := fun vs H Q _ => ∃ a xs rs, vs = [.ref a] ∧ SqL K H a xs ∧ TL H xs rs ∧ xs.length ≤ 1000 ∧ RetL (trimR rs) H Q
def sp_rpoly (K : PySem.W.Frag) : Sp := fun vs H Q _ => ∃ q a xs ds n part, vs = [.ref a, part] ∧ a ≠ q ∧ Sq K H a xs ∧ DqAll q K H xs ds ∧ (∀ d ∈ ds, isFrD d = true ∧ Bt n (upD d) ∧ Bt n (dnD d)) ∧ n ≤ 7000 ∧ ds.length ≤ 80 ∧ RetL (trimR (ds.map valQ)) H Q
def sp_lprod (K : PySem.W.Frag) : Sp := fun vs H Q _ => ∃ a b xs ys f g A B C, vs = [.ref a, .ref b] ∧ Sq K H a xs ∧ Sq K H b ys ∧ TL H xs f ∧ TL H ys g ∧ RbL A f ∧ RbL B g ∧ (∀ i n, Rb C (cs (co f) (co g) i n)) ∧ 1 ≤ A ∧ 1 ≤ B ∧ A + B + C ≤ 7000 ∧ xs.length ≤ 200 ∧ ys.length ≤ 200 ∧ RetL (trimR (conv f g)) H Q
def sp_lsum (K : PySem.W.Frag) : Sp := fun vs H Q _ => ∃ a b xs ys f g A B, vs = [.ref a, .ref b] ∧ Sq K H a xs ∧ Sq K H b ys ∧ TL H xs f ∧ TL H ys g ∧ RbL A f ∧ RbL B g ∧ 1 ≤ A ∧ 1 ≤ B ∧ A + B ≤ 7000 ∧ xs.length ≤ 200 ∧ ys.length ≤ 200 ∧ RetL (trimR (padd f g)) H Q
end Mf
namespace Mf
open PySem PySem.Spec PyProof.Rows L2
section
variable {K : PySem.W.Frag} {σ : L2.St} {H : Hp} {Q : VK}
theorem for_itc {lo c : Int} {n : Nat} {g : TG} {tb : TS} {D : Ends} (Pv : Nat → L2.St → Hp → Prop) (h0 : Pv 0 σ H)
    (hs : ∀ i σ H, i < n → Pv i σ H → g (.int (lo + (i : Nat) * c)) σ H fun σ2 H2 => tb { D with nx := Pv (i + 1), ct := Pv (i + 1), bk := D.nx } σ2 H2) (hd : ∀ σ H, Pv n σ H → D.nx σ H) :
    ∃ W : Nat → Nat → L2.St → Hp → Prop, (∃ m, W 0 m σ H) ∧ ∀ i m σ H, W i m σ H →
      ((Itc lo c n).stop i H ∧ D.nx σ H) ∨ ((Itc lo c n).go i H ∧ ∃ N : L2.St → Hp → Prop, (∀ σ' H', N σ' H' → ∃ m', m' < m ∧ W (i + 1) m' σ' H') ∧ ∀ x H', (Itc lo c n).yld i H x H' → g x σ H' fun σ2 H2 => tb { D with nx := N, ct := N, bk := D.nx } σ2 H2) := by
  refine ⟨fun i m σ H => m = n - i ∧ i ≤ n ∧ Pv i σ H, ⟨n, by omega, Nat.zero_le _, h0⟩, ?_⟩
  rintro i m σ H ⟨rfl, hi, p⟩
  by_cases hlt : i < n
  · refine .inr ⟨hlt, Pv (i + 1), fun σ' H' p' => ⟨n - (i + 1), by omega, rfl, hlt, p'⟩, fun x H' y => ?_⟩
    obtain ⟨rfl, rfl⟩ := y
    exact hs i σ H' hlt p
  · have e : i = n := by omega
    subst e
    exact .inl ⟨Nat.le_refl _, hd σ H p⟩
theorem fr_at {q a : Addr} {acc : List V} {r : Rat} {n : Nat} (hq : H q = some (.lst acc)) (e : H a = some (.tup (rv r))) (b : Rb n r) : Fr q K H (.ref a) r n :=
  .tup (tupU e) (fun z => by rw [z, hq] at e; cases e) b
end
theorem div_nat (n : Nat) : Rat.divInt (n : Int) 1 = (n : Rat) := by
  have e : Rat.divInt (n : Int) 1 = Rat.divInt (n : Rat).num (n : Rat).den := rfl
  rw [e, Rat.num_divInt_den]
theorem rv_nat (n : Nat) : rv (n : Rat) = [.int (n : Int), .int 1] := rfl
def fullS (l : List Rat) : List Rat := (List.range l.length).map fun (n : Nat) => (n : Rat) * co l n
theorem len_full (l : List Rat) : (fullS l).length = l.length := by simp [fullS]
theorem get_full {l : List Rat} {n : Nat} (h : n < l.length) : (fullS l)[n]? = some ((n : Rat) * co l n) := by
  unfold fullS
  rw [List.getElem?_map, List.getElem?_range h]
  rfl
theorem get_slope {l : List Rat} {n : Nat} (h : n + 1 < l.length) : (slope l)[n]? = some (((n + 1 : Nat) : Rat) * co l (n + 1)) := by
  unfold slope
  rw [List.getElem?_map, List.getElem?_range (by omega)]
  rfl
theorem drop_full (l : List Rat) (j : Nat) : co ((fullS l).drop 1) j = co (slope l) j := by
  by_cases h : j + 1 < l.length
  · rw [co_some (get_slope h), co_some (r := ((j + 1 : Nat) : Rat) * co l (j + 1))]
    rw [List.getElem?_drop, show 1 + j = j + 1 by omega]
    exact get_full h
  · rw [co_ge (by rw [List.length_drop, len_full]; omega), co_ge (l := slope l) (by rw [len_slope]; omega)]
theorem get_dlow {g rest : List Rat} {s n : Nat} (h : n < g.length - 1) : (dlow g rest s)[n]? = some (co rest (s + n) - dsh g rest * co g n) := by
  unfold dlow
  rw [List.getElem?_map, List.getElem?_range h]
  rfl
theorem Rb_nat {n : Nat} (h : n < 2 ^ 10) : Rb 10 (n : Rat) := ⟨by show (n : Int).natAbs < _; rw [Int.natAbs_natCast]; exact h, by show (1 : Int).natAbs < 2 ^ 10; decide⟩
/-- what a division hands back -/
def RetP (f g : List Rat) (H : Hp) (Q : VK) : Prop := ∀ p H' p1 p2 vs1 vs2, Same H H' → H p = none → H' p = some (.tup [.ref p1, .ref p2]) → H' p1 = some (.tup vs1) → H' p2 = some (.tup vs2) →
  TL H' vs1 (trimR (drun g (f.length + 1 - g.length) (List.replicate (f.length + 1 - g.length) 0) f).1) → TL H' vs2 (trimR (drun g (f.length + 1 - g.length) (List.replicate (f.length + 1 - g.length) 0) f).2) → Q (.ref p) H'
def sp_parted (K : PySem.W.Frag) : Sp := fun vs H Q _ => ∃ a b xs ys f g B, vs = [.ref a, .ref b] ∧ H a = some (.tup xs) ∧ H b = some (.tup ys) ∧ TL H xs f ∧ TL H ys g ∧ g ≠ [] ∧ co g (g.length - 1) ≠ 0 ∧ 1 ≤ B ∧ B ≤ 2300 ∧ RbL B g ∧
  dfits B g (f.length + 1 - g.length) f ∧ f.length ≤ 100 ∧ g.length ≤ 100 ∧ RetP f g H Q
def sp_pparted (K : PySem.W.Frag) : Sp := fun vs H Q _ => ∃ q a b xs ys ds es n f g B, vs = [.ref a, .ref b] ∧ a ≠ q ∧ b ≠ q ∧ Sq K H a xs ∧ Sq K H b ys ∧ DqAll q K H xs ds ∧ DqAll q K H ys es ∧
  (∀ d ∈ ds, isFrD d = true ∧ Bt n (upD d) ∧ Bt n (dnD d)) ∧ (∀ d ∈ es, isFrD d = true ∧ Bt n (upD d) ∧ Bt n (dnD d)) ∧ n ≤ 7000 ∧ ds.length ≤ 80 ∧ es.length ≤ 80 ∧ f = trimR (ds.map valQ) ∧ g = trimR (es.map valQ) ∧ g ≠ [] ∧ 1 ≤ B ∧ B ≤ 2300 ∧ RbL B g ∧
  dfits B g (f.length + 1 - g.length) f ∧ RetP f g H Q
def sp_slope (K : PySem.W.Frag) : Sp := fun vs H Q _ => ∃ q a xs ds n, vs = [.ref a] ∧ a ≠ q ∧ Sq K H a xs ∧ DqAll q K H xs ds ∧ (∀ d ∈ ds, isFrD d = true ∧ Bt n (upD d) ∧ Bt n (dnD d)) ∧ 1 ≤ n ∧ n ≤ 6000 ∧ ds.length ≤ 80 ∧ RetL (slope (trimR (ds.map valQ))) H Q
def sp_lslope (K : PySem.W.Frag) : Sp := fun vs H Q _ => ∃ a xs rs n, vs = [.ref a] ∧ H a = some (.tup xs) ∧ TL H xs rs ∧ RbL n rs ∧ 1 ≤ n ∧ n ≤ 6000 ∧ xs.length ≤ 100 ∧ RetL (trimR (slope rs)) H Q
end Mf
namespace Mf
open PySem PySem.Spec PyProof.Rows L2
/-! ### what the laws say of polynomials -/
theorem co_rep (N n : Nat) : co (List.replicate N 0) n = 0 := by
  by_cases z : n < N
  · rw [co_get (by rw [List.length_replicate]; exact z), List.getElem_replicate]
  · exact co_ge (by rw [List.length_replicate]; omega)
theorem pc_rep (N : Nat) (b : Nat → Rat) (n : Nat) : pc (co (List.replicate N 0)) b n = 0 := by
  rw [← cs_pc _ b n 0 fun k _ => co_rep N k]
  rfl
abbrev dQ (f g : List Rat) : List Rat := trimR (drun g (f.length + 1 - g.length) (List.replicate (f.length + 1 - g.length) 0) f).1
abbrev dR (f g : List Rat) : List Rat := trimR (drun g (f.length + 1 - g.length) (List.replicate (f.length + 1 - g.length) 0) f).2
theorem d_spec {f g : List Rat} (hg : g ≠ []) (hl : co g (g.length - 1) ≠ 0) : (dQ f g).length ≤ f.length + 1 - g.length ∧ (dR f g).length < g.length ∧ ∀ n, pc (co (dQ f g)) (co g) n + co (dR f g) n = co f n := by
  have g0 : 0 < g.length := List.length_pos_iff.mpr hg
  obtain ⟨h1, h2, h3⟩ := drun_spec hg hl (f.length + 1 - g.length) (List.replicate (f.length + 1 - g.length) 0) f (by rw [List.length_replicate]; exact Nat.le_refl _) (by omega) (fun k _ => co_rep _ k)
  refine ⟨?_, ?_, fun n => ?_⟩
  · have := len_trim_le (drun g (f.length + 1 - g.length) (List.replicate (f.length + 1 - g.length) 0) f).1
    rw [h1, List.length_replicate] at this
    exact this
  · exact Nat.lt_of_le_of_lt (len_trim_le _) h2
  · rw [co_trim, pc_congr (co_trim _) (fun _ => rfl), h3 n, pc_rep, Rat.zero_add]
theorem d_back {f g : List Rat} (hf : Tr f) (hg : g ≠ []) (hl : co g (g.length - 1) ≠ 0) : trimR (padd (trimR (conv (dQ f g) g)) (dR f g)) = f := by
  refine (tr_trim _).ext hf fun n => ?_
  rw [co_trim, co_padd, co_trim, co_conv]
  exact (d_spec hg hl).2.2 n
theorem d_of {f g a r : List Rat} (hg : g ≠ []) (hl : co g (g.length - 1) ≠ 0) (ha : Tr a) (hr : Tr r) (lr : r.length < g.length) (h : ∀ n, pc (co a) (co g) n + co r n = co f n) : dQ f g = a ∧ dR f g = r := by
  obtain ⟨h1, h2, h3⟩ := d_spec (f := f) hg hl
  obtain ⟨u1, u2⟩ := div_uniq hg hl (d := fun k => co (dQ f g) k - co a k) (e := fun k => co (dR f g) k - co r k) (N := max (dQ f g).length a.length)
    (fun k hk => by rw [co_ge (l := dQ f g) (by omega), co_ge (l := a) (by omega)]; grind) (fun k hk => by rw [co_ge (l := dR f g) (by omega), co_ge (l := r) (by omega)]; grind)
    (fun n => by
      rw [pc_sub_left]
      have e1 := h3 n
      have e2 := h n
      grind)
  refine ⟨(tr_trim _).ext ha fun k => ?_, (tr_trim _).ext hr fun k => ?_⟩
  · have := u1 k
    grind
  · have := u2 k
    grind
theorem slope_prod (a b : List Rat) : slope (trimR (conv a b)) = trimR (padd (trimR (conv (trimR (slope a)) b)) (trimR (conv a (trimR (slope b))))) := by
  refine (tr_slope (tr_trim _)).ext (tr_trim _) fun n => ?_
  rw [co_slope, co_trim, co_padd, co_trim, co_trim, co_conv, co_conv]
  unfold slp
  rw [co_trim, co_conv, slp_cs]
  rw [pc_congr (a := co (trimR (slope a))) (a' := slp (co a)) (fun i => by rw [co_trim, co_slope]) (fun _ => rfl), pc_congr (a := co a) (b := co (trimR (slope b))) (b' := slp (co b)) (fun _ => rfl) (fun i => by rw [co_trim, co_slope])]
theorem trim_snoc0 (l : List Rat) : trimR (l ++ [0]) = trimR l := trim_eq fun n => by
  rw [co_append]
  by_cases z : n < l.length
  · rw [if_pos z]
  · rw [if_neg z, co_ge (l := l) (by omega)]
    by_cases z2 : n - l.length = 0
    · rw [z2]
      rfl
    · exact co_ge (by simp; omega)
/-- sizes of drawn ones -/
theorem fits1 {f g : List Rat} (bf : RbL 12 f) (bg : RbL 12 g) (lf : f.length ≤ 9) (lg : g.length ≤ 4) (hg : g ≠ []) (hl : co g (g.length - 1) ≠ 0) : dfits 800 g (f.length + 1 - g.length) f := by
  have g0 : 0 < g.length := List.length_pos_iff.mpr hg
  obtain ⟨W, w1, w2, w3⟩ := sc_of bf
  obtain ⟨D, d1, d2, d3⟩ := sc_of bg
  refine dfits_of hg hl (d := 49) (kg := 61) d1 (d2.mono (by omega)) (fun i => (d3 i).mono (by omega)) _ f W 109 121 (by omega) w1 (w2.mono (by omega)) (fun i => (w3 i).mono (by omega)) ?_ ?_ <;> omega
theorem fits2 {f g r h : List Rat} (bf : RbL 12 f) (bg : RbL 12 g) (br : RbL 12 r) (lf : f.length ≤ 9) (lg : g.length ≤ 4) (lr : r.length ≤ 3) (hg : g ≠ []) (hl : co g (g.length - 1) ≠ 0) (lh : h.length + 1 - g.length ≤ 9) (e : ∀ n, pc (co f) (co g) n + co r n = co h n) :
    dfits 1000 g (h.length + 1 - g.length) h := by
  have g0 : 0 < g.length := List.length_pos_iff.mpr hg
  obtain ⟨W, w1, w2, w3⟩ := sc_of bf
  obtain ⟨D, d1, d2, d3⟩ := sc_of bg
  obtain ⟨V, v1, v2, v3⟩ := sc_of br
  have bW : Bt 109 W := w2.mono (by omega)
  have bD : Bt 49 D := d2.mono (by omega)
  have bV : Bt 37 V := v2.mono (by omega)
  have WD := mul_ge1 w1 d1
  refine dfits_of hg hl (d := 49) (kg := 61) d1 bD (fun i => (d3 i).mono (by omega)) _ h (W * D * V) 195 229 (by omega) (mul_ge1 WD v1) (((bW.mul bD).mul bV).mono (by omega)) (fun i => ?_) (by omega) (by omega)
  rw [← e i, ← cs_co]
  have s1 := (sc_pc w1 d1 (fun i => (w3 i).mono (show _ ≤ 121 by omega)) (fun i => (d3 i).mono (show _ ≤ 61 by omega)) f.length i).scale WD v1 bV
  have s2 := (v3 i).scale v1 WD (bW.mul bD)
  rw [Int.mul_comm] at s2
  exact ((s1.mono (show _ ≤ 228 by omega)).add (s2.mono (show _ ≤ 228 by omega)) (mul_ge1 WD v1)).mono (by omega)
theorem len_whole {f g r : List Rat} (lf : f.length ≤ 9) (g0 : 0 < g.length) (lr : r.length < g.length) : (trimR (padd (trimR (conv f g)) r)).length + 1 - g.length ≤ 9 := by
  have h1 := len_trim_le (padd (trimR (conv f g)) r)
  rw [len_padd] at h1
  have h2 := len_trim_le (conv f g)
  rw [len_conv] at h2
  omega
theorem rds_val : ∀ rs : List Rat, (rs.map rd).map valQ = rs
  | [] => rfl
  | r :: rs => by
    rw [List.map_cons, List.map_cons, rd_val, rds_val rs]
theorem rds_ok {n : Nat} {rs : List Rat} (h : RbL n rs) : ∀ d ∈ rs.map rd, isFrD d = true ∧ Bt n (upD d) ∧ Bt n (dnD d) := by
  intro d hd
  obtain ⟨r, hr, rfl⟩ := List.mem_map.mp hd
  exact ⟨rd_fr r, (h r hr).1, (h r hr).2⟩
theorem RbL.of_val {n : Nat} {ds : List PyData} {rs : List Rat} (h : ∀ d ∈ ds, isFrD d = true ∧ Bt n (upD d) ∧ Bt n (dnD d)) (e : ds.map valQ = rs) : RbL n rs := by
  intro r hr
  rw [← e] at hr
  obtain ⟨d, hd, rfl⟩ := List.mem_map.mp hr
  obtain ⟨f1, f2, f3⟩ := h d hd
  exact Rb.of (fr_dn f1) f2 f3
/-! ### steps -/
section
variable {K : PySem.W.Frag} {σ : L2.St} {H H1 : Hp} {Q : VK} {te : TE} {tt : TT} {vs : List Nat} {q p : Addr}
theorem cut_P (P : V → Hp → Prop) (h1 : ∀ Q' : VK, (∀ v H', P v H' → Q' v H') → te σ H Q') (h2 : ∀ v H', P v H' → Q v H') : te σ H Q := h1 Q h2
theorem g_lcTu {g : TG} {tl : TE} (h : tl σ H fun x H1 => ∃ a, x = .ref a ∧ (∃ xs, SqT K H1 a xs) ∧ LcGo (Itt K a) g tt te vs σ H1 Q) : tLc (iTup K tl) g tt te vs σ H Q := h
theorem dq_poly {acc ws : List V} {rs : List Rat} (hq : H q = some (.lst acc)) (e : H p = some (.tup ws)) (t : TL H ws rs) : Dq q K H (.ref p) (.tuple (rs.map rd)) :=
  .tup (fun z => by rw [z, hq] at e; cases e) (tupU e) (TL.data hq t)
/-- a comprehension of fractions told in some way -/
theorem lc_as {i1 j : Nat} {t : Int} {ws : List V} {rs : List Rat} (hq : Qy K q t H) (ht : t ≤ 900000) (ep : H p = some (.tup ws)) (tl : TL H ws rs) (b : RbL 100 rs) (l : rs.length ≤ 200)
    (hw : ∀ x, wipe ((wipe σ vs).set j (some x)) vs = wipe σ vs) (h1 : ∀ x, ((wipe σ vs).set j (some x))[i1]? = some (some (.ref q))) (h2 : ∀ x, ((wipe σ vs).set j (some x))[j]? = some (some x))
    (k : ∀ D H' t' xs ds, SameX q H H' → Qy K q t' H' → t ≤ t' → t' ≤ t + 2 * (rs.length : Int) → H D = none → D ≠ q → H' D = some (.lst xs) → DqAll q K H' xs ds → (∀ d ∈ ds, isFrD d = true ∧ Bt 140 (upD d) ∧ Bt 140 (dnD d)) → ds.map valQ = rs → Q (.ref D) H') :
    LcGo (Itt K p) (gName j) tYes (tCl (sp_las K) (tCons (tVar i1) (tCons (tVar j) tNil))) vs σ H Q := by
  have lw := tl.len
  refine lcgo_tupF (xs := ws) (fun D i H' => ∃ t' xs fs, Qy K q t' H' ∧ t ≤ t' ∧ t' ≤ t + 2 * (i : Int) ∧ Qn q D H' ∧ SameX q H H' ∧ H' D = some (.lst xs) ∧ xs.length = i ∧ FzAll (fun b => b = q ∨ b = D) H' xs fs ∧ fs.map Fq.q = rs.take i) hw
    (fun D hD => ⟨t, [], [], hq.upd (Qn.new hq hD) (hq.ne hD), by omega, by omega, Qn.upd hq (Qn.new hq hD) (hq.ne hD), Same.x (same_new hD), upd_same, rfl, .nil, rfl⟩)
    (fun D i H' _ h => ?_) (fun D i x H' hD ex h => ?_) (fun D H' hD h => ?_)
  · obtain ⟨t', xs, fs, hq', _, _, _, sx, _⟩ := h
    exact tupU (sx.kt hq _ _ ep)
  · obtain ⟨t', xs, fs, hq', lt', ut', hn', sx, eD, lv, hall, ev⟩ := h
    have hi := (List.getElem?_eq_some_iff.mp ex).1
    have kx := sx.kt hq
    obtain ⟨pi, rfl, ei, gi⟩ := (tl.go kx).get ex
    have nD : D ≠ q := hq.ne hD
    refine g_yes ?_
    refine g_iteT ?_
    refine g_cl (g_cons (g_var (h1 _) (g_cons (g_var (h2 _) (g_nil ?_)))))
    refine ⟨q, pi, t', co rs i, rfl, hq', by omega, ei, b.co (by decide) i, fun t6 H6 v x y sx6 hq6 l6 u6 hz hy er bx by_ => ?_⟩
    have hn6 := hn'.go hq' sx6
    have eD6 := sx6 _ _ nD eD
    refine ⟨xs, eD6, small1000 (by omega), t6, xs ++ [v], fs ++ [⟨x, y, hy, bx, by_⟩], hq6.upd hn6 nD, by omega, by omega, Qn.upd hq6 hn6 nD, ?_, upd_same, by rw [List.length_append, lv]; rfl,
      FzAll.app (f := ⟨x, y, hy, bx, by_⟩) (hz.go fun b o nb eb => ?_) (hall.go fun b o nb eb => ⟨?_, nb⟩), ?_⟩
    · refine ⟨fun b o nb e => ?_, fun c w z e => ?_⟩
      · rw [upd_ne (ne_of_none e hD)]
        exact (sx.trans sx6).kept b o nb e
      · obtain ⟨w', z', e'⟩ := (sx.trans sx6).cell c w z e
        exact ⟨w', z', by rw [upd_ne nD.symm]; exact e'⟩
    · have nbq : b ≠ q := fun z => nb (by obtain ⟨c, ns, r, e1, _⟩ := hq'; rw [z]; exact ⟨_, e1⟩)
      have nbD : b ≠ D := fun z => nb (by rw [z]; exact ⟨_, eD⟩)
      refine ⟨by rw [upd_ne nbD]; exact eb, fun z => ?_⟩
      rcases z with z | z
      · exact nbq z
      · exact nbD z
    · rw [upd_ne (fun z => nb (.inr z))]
      exact sx6 _ _ (fun z => nb (.inl z)) eb
    · rw [List.map_append, ev, take_snoc gi]
      show rs.take i ++ [Fq.q ⟨x, y, hy, bx, by_⟩] = _
      unfold Fq.q
      rw [er]
  · obtain ⟨t', xs, fs, hq', lt', ut', hn', sx, eD, lv, hall, ev⟩ := h
    obtain ⟨ds, hds, hok, eds⟩ := hall.dq (K := K) (q := q) (.inl rfl)
    rw [lw, List.take_length] at ev
    exact k D H' t' xs ds sx hq' lt' (by rw [← lw]; exact ut') hD (hq.ne hD) eD hds hok (eds.trans ev)
/-- lists of polynomials -/
inductive PL (H : Hp) : List V → List (List Rat) → Prop
  | nil : PL H [] []
  | cons {a : Addr} {ws vs : List V} {r : List Rat} {rs : List (List Rat)} : H a = some (.tup ws) → TL H ws r → PL H vs rs → PL H (.ref a :: vs) (r :: rs)
theorem PL.go {H H' : Hp} (s : KeepT H H') : ∀ {vs : List V} {rs : List (List Rat)}, PL H vs rs → PL H' vs rs
  | _, _, .nil => .nil
  | _, _, .cons e t r => .cons (s _ _ e) (t.go s) (PL.go s r)
theorem PL.snoc {a : Addr} {ws : List V} {r : List Rat} (e : H a = some (.tup ws)) (t : TL H ws r) : ∀ {vs : List V} {rs : List (List Rat)}, PL H vs rs → PL H (vs ++ [.ref a]) (rs ++ [r])
  | _, _, .nil => .cons e t .nil
  | _, _, .cons e2 t2 l => .cons e2 t2 (PL.snoc e t l)
theorem PL.get {H : Hp} : ∀ {vs : List V} {rs : List (List Rat)} {i : Nat} {v : V}, PL H vs rs → vs[i]? = some v → ∃ a ws r, v = .ref a ∧ H a = some (.tup ws) ∧ TL H ws r ∧ rs[i]? = some r
  | _, _, _, _, .nil, h => by cases h
  | _, _, 0, _, .cons e t _, h => by
    cases h
    exact ⟨_, _, _, rfl, e, t, rfl⟩
  | _, _, i + 1, v, .cons _ _ l, h => by
    obtain ⟨a, ws, r, h1, h2, h3, h4⟩ := PL.get (i := i) (v := v) l h
    exact ⟨a, ws, r, h1, h2, h3, h4⟩
theorem PL.len {H : Hp} : ∀ {vs : List V} {rs : List (List Rat)}, PL H vs rs → vs.length = rs.length
  | _, _, .nil => rfl
  | _, _, .cons _ _ l => congrArg Nat.succ (PL.len l)
def pd (r : List Rat) : PyData := .tuple (r.map rd)
theorem PL.dp {H : Hp} : ∀ {vs : List V} {rs : List (List Rat)}, PL H vs rs → DpAll K H vs (rs.map pd)
  | _, _, .nil => .nil
  | _, _, .cons e t l => .cons (.tup (tupU e) t.dp) (PL.dp l)
theorem PL.data {H : Hp} {acc : List V} (hq : H q = some (.lst acc)) : ∀ {vs : List V} {rs : List (List Rat)}, PL H vs rs → DqAll q K H vs (rs.map pd)
  | _, _, .nil => .nil
  | _, _, .cons e t l => .cons (dq_poly hq e t) (PL.data hq l)
theorem pl2 {a b : Addr} {wa wb : List V} {ra rb : List Rat} (ea : H a = some (.tup wa)) (ta : TL H wa ra) (eb : H b = some (.tup wb)) (tb : TL H wb rb) : PL H [.ref a, .ref b] [ra, rb] := .cons ea ta (.cons eb tb .nil)
end
/-- two polynomials, shown -/
theorem sha_two {n L1 L2 : Nat} (hn : 1 ≤ n) (l : n ≤ 1900) {a b : List Rat} (ha : RbL n a) (hb : RbL n b) (la : a.length ≤ L1) (lb : b.length ≤ L2) :
    ShA (n + 1) (L1 * (2 * n + 4) + 1 + 1 + (L2 * (2 * n + 4) + 1 + 1 + 0)) 3 [pd a, pd b] := sha_cons (shn_poly hn l ha la) (sha_cons (shn_poly hn l hb lb) (sha_nil (W := 0)))
end Mf
namespace Mf
open PySem PySem.Spec PyProof.Rows L2
theorem rbl_slope {n : Nat} {l : List Rat} (h : RbL n l) (hn : 1 ≤ n) (hl : l.length ≤ 1000) : RbL (10 + n) (slope l) := RbL.of_co fun i hi => by
  rw [len_slope] at hi
  rw [co_slope]
  exact (Rb_nat (by omega)).mul (h.co hn _)
theorem ne_tl {H : Hp} {p q : Addr} {acc ws : List V} (hq : H q = some (.lst acc)) (e : H p = some (.tup ws)) : p ≠ q := fun z => by
  rw [z, hq] at e
  cases e
theorem ne_new {H : Hp} {p q : Addr} {acc : List V} (hq : H q = some (.lst acc)) (e : H p = none) : p ≠ q := fun z => by
  rw [z, hq] at e
  cases e
theorem tr_one {r : Rat} (h : r ≠ 0) : Tr [r] := fun _ => h
theorem tr_two {a r : Rat} (h : r ≠ 0) : Tr [a, r] := fun _ => h
theorem bt_lit {n : Nat} {i : Int} (h : i.natAbs < 8) (hn : 3 ≤ n) : Bt n i := Bt.mono (m := 3) h hn
end Mf
namespace Mf
open PySem PySem.Spec PyProof.Rows L2
/-! ### lcm; one down for all -/
def rLcm : List V → Hp → VK → Prop := fun vs H Q => ∃ a b : Int, vs = [.int a, .int b] ∧ Bt 5000 a ∧ Bt 5000 b ∧ Q (.int ((Nat.lcm a.natAbs b.natAbs : Nat) : Int)) H
theorem lcm_lt {a b m n : Nat} (ha : a < 2 ^ m) (hb : b < 2 ^ n) : Nat.lcm a b < 2 ^ (m + n) := by
  by_cases z : a * b = 0
  · have e : Nat.lcm a b = 0 := by
      unfold Nat.lcm
      rw [z, Nat.zero_div]
    rw [e]
    exact Nat.two_pow_pos _
  · exact Nat.lt_of_le_of_lt (Nat.le_of_dvd (Nat.pos_of_ne_zero z) (Nat.lcm_dvd (Nat.dvd_mul_right a b) (Nat.dvd_mul_left b a))) (by rw [Nat.pow_add]; exact Nat.mul_lt_mul'' ha hb)
theorem cr_lcm {X : Cx} : CallR X (.builtin "math.lcm") rLcm := by
  intro pins s σ H vs us Q I r h
  obtain ⟨a, b, rfl, ha, hb, q⟩ := h
  obtain ⟨t, u, rfl⟩ := Vals.int2 r
  have lg : ∀ {n : Nat}, n < 2 ^ 5000 → n.log2 < 5000 := fun {n} h => by
    by_cases z : n = 0
    · rw [z, Nat.log2_zero]
      decide
    · exact (Nat.log2_lt z).mpr h
  have e : (Nat.lcm 1 a.natAbs).lcm b.natAbs = Nat.lcm a.natAbs b.natAbs := by rw [Nat.lcm_one_left]
  have l1 : (max 1 a.natAbs).log2 < 5000 := lg (by
    have : 1 < 2 ^ 5000 := Nat.one_lt_two_pow (by decide)
    have := show a.natAbs < 2 ^ 5000 from ha
    omega)
  have l2 : (max a.natAbs b.natAbs).log2 < 5000 := lg (by
    have := show a.natAbs < 2 ^ 5000 from ha
    have := show b.natAbs < 2 ^ 5000 from hb
    omega)
  have l3 : ((((Nat.lcm 1 a.natAbs).lcm b.natAbs : Nat) : Int)).natAbs.log2 < bitsLine := by
    rw [Int.natAbs_natCast, e]
    have h := lcm_lt (show a.natAbs < 2 ^ 5000 from ha) (show b.natAbs < 2 ^ 5000 from hb)
    have h2 : (Nat.lcm a.natAbs b.natAbs).log2 < 10000 := by
      by_cases z : Nat.lcm a.natAbs b.natAbs = 0
      · rw [z, Nat.log2_zero]
        decide
      · exact (Nat.log2_lt z).mpr h
    exact Nat.lt_of_lt_of_le h2 (by decide +kernel)
  have g := PySem.W.mg_run_lcm a t b u (by omega) (by omega) l3
  rw [e] at g
  exact call_function_meets PySem.W.MGF.kind_lcm PySem.W.MGF.plain_lcm PySem.W.MGF.entry_lcm (PySem.W.MGF.args_lcm _ _) g.meets ⟨.int _, H, I.tok _, ⟨_, rfl⟩, q⟩
/-- xs[i] op= e -/
def rGetL (K : PySem.W.Frag) : V → V → Hp → VK → Prop := fun o i H Q => ∃ (a : Addr) (xs : List V) (k : Nat) (v : V), o = .ref a ∧ i = .int (k : Int) ∧ SqL K H a xs ∧ xs[k]? = some v ∧ Q v H
theorem pget_list {X : Cx} : PGet X (rGetL X.K) := by
  intro pins s σ H o i ov iv Q I ro ri h
  obtain ⟨a, xs, k, v, rfl, rfl, hq, he, q⟩ := h
  obtain rfl : ov = Value.ref a := ro
  obtain ⟨t, rfl⟩ := ri
  obtain ⟨its, r, pl, hz⟩ := I.list hq
  obtain ⟨w, ew, rw'⟩ := r.get he
  have hl := r.length
  have hk := (List.getElem?_eq_some_iff.mp he).1
  have hn := line63
  exact wpAny_getItem_list pl.isList (by omega) (by omega) (by simpa using ew) ⟨v, H, I, rw', q⟩
def lcmL (rs : List Rat) : Nat := rs.foldl (fun d r => Nat.lcm d r.den) 1
theorem lcmL_snoc (rs : List Rat) (r : Rat) : lcmL (rs ++ [r]) = Nat.lcm (lcmL rs) r.den := by
  unfold lcmL
  rw [List.foldl_append]
  rfl
theorem lcmL_pos (rs : List Rat) : 0 < lcmL rs := by
  have key : ∀ (rs : List Rat) (d : Nat), 0 < d → 0 < rs.foldl (fun d r => Nat.lcm d r.den) d := by
    intro rs
    induction rs with
    | nil => exact fun d h => h
    | cons r rs ih => exact fun d h => ih _ (Nat.lcm_pos h r.den_pos)
  exact key rs 1 (by decide)
theorem dvd_fold : ∀ (rs : List Rat) (d : Nat), d ∣ rs.foldl (fun d r => Nat.lcm d r.den) d ∧ ∀ r ∈ rs, r.den ∣ rs.foldl (fun d r => Nat.lcm d r.den) d
  | [], d => ⟨Nat.dvd_refl d, fun r h => absurd h List.not_mem_nil⟩
  | r :: rs, d => by
    obtain ⟨h1, h2⟩ := dvd_fold rs (Nat.lcm d r.den)
    refine ⟨Nat.dvd_trans (Nat.dvd_lcm_left _ _) h1, fun x hx => ?_⟩
    rcases List.mem_cons.mp hx with rfl | hx
    · exact Nat.dvd_trans (Nat.dvd_lcm_right _ _) h1
    · exact h2 x hx
theorem lcmL_lt {n : Nat} : ∀ {rs : List Rat} {d m : Nat}, RbL n rs → d < 2 ^ m → rs.foldl (fun d r => Nat.lcm d r.den) d < 2 ^ (m + rs.length * n)
  | [], d, m, _, h => by simpa using h
  | r :: rs, d, m, hb, h => by
    have hr : r.den < 2 ^ n := by
      have := (hb r List.mem_cons_self).2
      unfold Bt at this
      rw [Int.natAbs_natCast] at this
      exact this
    have := lcmL_lt (rs := rs) (fun x hx => hb x (List.mem_cons_of_mem _ hx)) (lcm_lt h hr)
    rw [List.length_cons, Nat.succ_mul]
    rw [show m + (rs.length * n + n) = m + n + rs.length * n by omega]
    exact this
theorem lcmL_bt {n : Nat} {rs : List Rat} (h : RbL n rs) : Bt (rs.length * n + 1) (lcmL rs : Int) := by
  show (lcmL rs : Int).natAbs < _
  rw [Int.natAbs_natCast, Nat.add_comm]
  exact lcmL_lt (m := 1) h (by decide)
theorem one_down {r : Rat} {D : Nat} (hD : 0 < D) (h : r.den ∣ D) : Rat.divInt (r.num * ((D : Int) / (r.den : Int))) D = r := by
  obtain ⟨c, rfl⟩ := h
  have d0 := r.den_pos
  have c0 : 0 < c := Nat.pos_of_mul_pos_left hD
  have e : ((r.den * c : Nat) : Int) / (r.den : Int) = (c : Int) := by
    rw [Int.natCast_mul, Int.mul_ediv_cancel_left _ (by omega)]
  rw [e, Int.natCast_mul, Rat.divInt_mul_right (by omega), Rat.num_divInt_den]
theorem len_lead {a b : List Rat} (hb : b ≠ []) (k : Nat) (hk : k + 1 = a.length) : pc (co a) (co b) (k + (b.length - 1)) = co a k * co b (b.length - 1) := by
  have hb0 : 0 < b.length := List.length_pos_iff.mpr hb
  rw [← cs_pc (co a) (co b) (k + (b.length - 1)) (k + 1) fun i hi => co_ge (by omega)]
  have low : ∀ i, i ≤ k → cs (co a) (co b) i (k + (b.length - 1)) = 0 := by
    intro i
    induction i with
    | zero => intro _; rfl
    | succ i ih2 =>
      intro hi
      rw [cs_succ, ih2 (by omega), if_pos (by omega), co_ge (l := b) (by omega)]
      grind
  rw [cs_succ, low k (Nat.le_refl k), if_pos (by omega), Rat.zero_add, show k + (b.length - 1) - k = b.length - 1 by omega]
theorem tr_conv {a b : List Rat} (ha : Tr a) (hb : Tr b) (na : a ≠ []) (nb : b ≠ []) : Tr (conv a b) := by
  intro hne
  have a0 : 0 < a.length := List.length_pos_iff.mpr na
  have b0 : 0 < b.length := List.length_pos_iff.mpr nb
  rw [co_conv, len_conv, show a.length + b.length - 1 - 1 = (a.length - 1) + (b.length - 1) by omega, len_lead nb (a.length - 1) (by omega)]
  intro z
  rcases Rat.mul_eq_zero.mp z with e | e
  · exact ha na e
  · exact hb nb e
/-! ### values -/
def evs (c : Nat → Rat) (x : Rat) : Nat → Rat
  | 0 => 0
  | i + 1 => evs c x i + c i * x ^ i
def hor (c : Nat → Rat) (x : Rat) : Nat → Nat → Rat
  | _, 0 => 0
  | k, n + 1 => hor c x (k + 1) n * x + c k
theorem hor_snoc (c : Nat → Rat) (x : Rat) : ∀ (n k : Nat), hor c x k n = evs (fun i => c (k + i)) x n
  | 0, k => rfl
  | n + 1, k => by
    show hor c x (k + 1) n * x + c k = _
    rw [hor_snoc c x n (k + 1)]
    have key : ∀ m, evs (fun i => c (k + i)) x (m + 1) = evs (fun i => c (k + 1 + i)) x m * x + c k := by
      intro m
      induction m with
      | zero =>
        show 0 + c (k + 0) * x ^ 0 = 0 * x + c k
        rw [Rat.pow_zero, Nat.add_zero]
        grind
      | succ m ih =>
        show evs (fun i => c (k + i)) x (m + 1) + c (k + (m + 1)) * x ^ (m + 1) = (evs (fun i => c (k + 1 + i)) x m + c (k + 1 + m) * x ^ m) * x + c k
        rw [ih, Rat.pow_succ, show k + (m + 1) = k + 1 + m by omega]
        grind
    rw [key n]
theorem evs_stop {c : Nat → Rat} {x : Rat} {m : Nat} (h : ∀ k, m ≤ k → c k = 0) : ∀ n, m ≤ n → evs c x n = evs c x m
  | 0, hn => by
    have : m = 0 := by omega
    rw [this]
  | n + 1, hn => by
    by_cases e : m = n + 1
    · rw [e]
    · show evs c x n + c n * x ^ n = _
      rw [evs_stop h n (by omega), h n (by omega), Rat.zero_mul, Rat.add_zero]
def val (l : List Rat) (x : Rat) : Rat := evs (co l) x l.length
theorem val_ge {l : List Rat} {x : Rat} {n : Nat} (h : l.length ≤ n) : evs (co l) x n = val l x := evs_stop (fun k hk => co_ge hk) n h
theorem evs_congr {c d : Nat → Rat} (h : ∀ i, c i = d i) (x : Rat) (n : Nat) : evs c x n = evs d x n := by rw [funext h]
theorem val_co {a b : List Rat} (h : ∀ i, co a i = co b i) (x : Rat) : val a x = val b x := by
  rw [← val_ge (l := a) (n := max a.length b.length) (by omega), ← val_ge (l := b) (n := max a.length b.length) (by omega)]
  exact evs_congr h x _
theorem val_trim (l : List Rat) (x : Rat) : val (trimR l) x = val l x := val_co (co_trim l) x
theorem rpow_add (x : Rat) (s : Nat) : ∀ n, x ^ (s + n) = x ^ s * x ^ n
  | 0 => by rw [Nat.add_zero, Rat.pow_zero, Rat.mul_one]
  | n + 1 => by rw [← Nat.add_assoc, Rat.pow_succ, rpow_add x s n, Rat.pow_succ, Rat.mul_assoc]
/-- the value of a product: one number of the first one after the other -/
theorem evs_shift (b : Nat → Rat) (x a : Rat) (s : Nat) : ∀ n, evs (fun j => if s ≤ j then a * b (j - s) else 0) x (s + n) = a * x ^ s * evs b x n
  | 0 => by
    have z : ∀ m, m ≤ s → evs (fun j => if s ≤ j then a * b (j - s) else 0) x m = 0 := by
      intro m
      induction m with
      | zero => intro _; rfl
      | succ m ih =>
        intro hm
        show evs _ x m + (if s ≤ m then a * b (m - s) else 0) * x ^ m = 0
        rw [ih (by omega), if_neg (by omega)]
        grind
    rw [Nat.add_zero, z s (Nat.le_refl s)]
    show 0 = a * x ^ s * 0
    grind
  | n + 1 => by
    show evs _ x (s + n) + (if s ≤ s + n then a * b (s + n - s) else 0) * x ^ (s + n) = a * x ^ s * (evs b x n + b n * x ^ n)
    rw [evs_shift b x a s n, if_pos (by omega), show s + n - s = n by omega, rpow_add]
    grind
theorem evs_add (c d : Nat → Rat) (x : Rat) : ∀ n, evs (fun j => c j + d j) x n = evs c x n + evs d x n
  | 0 => by show (0 : Rat) = 0 + 0; grind
  | n + 1 => by
    show evs _ x n + (c n + d n) * x ^ n = _ + _
    rw [evs_add c d x n]
    show _ = (evs c x n + c n * x ^ n) + (evs d x n + d n * x ^ n)
    grind
theorem evs_cs (a b : Nat → Rat) (x : Rat) (L : Nat) : ∀ i n, (∀ k, L ≤ k → b k = 0) → i + L ≤ n → evs (cs a b i) x n = evs a x i * evs b x L
  | 0, n, _, _ => by
    have z : ∀ m, evs (cs a b 0) x m = 0 := by
      intro m
      induction m with
      | zero => rfl
      | succ m ih =>
        show evs _ x m + cs a b 0 m * x ^ m = 0
        rw [ih]
        show 0 + 0 * _ = _
        grind
    rw [z]
    show 0 = 0 * _
    grind
  | i + 1, n, hb, hn => by
    have e : ∀ j, cs a b (i + 1) j = cs a b i j + (if i ≤ j then a i * b (j - i) else 0) := fun j => rfl
    rw [evs_congr e, evs_add (cs a b i) (fun j => if i ≤ j then a i * b (j - i) else 0), evs_cs a b x L i n hb (by omega)]
    obtain ⟨m, rfl⟩ : ∃ m, n = i + m := ⟨n - i, by omega⟩
    rw [evs_shift, evs_stop hb m (by omega)]
    show _ = (evs a x i + a i * x ^ i) * _
    grind
theorem val_conv (a b : List Rat) (x : Rat) : val (conv a b) x = val a x * val b x := by
  have h := evs_cs (co a) (co b) x b.length a.length (a.length + b.length) (fun k hk => co_ge hk) (Nat.le_refl _)
  rw [← val_ge (l := conv a b) (n := a.length + b.length) (by rw [len_conv]; omega)]
  rw [evs_congr (d := cs (co a) (co b) a.length) (fun j => by rw [co_conv, cs_co])]
  exact h
/-- sizes of values -/
theorem Rb.pow {n : Nat} {x : Rat} (h : Rb n x) : ∀ i, Rb (1 + i * n) (x ^ i)
  | 0 => by rw [Rat.pow_zero]; exact Rb1.mono (by omega)
  | i + 1 => by
    rw [Rat.pow_succ, Nat.succ_mul]
    exact ((Rb.pow h i).mul h).mono (by omega)
theorem Rb.ev {A B : Nat} {c : Nat → Rat} {x : Rat} (hc : ∀ i, Rb B (c i)) (hx : Rb A x) (m : Nat) : ∀ i, i ≤ m → Rb (1 + i * (B + 2 + m * A)) (evs c x i)
  | 0, _ => Rb0.mono (by omega)
  | i + 1, hi => by
    have h := (Rb.ev hc hx m i (by omega)).add ((hc i).mul (hx.pow i))
    refine h.mono ?_
    have : i * A ≤ m * A := Nat.mul_le_mul_right _ (by omega)
    rw [Nat.succ_mul]
    omega
theorem Rb.hor {A B : Nat} {c : Nat → Rat} {x : Rat} (hc : ∀ i, Rb B (c i)) (hx : Rb A x) : ∀ n k, Rb (1 + n * (A + B + 1)) (hor c x k n)
  | 0, k => Rb0.mono (by omega)
  | n + 1, k => by
    have h := ((Rb.hor hc hx n (k + 1)).mul hx).add (hc k)
    refine h.mono ?_
    rw [Nat.succ_mul]
    omega
end Mf
namespace Mf
open PySem PySem.Spec PyProof.Rows L2
section
variable {K : PySem.W.Frag} {σ : L2.St} {H H1 : Hp} {Q : VK} {te ti to : TE} {tt : TT} {vs : List Nat} {D : Ends} {tb : TS}
/-- for x, y in a: a tuple of fractions -/
theorem g_forTP {i0 i j : Nat} {a : Addr} {xs : List V} {rs : List Rat} {H0 : Hp} (e : σ[i0]? = some (some (.ref a))) (ha : H0 a = some (.tup xs)) (tl : TL H0 xs rs) (Pv : Nat → L2.St → Hp → Prop) (h0 : Pv 0 σ H) (hx : ∀ n σ' H', Pv n σ' H' → Same H0 H')
    (hb : ∀ n σ' H', n < rs.length → rs[n]? = some (co rs n) → Pv n σ' H' → tb ⟨Pv (n + 1), D.rt, D.nx, Pv (n + 1)⟩ ((σ'.set i (some (.int (co rs n).num))).set j (some (.int ((co rs n).den : Int)))) H')
    (hd : ∀ σ' H', Pv rs.length σ' H' → D.nx σ' H') : tFor (iTup K (tVar i0)) (g2 K i j) tb D σ H := by
  have hl := tl.len
  refine ⟨.ref a, e, a, rfl, ⟨xs, tupU (hx _ _ _ h0 _ _ ha)⟩, for_tup (xs := xs) Pv h0 (fun n σ' H' _ p => tupU (hx _ _ _ p _ _ ha)) (fun n x σ' H' ex p => ?_) (fun σ' H' p => hd σ' H' (by rw [← hl]; exact p))⟩
  obtain ⟨b, rfl, eb, gb⟩ := (tl.go (Same.kt (hx _ _ _ p))).get ex
  exact g_pair (tupU eb) (hb n σ' H' (List.getElem?_eq_some_iff.mp gb).1 gb p)
theorem lcgo_tupP {a : Addr} {xs : List V} {rs : List Rat} {i j : Nat} (ha : H1 a = some (.tup xs)) (tl : TL H1 xs rs) (Pv : Addr → Nat → Hp → Prop) (hw : ∀ x y, wipe (((wipe σ vs).set i (some x)).set j (some y)) vs = wipe σ vs)
    (h0 : ∀ D, H1 D = none → Pv D 0 (upd H1 D (.lst []))) (hl : ∀ D n H, Pv D n H → Same H1 H)
    (hs : ∀ D n H, H1 D = none → n < rs.length → rs[n]? = some (co rs n) → Pv D n H → te (((wipe σ vs).set i (some (.int (co rs n).num))).set j (some (.int ((co rs n).den : Int)))) H fun y H4 => ∃ acc, H4 D = some (.lst acc) ∧ acc.length < sizeLine ∧ Pv D (n + 1) (upd H4 D (.lst (acc ++ [y]))))
    (hd : ∀ D H, H1 D = none → Pv D rs.length H → Q (.ref D) H) : LcGo (Itt K a) (g2 K i j) tYes te vs σ H1 Q := by
  intro D hD
  have hlen := tl.len
  refine ⟨fun n m H => m = xs.length - n ∧ n ≤ xs.length ∧ Pv D n H, ⟨xs.length, by omega, Nat.zero_le _, h0 D hD⟩, ?_⟩
  rintro n m H ⟨rfl, hi, p⟩
  have q := tupU (K := K) (hl D n H p _ _ ha)
  by_cases hlt : n < xs.length
  · refine .inr ⟨⟨xs, xs[n], q, by simp [hlt]⟩, Pv D (n + 1), fun H' p' => ⟨xs.length - (n + 1), by omega, rfl, hlt, p'⟩, fun x H' yl => ?_⟩
    obtain ⟨rfl, yl⟩ := yl
    obtain ⟨b, rfl, eb, gb⟩ := (tl.go (Same.kt (hl D n _ p))).get (yl xs q)
    exact g_pair (tupU eb) ⟨hw _ _, g_yes (g_iteT (hs D n _ hD (by omega) gb p))⟩
  · have e2 : n = xs.length := by omega
    subst e2
    exact .inl ⟨⟨xs, q, Nat.le_refl _⟩, hd D H hD (by rw [← hlen]; exact p)⟩
/-- .. over enumerate(a), a a list -/
theorem lcgo_enumL {a : Addr} {xs : List V} {i j : Nat} (Pv : Addr → Nat → Hp → Prop) (hw : ∀ x y, wipe (((wipe σ vs).set i (some x)).set j (some y)) vs = wipe σ vs)
    (h0 : ∀ D, H1 D = none → Pv D 0 (upd H1 D (.lst []))) (hl : ∀ D n H, n ≤ xs.length → Pv D n H → SqL K H a xs)
    (hs : ∀ D n x T H, H1 D = none → xs[n]? = some x → Pv D n H → H T = none → tt (((wipe σ vs).set i (some (.int (n : Nat)))).set j (some x)) (upd H T (.tup [.int (n : Nat), x])) fun b H3 =>
      if b = true then te (((wipe σ vs).set i (some (.int (n : Nat)))).set j (some x)) H3 fun y H4 => ∃ acc, H4 D = some (.lst acc) ∧ acc.length < sizeLine ∧ Pv D (n + 1) (upd H4 D (.lst (acc ++ [y]))) else Pv D (n + 1) H3)
    (hd : ∀ D H, H1 D = none → Pv D xs.length H → Q (.ref D) H) : LcGo (Ite K a) (g2 K i j) tt te vs σ H1 Q := by
  intro D hD
  refine ⟨fun n m H => m = xs.length - n ∧ n ≤ xs.length ∧ Pv D n H, ⟨xs.length, by omega, Nat.zero_le _, h0 D hD⟩, ?_⟩
  rintro n m H ⟨rfl, hi, p⟩
  have q := hl D n H hi p
  by_cases hlt : n < xs.length
  · refine .inr ⟨⟨xs, xs[n], q, by simp [hlt]⟩, Pv D (n + 1), fun H' p' => ⟨xs.length - (n + 1), by omega, rfl, hlt, p'⟩, fun x H' yl => ?_⟩
    obtain ⟨T, z, rfl, nT, rfl, ez⟩ := yl
    exact g_pair (tupU upd_same) ⟨hw _ _, hs D n z T H hD (ez xs q) p nT⟩
  · have e2 : n = xs.length := by omega
    subst e2
    exact .inl ⟨⟨xs, q, Nat.le_refl _⟩, hd D H hD p⟩
theorem g_lcEL {ta : TA} {g : TG} (q : ta σ H fun us H1 => ∃ a xs, us = [.ref a] ∧ SqL K H1 a xs ∧ LcGo (Ite K a) g tt te vs σ H1 Q) : tLc (iEnum K ta) g tt te vs σ H Q := q
theorem g_lcm {a b : Int} (ha : Bt 5000 a) (hb : Bt 5000 b) (q : Q (.int ((Nat.lcm a.natAbs b.natAbs : Nat) : Int)) H) : rLcm [.int a, .int b] H Q := ⟨a, b, rfl, ha, hb, q⟩
theorem g_augS {tg : V → V → Hp → VK → Prop} {tip : TIp} {ts : TSet} (q : to σ H fun o H1 => ti σ H1 fun i H2 => tg o i H2 fun x H3 => te σ H3 fun y H4 => tip x y H4 fun z H5 => ts o i z H5 fun H6 => D.nx σ H6) : tAugS to ti te tg tip ts D σ H := q
theorem g_ipI {f : Int → Int → Int} {i j : Int} (q : Q (.int (f i j)) H) : ipI f (.int i) (.int j) H Q := ⟨i, j, rfl, rfl, q⟩
theorem g_getL {a : Addr} {xs : List V} {k : Nat} {v : V} (h : SqL K H a xs) (e : xs[k]? = some v) (q : Q v H) : rGetL K (.ref a) (.int (k : Int)) H Q := ⟨a, xs, k, v, rfl, rfl, h, e, q⟩
/-- for x in reversed(a), a a tuple -/
theorem g_forRT {i0 j : Nat} {a : Addr} {xs : List V} {H0 : Hp} (e : σ[i0]? = some (some (.ref a))) (ha : H0 a = some (.tup xs)) (Pv : Nat → L2.St → Hp → Prop) (h0 : Pv 0 σ H) (hx : ∀ n σ' H', Pv n σ' H' → Same H0 H')
    (hb : ∀ n x σ' H', n < xs.length → xs[xs.length - 1 - n]? = some x → Pv n σ' H' → tb ⟨Pv (n + 1), D.rt, D.nx, Pv (n + 1)⟩ (σ'.set j (some x)) H')
    (hd : ∀ σ' H', Pv xs.length σ' H' → D.nx σ' H') : tFor (RT.iRevA K (tVar i0)) (gName j) tb D σ H := by
  refine ⟨.ref a, e, a, xs, rfl, .inr ⟨tupU (hx _ _ _ h0 _ _ ha), fun i m σ H => m = xs.length - i ∧ i ≤ xs.length ∧ Pv i σ H, ⟨xs.length, by omega, Nat.zero_le _, h0⟩, ?_⟩⟩
  rintro n m σ H ⟨rfl, hi, p⟩
  have q := tupU (K := K) (hx _ _ _ p _ _ ha)
  by_cases hlt : n < xs.length
  · have hl2 : xs.length - 1 - n < xs.length := by omega
    refine .inr ⟨⟨hlt, xs, xs[xs.length - 1 - n], q, List.getElem?_eq_getElem hl2⟩, Pv (n + 1), fun σ' H' p' => ⟨xs.length - (n + 1), by omega, rfl, hlt, p'⟩, fun x H' yl => ?_⟩
    obtain ⟨rfl, yl⟩ := yl
    exact hb n x σ _ hlt (yl xs q) p
  · have e2 : n = xs.length := by omega
    subst e2
    exact .inl ⟨Nat.le_refl _, hd σ H p⟩
/-- a for over range(e) -/
theorem g_forN {ta : TA} {j : Nat} {n : Nat} (Pv : Nat → L2.St → Hp → Prop) (hn : n ≤ 1000)
    (h : ta σ H fun vs H1 => vs = [.int (n : Int)] ∧ Pv 0 σ H1)
    (hmono : ∀ R R' : List V → Hp → Prop, (∀ vs H', R vs H' → R' vs H') → ta σ H R → ta σ H R')
    (hs : ∀ i σ H, i < n → Pv i σ H → tb ⟨Pv (i + 1), D.rt, D.nx, Pv (i + 1)⟩ (σ.set j (some (.int (0 + (i : Int))))) H) (hd : ∀ σ H, Pv n σ H → D.nx σ H) :
    tFor (iRng1 ta) (gName j) tb D σ H :=
  hmono _ _ (fun vs H1 hv => by
    obtain ⟨rfl, h0⟩ := hv
    exact ⟨(n : Int), rfl, by omega, by omega, by
      rw [Int.toNat_natCast]
      exact for_range (lo := 0) (n := n) Pv h0 (fun i σ H hi p => hs i σ H hi p) hd⟩) h
end
def ForGo (J : It) (g : TG) (tb : TS) (D : Ends) (σ : L2.St) (H1 : Hp) : Prop := ∃ W : Nat → Nat → L2.St → Hp → Prop, (∃ m, W 0 m σ H1) ∧ ∀ i m σ H, W i m σ H →
  (J.stop i H ∧ D.nx σ H) ∨ (J.go i H ∧ ∃ N : L2.St → Hp → Prop, (∀ σ' H', N σ' H' → ∃ m', m' < m ∧ W (i + 1) m' σ' H') ∧ ∀ x H', J.yld i H x H' → g x σ H' fun σ2 H2 => tb { D with nx := N, ct := N, bk := D.nx } σ2 H2)
/-! ### promises -/
def RetO (rs : List Rat) (n : Nat) (H : Hp) (Q : VK) : Prop := ∀ (p : Addr) (H' : Hp) (L : Addr) (us : List Int), Same H H' → H p = none → H' p = some (.tup [.ref L, .int (lcmL rs : Int)]) → H' L = some (.lst (us.map V.int)) → us.length = rs.length →
  (∀ i, i < rs.length → ∃ u, us[i]? = some u ∧ Rat.divInt u (lcmL rs : Int) = co rs i ∧ Bt (n + (rs.length * n + 1)) u) → Q (.ref p) H'
def sp_oood (K : PySem.W.Frag) : Sp := fun vs H Q _ => ∃ a xs rs n, vs = [.ref a] ∧ H a = some (.tup xs) ∧ TL H xs rs ∧ RbL n rs ∧ rs.length ≤ 100 ∧ 1 ≤ n ∧ rs.length * n + n ≤ 4000 ∧ RetO rs n H Q
def sp_times (K : PySem.W.Frag) : Sp := fun vs H Q _ => ∃ a b xs ys f g A B, vs = [.ref a, .ref b] ∧ H a = some (.tup xs) ∧ H b = some (.tup ys) ∧ TL H xs f ∧ TL H ys g ∧ RbL A f ∧ RbL B g ∧ Tr f ∧ Tr g ∧ 1 ≤ A ∧ 1 ≤ B ∧ f.length ≤ 100 ∧ g.length ≤ 100 ∧
  f.length * A + A ≤ 3000 ∧ g.length * B + B ≤ 3000 ∧ RetL (trimR (conv f g)) H Q
def sp_ptimes (K : PySem.W.Frag) : Sp := fun vs H Q _ => ∃ q a b xs ys ds es n A B, vs = [.ref a, .ref b] ∧ a ≠ q ∧ b ≠ q ∧ Sq K H a xs ∧ Sq K H b ys ∧ DqAll q K H xs ds ∧ DqAll q K H ys es ∧
  (∀ d ∈ ds, isFrD d = true ∧ Bt n (upD d) ∧ Bt n (dnD d)) ∧ (∀ d ∈ es, isFrD d = true ∧ Bt n (upD d) ∧ Bt n (dnD d)) ∧ n ≤ 7000 ∧ ds.length ≤ 80 ∧ es.length ≤ 80 ∧ RbL A (trimR (ds.map valQ)) ∧ RbL B (trimR (es.map valQ)) ∧ 1 ≤ A ∧ 1 ≤ B ∧
  (trimR (ds.map valQ)).length * A + A ≤ 3000 ∧ (trimR (es.map valQ)).length * B + B ≤ 3000 ∧ ((trimR (es.map valQ)) = [] ∨ (trimR (ds.map valQ)).length + (trimR (es.map valQ)).length ≤ 81) ∧ RetL (trimR (conv (trimR (ds.map valQ)) (trimR (es.map valQ)))) H Q
def sp_polyof (K : PySem.W.Frag) : Sp := fun vs H Q _ => ∃ q a xs ds n, vs = [.ref a] ∧ a ≠ q ∧ Sq K H a xs ∧ DqAll q K H xs ds ∧ (∀ d ∈ ds, isFrD d = true ∧ Bt n (upD d) ∧ Bt n (dnD d)) ∧ n ≤ 7000 ∧ ds.length ≤ 80 ∧ RetL (trimR (ds.map valQ)) H Q
def sp_psum (K : PySem.W.Frag) : Sp := fun vs H Q _ => ∃ q a b xs ys ds es n, vs = [.ref a, .ref b] ∧ a ≠ q ∧ b ≠ q ∧ Sq K H a xs ∧ Sq K H b ys ∧ DqAll q K H xs ds ∧ DqAll q K H ys es ∧
  (∀ d ∈ ds, isFrD d = true ∧ Bt n (upD d) ∧ Bt n (dnD d)) ∧ (∀ d ∈ es, isFrD d = true ∧ Bt n (upD d) ∧ Bt n (dnD d)) ∧ 1 ≤ n ∧ n ≤ 3000 ∧ ds.length ≤ 80 ∧ es.length ≤ 80 ∧ RetL (trimR (padd (ds.map valQ) (es.map valQ))) H Q
def sp_pval (K : PySem.W.Frag) : Sp := fun vs H Q _ => ∃ q a v xs ds x n A B, vs = [.ref a, v] ∧ a ≠ q ∧ Sq K H a xs ∧ DqAll q K H xs ds ∧ (∀ d ∈ ds, isFrD d = true ∧ Bt n (upD d) ∧ Bt n (dnD d)) ∧ n ≤ 7000 ∧ ds.length ≤ 80 ∧ Fr q K H v x A ∧ RbL B (trimR (ds.map valQ)) ∧ 1 ≤ B ∧
  (trimR (ds.map valQ)).length * (A + B + 1) + A + B ≤ 6900 ∧ (∃ acc, H q = some (.lst acc)) ∧ RetT (val (ds.map valQ) x) H Q
def sp_lval (K : PySem.W.Frag) : Sp := fun vs H Q _ => ∃ a b xs rs x A B C, vs = [.ref a, .ref b] ∧ Sq K H a xs ∧ TL H xs rs ∧ H b = some (.tup (rv x)) ∧ Rb A x ∧ RbL B rs ∧ 1 ≤ B ∧ (∀ i, i ≤ rs.length → Rb C (evs (co rs) x i)) ∧ C + B + (rs.length + 1) * A + 2 ≤ 7000 ∧ xs.length ≤ 100 ∧ RetT (val rs x) H Q
end Mf
/-! a caught error that is kept behind its suite -/
namespace Mf
open PySem PySem.Spec PySem.Calls PyProof.Rows L2
/-- at e: an error that was caught, of the class cls, its dict at d -/
def cxo (e : Addr) (cls : Value) (d : Option Addr) : HO := .ext fun h => ∃ (oe : Obj) (vs : Array Value), h.get? e = some oe ∧ oe.cls = cls ∧ oe.dict = d ∧ oe.data = .fields vs
theorem cxo_ok {P : Program} {w : World} {H : Hp} {h : Heap} {e : Addr} {cls : Value} {d : Option Addr} {oe : Obj} {vs : Array Value} (he : h.get? e = some oe) (h1 : oe.cls = cls) (h2 : oe.dict = d) (h3 : oe.data = .fields vs) : ObjOk P w H h e (cxo e cls d) :=
  ⟨⟨oe, vs, he, h1, h2, h3⟩, ⟨oe, he⟩, fun a b z k => by
    obtain ⟨o2, v2, q1, q2, q3, q4⟩ := z
    exact ⟨o2, v2, k _ q1, q2, q3, q4⟩⟩
theorem cxo_at {P : Program} {w : World} {H : Hp} {h : Heap} {e : Addr} {cls : Value} {d : Option Addr} (hok : HOk P w H h) (he : H e = some (cxo e cls d)) : ∃ (oe : Obj) (vs : Array Value), h.get? e = some oe ∧ oe.cls = cls ∧ oe.dict = d ∧ oe.data = .fields vs := by
  have x : ObjOk P w H h e (.ext fun h => ∃ (oe : Obj) (vs : Array Value), h.get? e = some oe ∧ oe.cls = cls ∧ oe.dict = d ∧ oe.data = .fields vs) := hok e _ he
  exact x.1
section
variable {X : Cx} {pins : List (Addr × Obj)} {σ : L2.St} {H : Hp} {s : Shared}
theorem Inv.track {a : Addr} {u : HO} (I : Inv X pins σ H s) (hn : H a = none) (new : ∀ o, X.s_0.heap.get? a = some o → a ∈ X.ex) (nL : a ≠ X.env.locals) (nC : ∀ x c, X.env.cells.lookup x = some c → c ≠ a) (nP : ∀ p ∈ X.pn ++ pins, p.1 ≠ a)
    (ok : ObjOk X.prog X.w (upd H a u) s.heap a u) : Inv X pins σ (upd H a u) s := by
  have neq : ∀ {b : Addr} {o : HO}, H b = some o → b ≠ a := fun e => ne_of_none e hn
  refine ⟨I.ok, I.os, I.bare, ⟨I.base.keep, I.base.slot, fun b o e n hx => ?_, I.base.there, fun b xs e => ?_, fun b o v e => ?_, fun b ps e => ?_⟩, I.loc, I.cell, ?_, fun x c e => ?_, fun p hp => ?_, fun b v e => ?_, I.len⟩
  · by_cases hb : b = a
    · subst hb
      exact absurd (new o e) hx
    · rw [upd_ne hb]
      exact I.base.free b o e n hx
  · have q := I.base.tups b xs e
    rw [upd_ne (neq q)]
    exact q
  · have q := I.base.frzs b o v e
    rw [upd_ne (neq q)]
    exact q
  · obtain ⟨more, q⟩ := I.base.tbls b ps e
    exact ⟨more, by rw [upd_ne (neq q)]; exact q⟩
  · rw [upd_ne (Ne.symm nL)]
    exact I.free
  · rw [upd_ne (nC x c e)]
    exact I.freeC x c e
  · obtain ⟨q1, q2, q3⟩ := I.pin p hp
    exact ⟨q1, by rw [upd_ne (nP p hp)]; exact q2, q3⟩
  · by_cases hb : b = a
    · subst hb
      rw [upd_same] at e
      cases e
      exact ok
    · rw [upd_ne hb] at e
      exact (I.hok b v e).stay (fun c w hc q => q) (fun d q => by rw [upd_ne (neq q)]; exact q) fun d xs q => by rw [upd_ne (neq q)]; exact q
end
/-- what 'except x as n' wishes where the error is kept -/
def wKeep (K : PySem.W.Frag) (c : Value) (i : Nat) (ts : Addr → Value → Option Addr → TS) (Wout : WX) (D : Ends) : WX := fun cls d σ H =>
  ∃ b, PySem.W.exmOne K cls c = some b ∧ (b = true → ∀ a, H a = none → ts a cls d { nx := fun σ' H' => D.nx (σ'.set i none) (upd H' a (cxo a cls d)), rt := fun _ _ => False, bk := fun _ _ => False, ct := fun _ _ => False } (σ.set i (some (.ref a))) H) ∧
    (b = false → Wout cls d σ H)
section
variable {X : Cx} {x n : Str} {c : Value} {i : Nat} {body suite : List Stmt} {b₀ : Stmt} {np pos pos' : Pos} {tb : WX → TS} {ts : Addr → Value → Option Addr → TS} {Wout : WX}
theorem ps_try_keep (hs : X.stack = X.env :: X.outer) (hf : X.env.frame = some X.env.locals) (hN : X.N.Nodup) (hi : X.N[i]? = some n) (hln : X.env.kindOf n = some .local) (hc : Names X x c) (tk : Takes X Wout)
    (hb : ∀ (W : WX) (pn : List (Addr × Obj)) (xe : Value → Shared → Prop), Takes (X.tr pn xe) W → PassesOwn (model X.prog X.w) X.A X.env xe → PSs (X.tr pn xe) body (tb W))
    (hsu : ∀ (a : Addr) (oe : Obj) (cls : Value) (d : Option Addr) (pn : List (Addr × Obj)), Zc cls d oe → (∃ vs, oe.data = .fields vs) → PSs (X.suite a ((a, oe) :: pn)) (b₀ :: suite) (ts a cls d)) :
    PS X (.Try body [.ExceptHandler (some (.Name x np)) (some n) (b₀ :: suite) pos'] [] [] pos) (fun D σ H => tb (wKeep X.K c i ts Wout D) D σ H) := by
  refine ⟨fun pins s σ H D I h => ?_⟩
  have ok := I.ok
  have hfr : X.A.frames = some (X.env :: X.outer) := by rw [ok.frames, hs]
  have hloc : Loc X.env.scope n := .inl hln
  refine wpAny_Try_except ?_
  refine wpAny_mono ((hb (wKeep X.K c i ts Wout D) (X.pn ++ pins) (fun e s₁ => wpAny (model X.prog X.w) X.A (noteFrame e X.env) (fun _ s₂ => wpAny (model X.prog X.w) X.A (setFlight e none) (fun _ s₃ =>
    wpAny (model X.prog X.w) X.A (handleBy e X.env [.ExceptHandler (some (.Name x np)) (some n) (b₀ :: suite) pos']) (SP X pins D) X.xe s₃) X.xe s₂) X.xe s₁) (fun u s' xx => ?_) PassesOwn.looking).run [] s σ H D (I.toTry _) h) (fun f s1 hsp => ?_) (fun e s1 he => he)
  · obtain ⟨a, B, sI, pins', σ', H', cls, d, rfl, J', nb, up, sky, na, os, ag, b, hb1, hyes, hno⟩ := xx
    have J : Inv X pins σ' H' sI := J'.ofTry ok
    have sky' : Sky B (X.env :: X.outer) a (Zc cls d) X.env.locals s'.heap := by rw [← hs]; exact sky
    show wpAny (model X.prog X.w) X.A (noteFrame (.ref a) X.env) _ _ _
    refine Sky.land Zc.steady hfr hf sky' fun h3 fl3 up3 => ?_
    have J3 : Inv X pins σ' H' { s' with heap := h3 } := J.landed nb fl3.1 (up.trans up3) os ag
    obtain ⟨oe3, vs3, he3, hz3, hd3⟩ := fl3.there
    have notFr : ∀ {h : Heap} {o : Obj} {vs : Array Value}, h.FunFrames B (X.env :: X.outer) → h.get? a = some o → o.data = .fields vs → a ∉ frs (X.env :: X.outer) := fun {h o vs} ff e dd hm => by
      obtain ⟨_, o', e', hnf⟩ := ff.mem hm
      rw [e] at e'
      cases e'
      exact hnf _ dd
    have nfr := notFr fl3.2.2.1 he3 hd3
    have hB : B.get? a = none := fl3.2.1
    have nL : a ≠ X.env.locals := fun z => nfr (List.mem_filterMap.mpr ⟨X.env, List.mem_cons_self, by rw [hf, z]⟩)
    have nF : a ∉ X.fs := fun hm => by
      obtain ⟨e, he, q⟩ := List.mem_filterMap.mp hm
      exact nfr (List.mem_filterMap.mpr ⟨e, List.mem_cons_of_mem _ he, q⟩)
    have nI : ∀ o, sI.heap.get? a = some o → False := fun o e => by
      have q := nb a o e (by rw [hs]; exact nfr)
      rw [hB] at q
      cases q
    have new : ∀ o, X.s_0.heap.get? a = some o → a ∈ X.ex := fun o e => by
      by_cases z : a ∈ X.ex
      · exact z
      · obtain ⟨o', e'⟩ := J.base.there a o e z
        exact (nI o' e').elim
    have nP : ∀ p ∈ X.pn ++ pins, p.1 ≠ a := fun p hp z => by
      have q := (J.pin p hp).1
      rw [z] at q
      exact nI _ q
    have S3 := J3.suite he3 hd3 na nL nF
    refine wpAny_handleBy_cons (codeAny_handlers_test ?_) (by intro q; cases q)
    have LT : PySem.W.Looks (model X.prog X.w) h3 (typeOf (.ref a)) cls := fun A Q E s k q => wpAny_typeOf_ref (k _ _ he3) (by rw [hz3.1]; exact q)
    have LM := PySem.W.exm_one (M := model X.prog X.w) (J3.kIn) LT hb1
    have test : ∀ {Q : Value → Shared → Prop} {E : Value → Shared → Prop}, Q c { s' with heap := h3 } → wpAny (model X.prog X.w) (X.A.mark (some (.ref a))) (eval (.Name x np) X.env) Q E { s' with heap := h3 } := fun {Q E} q => by
      obtain ⟨hg, hdbg, hm | ⟨hm, hv, hnn⟩⟩ := hc
      · exact ld_glob (X := X.suite a ((a, oe3) :: (X.pn ++ pins))) S3 hg hm q hdbg
      · exact ld_blt (X := X.suite a ((a, oe3) :: (X.pn ++ pins))) S3 hg hm hv q hnn hdbg
    refine test (LM.here ?_)
    cases b with
    | true =>
      refine codeAny_handlers_suite_as ?_
      refine HandSPX.lands_againZ fl3 fun h4 fl4 up4 => ?_
      have J4 : Inv X pins σ' H' { s' with heap := h4 } := J.landed nb fl4.1 ((up.trans up3).trans up4) os ag
      obtain ⟨oe4, vs4, he4, hz4, hd4⟩ := fl4.there
      have S4 := J4.suite he4 hd4 na nL nF
      refine store_ok (X := X.suite a ((a, oe4) :: (X.pn ++ pins))) (v := .ref a) S4 hN hi hloc rfl (fun s5 S5 => ?_) (.inr hln)
      refine wpAny_mono ((hsu a oe4 cls d (X.pn ++ pins) hz4 ⟨_, hd4⟩).run [] s5 _ H' _ S5 (hyes rfl a na)) (fun f s6 hsp => ?_) (fun _ _ z => False.elim z)
      cases f with
      | next =>
        obtain ⟨σ6, H6, S6, q6⟩ := hsp
        obtain ⟨g1, g2, _⟩ := S6.pin (a, oe4) (List.mem_append_left _ List.mem_cons_self)
        have J6 := S6.unsuite ok
        have J7 : Inv X pins σ6 (upd H6 a (cxo a cls d)) s6 := by
          refine Inv.track J6 g2 new nL (fun y cc e z => ?_) nP (cxo_ok g1 hz4.1 hz4.2 hd4)
          obtain ⟨v, o, ho, hv⟩ := J6.cell y cc e
          rw [z, g1] at ho
          cases ho
          rw [hd4] at hv
          cases hv
        exact gone_ok J7 hN hi hln fun s7 K7 => ⟨_, _, K7, q6⟩
      | brk =>
        obtain ⟨σ6, H6, S6, q6⟩ := hsp
        exact q6.elim
      | cont =>
        obtain ⟨σ6, H6, S6, q6⟩ := hsp
        exact q6.elim
      | ret u =>
        obtain ⟨v6, σ6, H6, S6, r6, q6⟩ := hsp
        exact q6.elim
    | false =>
      show wpAny _ X.A (handleBy (.ref a) X.env []) _ _ _
      refine wpAny_handleBy_nil ?_
      obtain ⟨k1, k2, k3, oe, vs, T, oT, ts', he, hz, hd, h1, hr⟩ := id fl3
      unfold PySem.passOn
      refine wpAny_bind (wpAny_field he hd h1 ?_)
      rw [if_neg (show ¬ ((Value.ref T == Value.none) = true) from by simp)]
      have fin : wpAny (model X.prog X.w) X.A (setFlight (.ref a) X.env.frame) (fun _ s4 => wpAny (model X.prog X.w) X.A (throw (.ref a) : Sem Flow) (SP X pins D) X.xe s4) X.xe { s' with heap := h3 } := by
        rw [hf]
        refine HandSPX.setFlight_upZ fl3 fun h4 hh4 up4 => wpAny_throw (tk _ _ ?_)
        exact ⟨a, B, sI, pins, σ', H', cls, d, rfl, J, nb, (up.trans up3).trans up4, .inr (.inr (by rw [hs]; exact hh4)), na, os, ag, hno rfl⟩
      first
        | exact wpAny_bind (wpAny_pure (wpAny_bind fin))
        | exact wpAny_bind fin
  · cases f with
    | next =>
      obtain ⟨σ', H', J', q⟩ := hsp
      exact wpAny_execs_nil ⟨σ', H', J'.ofTry ok, q⟩
    | brk =>
      obtain ⟨σ', H', J', q⟩ := hsp
      exact ⟨σ', H', J'.ofTry ok, q⟩
    | cont =>
      obtain ⟨σ', H', J', q⟩ := hsp
      exact ⟨σ', H', J'.ofTry ok, q⟩
    | ret u =>
      obtain ⟨v, σ', H', J', r, q⟩ := hsp
      exact ⟨v, σ', H', J'.ofTry ok, r, q⟩
end
/-! ### a kept error: isinstance, its fields -/
def Ek (H : Hp) (a C : Addr) (fs : List (Str × V)) : Prop := ∃ d, H a = some (cxo a (.ref C) (some d)) ∧ H d = some (.xd fs)
theorem Ek.go {H H' : Hp} {a C : Addr} {fs : List (Str × V)} (s : Same H H') (e : Ek H a C fs) : Ek H' a C fs := by
  obtain ⟨d, e1, e2⟩ := e
  exact ⟨d, s _ _ e1, s _ _ e2⟩
section
variable {X : Cx} {pins : List (Addr × Obj)} {σ : L2.St} {H : Hp} {s : Shared} {a C : Addr} {fs : List (Str × V)}
theorem Ek.inst {P : Program} {w : World} {h : Heap} (e : Ek H a C fs) (hok : HOk P w H h) : ∃ (oe od : Obj) (mA : Str → Option Value), PySem.W.InstAt h a oe C (some od) ∧ (∀ y, PySem.W.lookIn y od = some (mA y)) ∧ ∀ f, RelO (fs.lookup f) (mA f) := by
  obtain ⟨d, ea, ed⟩ := e
  obtain ⟨oe, vs, ho, h1, h2, h3⟩ := cxo_at hok ea
  have hx : ObjOk P w H h d (.xd fs) := hok d _ ed
  obtain ⟨mA, hns, hr⟩ := hx
  obtain ⟨od, hod, hl⟩ := lookIn_ns hns
  exact ⟨oe, od, mA, ⟨ho, h1, by unfold PySem.W.notCls; rw [h3] <;> rfl, by rw [h2]; exact hod⟩, hl, hr⟩
def rIsK (K : PySem.W.Frag) : List V → Hp → VK → Prop := fun xs H Q => ∃ (a C : Addr) (fs : List (Str × V)) (c : V) (u : Value) (b : Bool), xs = [.ref a, c] ∧ ClsV c u ∧ Erc K C ∧ Ek H a C fs ∧ PySem.W.kitOne K (.ref C) u = some b ∧ Q (.bl b) H
theorem call_isK : CallR X (.builtin "isinstance") (rIsK X.K) := by
  intro pins s σ H xs us Q I r h
  obtain ⟨a, C, fs, c, u, b, rfl, k, T, e, z, q⟩ := h
  obtain ⟨u1, u2, rfl, r1, r2⟩ := vals2 r
  have e2 := k.eq r2
  subst e2
  obtain rfl : u1 = Value.ref a := r1
  obtain ⟨oe, od, mA, J, _⟩ := e.inst I.hok
  exact PySem.W.kia_one (kitx_excO T.c.hg T.c.hk T.c.hs T.c.hd T.c.ha T.c.hn T.c.ht T.c.hm) I.kIn J z (fun z => nomatch z) fun tk => ⟨.bl b, H, I.tok tk, rfl, q⟩
def tKat (K : PySem.W.Frag) (f : Str) (te : TE) : TE := fun σ H Q => te σ H fun x H1 => ∃ (a C : Addr) (fs : List (Str × V)) (v : V), x = .ref a ∧ Erc K C ∧ PySem.W.findIn K (.ref C) f = some none ∧ Ek H1 a C fs ∧ fs.lookup f = some v ∧ Q v H1
theorem pe_kat {e : Expr} {f : Str} {te : TE} {pos : Pos} (he : PE X e te) (hb : attributeBase e f X.env (eval e X.env) = eval e X.env := by rfl) : PE X (.Attribute e f pos) (tKat X.K f te) := by
  refine ⟨fun pins s σ H Q I h => ?_⟩
  refine attr_of hb (thn (he.run pins s σ H _ I h) fun u s1 hh => ?_)
  obtain ⟨x, H1, I1, rx, a, C, fs, v, ex, T, hno, e1, l, q⟩ := hh
  subst ex
  obtain rfl : u = Value.ref a := rx
  obtain ⟨oe, od, mA, J, hl, hr⟩ := e1.inst I1.hok
  obtain ⟨u, hu, ru⟩ := RelO.some_of (v := v) (o := mA f) (by rw [← l]; exact hr f)
  exact HandSPX.exc_get I1.kIn J T.c.hg T.c.hk T.c.hs (PySem.W.findObj_own T.c.hd hno rfl (by rw [hl, hu])) (handed_of ru) ⟨v, H1, I1.tok _, ru, q⟩
end
end Mf
namespace Mf
open PySem PySem.Spec PyProof.Rows L2
section
variable {K : PySem.W.Frag} {σ : L2.St} {H H1 : Hp} {Q : VK} {vs : List Nat} {q p : Addr}
theorem lc_asL {i1 j : Nat} {t : Int} {ws : List V} {rs : List Rat} (hq : Qy K q t H) (ht : t ≤ 900000) (np : p ≠ q) (ep : H p = some (.lst ws)) (tl : TL H ws rs) (b : RbL 100 rs) (l : rs.length ≤ 200)
    (hw : ∀ x, wipe ((wipe σ vs).set j (some x)) vs = wipe σ vs) (h1 : ∀ x, ((wipe σ vs).set j (some x))[i1]? = some (some (.ref q))) (h2 : ∀ x, ((wipe σ vs).set j (some x))[j]? = some (some x))
    (k : ∀ D H' t' xs ds, SameX q H H' → Qy K q t' H' → t ≤ t' → t' ≤ t + 2 * (rs.length : Int) → H D = none → D ≠ q → H' D = some (.lst xs) → DqAll q K H' xs ds → (∀ d ∈ ds, isFrD d = true ∧ Bt 140 (upD d) ∧ Bt 140 (dnD d)) → ds.map valQ = rs → Q (.ref D) H') :
    LcGo (Itl K p) (gName j) tYes (tCl (sp_las K) (tCons (tVar i1) (tCons (tVar j) tNil))) vs σ H Q := by
  have lw := tl.len
  refine lcgo_listF (xs := ws) (fun D i H' => ∃ t' xs fs, Qy K q t' H' ∧ t ≤ t' ∧ t' ≤ t + 2 * (i : Int) ∧ Qn q D H' ∧ SameX q H H' ∧ H' D = some (.lst xs) ∧ xs.length = i ∧ FzAll (fun b => b = q ∨ b = D) H' xs fs ∧ fs.map Fq.q = rs.take i) hw
    (fun D hD => ⟨t, [], [], hq.upd (Qn.new hq hD) (hq.ne hD), by omega, by omega, Qn.upd hq (Qn.new hq hD) (hq.ne hD), Same.x (same_new hD), upd_same, rfl, .nil, rfl⟩)
    (fun D i H' _ h => ?_) (fun D i x H' hD ex h => ?_) (fun D H' hD h => ?_)
  · obtain ⟨t', xs, fs, hq', _, _, _, sx, _⟩ := h
    exact seqU (sx _ _ np ep)
  · obtain ⟨t', xs, fs, hq', lt', ut', hn', sx, eD, lv, hall, ev⟩ := h
    have hi := (List.getElem?_eq_some_iff.mp ex).1
    have kx := sx.kt hq
    obtain ⟨pi, rfl, ei, gi⟩ := (tl.go kx).get ex
    have nD : D ≠ q := hq.ne hD
    refine g_yes ?_
    refine g_iteT ?_
    refine g_cl (g_cons (g_var (h1 _) (g_cons (g_var (h2 _) (g_nil ?_)))))
    refine ⟨q, pi, t', co rs i, rfl, hq', by omega, ei, b.co (by decide) i, fun t6 H6 v x y sx6 hq6 l6 u6 hz hy er bx by_ => ?_⟩
    have hn6 := hn'.go hq' sx6
    have eD6 := sx6 _ _ nD eD
    refine ⟨xs, eD6, small1000 (by omega), t6, xs ++ [v], fs ++ [⟨x, y, hy, bx, by_⟩], hq6.upd hn6 nD, by omega, by omega, Qn.upd hq6 hn6 nD, ?_, upd_same, by rw [List.length_append, lv]; rfl,
      FzAll.app (f := ⟨x, y, hy, bx, by_⟩) (hz.go fun b o nb eb => ?_) (hall.go fun b o nb eb => ⟨?_, nb⟩), ?_⟩
    · refine ⟨fun b o nb e => ?_, fun c w z e => ?_⟩
      · rw [upd_ne (ne_of_none e hD)]
        exact (sx.trans sx6).kept b o nb e
      · obtain ⟨w', z', e'⟩ := (sx.trans sx6).cell c w z e
        exact ⟨w', z', by rw [upd_ne nD.symm]; exact e'⟩
    · have nbq : b ≠ q := fun z => nb (by obtain ⟨c, ns, r, e1, _⟩ := hq'; rw [z]; exact ⟨_, e1⟩)
      have nbD : b ≠ D := fun z => nb (by rw [z]; exact ⟨_, eD⟩)
      refine ⟨by rw [upd_ne nbD]; exact eb, fun z => ?_⟩
      rcases z with z | z
      · exact nbq z
      · exact nbD z
    · rw [upd_ne (fun z => nb (.inr z))]
      exact sx6 _ _ (fun z => nb (.inl z)) eb
    · rw [List.map_append, ev, take_snoc gi]
      show rs.take i ++ [Fq.q ⟨x, y, hy, bx, by_⟩] = _
      unfold Fq.q
      rw [er]
  · obtain ⟨t', xs, fs, hq', lt', ut', hn', sx, eD, lv, hall, ev⟩ := h
    obtain ⟨ds, hds, hok, eds⟩ := hall.dq (K := K) (q := q) (.inl rfl)
    rw [lw, List.take_length] at ev
    exact k D H' t' xs ds sx hq' lt' (by rw [← lw]; exact ut') hD (hq.ne hD) eD hds hok (eds.trans ev)
end
theorem shn_fr {d : PyData} {n : Nat} (h : isFrD d = true) (b1 : Bt n (upD d)) (b2 : Bt n (dnD d)) (hn : 1 ≤ n) (l : n ≤ 1900) : ShN (n + 1) (2 * n + 3) 2 d := by
  rcases fr_shape h with ⟨i, rfl⟩ | ⟨x, y, hy, rfl | rfl⟩
  · exact (shn_int b1 hn l).mono (by omega) (by decide)
  · exact (sha_lst (sha_cons (shn_int b1 hn l) (sha_cons (shn_int b2 hn l) (sha_nil (W := 0))))).mono (by omega) (Nat.le_refl _)
  · exact (sha_tup (sha_cons (shn_int b1 hn l) (sha_cons (shn_int b2 hn l) (sha_nil (W := 0))))).mono (by omega) (Nat.le_refl _)
theorem sha_frs {n : Nat} (hn : 1 ≤ n) (l : n ≤ 1900) : ∀ {ds : List PyData}, (∀ d ∈ ds, isFrD d = true ∧ Bt n (upD d) ∧ Bt n (dnD d)) → ShA (n + 1) (ds.length * (2 * n + 4)) 2 ds
  | [], _ => sha_nil
  | d :: ds, h => by
    have t := sha_frs hn l (ds := ds) fun x hx => h x (List.mem_cons_of_mem _ hx)
    obtain ⟨h1, h2, h3⟩ := h d List.mem_cons_self
    have z := sha_cons (shn_fr h1 h2 h3 hn l) t
    refine ⟨z.sh, z.lv, z.nd, z.ly, ?_, z.dp⟩
    have w := z.wt
    rw [List.length_cons, Nat.succ_mul]
    omega
theorem frs_dp {q : Addr} {K : PySem.W.Frag} {H : Hp} : ∀ {vs : List V} {ds : List PyData}, DqAll q K H vs ds → (∀ d ∈ ds, isFrD d = true) → DpAll K H vs ds
  | _, _, .nil, _ => .nil
  | _, _, .cons (d := d) h t, f => by
    have fd := f d List.mem_cons_self
    have nd : noDct d = true := by
      rcases fr_shape fd with ⟨i, rfl⟩ | ⟨x, y, hy, rfl | rfl⟩ <;> rfl
    exact .cons (h.dp nd) (frs_dp t fun x hx => f x (List.mem_cons_of_mem _ hx))
/-- a list and a tuple of fractions, shown -/
theorem sha_lt {n L1 L2 : Nat} (hn : 1 ≤ n) (l : n ≤ 1900) {ds es : List PyData} (hd : ∀ d ∈ ds, isFrD d = true ∧ Bt n (upD d) ∧ Bt n (dnD d)) (he : ∀ d ∈ es, isFrD d = true ∧ Bt n (upD d) ∧ Bt n (dnD d)) (l1 : ds.length ≤ L1) (l2 : es.length ≤ L2) :
    ShN (n + 1) (L1 * (2 * n + 4) + 1 + 1 + (L2 * (2 * n + 4) + 1 + 1 + 0) + 1) 4 (.list [.list ds, .tuple es]) := by
  have a := (sha_lst (sha_frs hn l hd)).mono (W' := L1 * (2 * n + 4) + 1) (Nat.add_le_add_right (Nat.mul_le_mul_right _ l1) 1) (Nat.le_refl _)
  have b := (sha_tup (sha_frs hn l he)).mono (W' := L2 * (2 * n + 4) + 1) (Nat.add_le_add_right (Nat.mul_le_mul_right _ l2) 1) (Nat.le_refl _)
  exact sha_lst (sha_cons a (sha_cons b (sha_nil (W := 0))))
theorem dq_frt {q p : Addr} {K : PySem.W.Frag} {H : Hp} {xs : List V} {ds : List PyData} (hp : SqT K H p xs) (h : DqAll q K H xs ds) (f : ∀ d ∈ ds, isFrD d = true) : Dp K H (.ref p) (.tuple ds) := .tup hp (frs_dp h f)
theorem dq_frl {q p : Addr} {K : PySem.W.Frag} {H : Hp} {xs : List V} {ds : List PyData} (hp : SqL K H p xs) (h : DqAll q K H xs ds) (f : ∀ d ∈ ds, isFrD d = true) : Dp K H (.ref p) (.list ds) := .lst hp (frs_dp h f)
theorem rv_dp {p : Addr} {K : PySem.W.Frag} {H : Hp} {r : Rat} (e : H p = some (.tup (rv r))) : Dp K H (.ref p) (rd r) := .tup (tupU e) (.cons (.int _) (.cons (.int _) .nil))
def sp_long (K : PySem.W.Frag) : Sp := fun vs H Q _ => ∃ (q : Addr) (t : Int), vs = [.ref q] ∧ Qy K q t H ∧ t ≤ 900000 ∧ ∀ H', Q (.bl true) H'
end Mf
/-! a def that raises, as a contract -/
namespace Mf
open PySem PySem.Spec PySem.Calls PyProof.Rows L2
structure ClX (c : Cn) (k : Nat) (x : Str) (st : Stmt) (ps : List Str) (sp : Sp) : Prop where
  ex : ∃ (f : Addr) (fd : FuncData), FnG c.P c.w c.K c.mg c.base (L2.CX c.P c.w) k f fd ps sp ∧ c.mg x = some (.ref f) ∧ Fun c.K x x st f fd
theorem De.clX {c : Cn} {x : Str} {st : Stmt} {N ps : List Str} {k : Nat} {sp : Sp} (D : De c x st) (S : FnScope N ps (defScope st))
    (len : ∀ vs H Q E, sp vs H Q E → vs.length = ps.length)
    (hbody : ∀ (f : Addr) (cdv : Value) (A : Around) (outer : List Env) (s : Shared) (H : Hp) (vs : List V) (Q : VK) (E : XK),
      (A.deeper (envOfC x (defScope st) s.heap.objs.size f cdv)).guards = some [] →
      Room k (A.deeper (envOfC x (defScope st) s.heap.objs.size f cdv)) → sp vs H Q E →
      ∃ t, PSs (cxOf (L2.CX c.P c.w) c.P c.w c.K c.mg c.base N x (defScope st) f cdv A outer s H E) (defBody st) t ∧
        t { nx := fun _ H' => Q .non H', rt := Q } (start N vs) H) : ClX c (k + 1) x st ps sp := by
  obtain ⟨f, fd, hm, F⟩ := D.ex
  exact ⟨f, fd, okGX F S len (hbody f), hm, F⟩
section
variable {X : Cx} {k j : Nat} {ps : List Str} {sp : Sp} {x : Str} {p pos : Pos} {e : Expr} {es : List Expr} {t : TA} {st : Stmt} {E : L2.St → XK}
def tClX (sp : Sp) (E : L2.St → XK) (t : TA) : TE := fun σ H Q => t σ H fun vs H1 => sp vs H1 Q (E σ)
theorem pe_fX (c : ClX (cnOf X) k x st ps sp) (hA : X.A.guards = some []) (hr : Room j X.A) (hk : k ≤ j) (hp : Pl x st ps) (hg : Gl X x) (hx : ∀ σ, PassesAt (L2.CX X.prog X.w) X σ (E σ)) (ha : PA X (e :: es) t)
    (hdb : (x == ("__debug__" : Str)) = false := by decide) (he : starEach (e :: es) X.env = (false, eval e X.env) :: starEach es X.env := by rfl)
    (hpl : (backTo pos (starEach es X.env)).any (·.1) = false := by rfl) : PE X (.Call (.Name x p) (e :: es) [] pos) (tClX sp E t) := by
  obtain ⟨f, fd, F, hm, W⟩ := c.ex
  exact pe_callGS F hA (hr.mono hk) hg hm W.kp (W.binds hp) hx ha hdb he hpl
end
/-- a product of too many numbers -/
def sp_ptimesX (C : Addr) (K : PySem.W.Frag) : Sp := fun vs H Q E => ∃ q a b xs ys ds es n A B, vs = [.ref a, .ref b] ∧ a ≠ q ∧ b ≠ q ∧ Sq K H a xs ∧ Sq K H b ys ∧ DqAll q K H xs ds ∧ DqAll q K H ys es ∧
  (∀ d ∈ ds, isFrD d = true ∧ Bt n (upD d) ∧ Bt n (dnD d)) ∧ (∀ d ∈ es, isFrD d = true ∧ Bt n (upD d) ∧ Bt n (dnD d)) ∧ n ≤ 7000 ∧ ds.length ≤ 80 ∧ es.length ≤ 80 ∧ RbL A (trimR (ds.map valQ)) ∧ RbL B (trimR (es.map valQ)) ∧ 1 ≤ A ∧ 1 ≤ B ∧ (trimR (ds.map valQ)).length * A + A ≤ 3000 ∧ (trimR (es.map valQ)).length * B + B ≤ 3000 ∧ trimR (ds.map valQ) ≠ [] ∧ trimR (es.map valQ) ≠ [] ∧
  82 ≤ (trimR (ds.map valQ)).length + (trimR (es.map valQ)).length ∧ ∀ d H', H d = none → Same H H' → H' d = some (.xd [("most", .int 80), ("what", .str "numbers")]) → E (.ref C) (some d) H'
end Mf
namespace Mf
open PySem PySem.Spec PyProof.Rows L2
/-- whole numbers from 1 to 9 -/
def Nz (f : List Rat) : Prop := ∀ r ∈ f, ∃ z : Int, 1 ≤ z ∧ z ≤ 9 ∧ r = Rat.divInt z 1
theorem Nz.app {f g : List Rat} (hf : Nz f) (hg : Nz g) : Nz (f ++ g) := fun r hr => by
  rcases List.mem_append.mp hr with h | h
  · exact hf r h
  · exact hg r h
theorem Nz.take {f : List Rat} (h : Nz f) (n : Nat) : Nz (f.take n) := fun r hr => h r (List.mem_of_mem_take hr)
theorem Nz.snoc {f : List Rat} {z : Int} (h : Nz f) (z1 : 1 ≤ z) (z2 : z ≤ 9) : Nz (f ++ [Rat.divInt z 1]) := h.app fun r hr => ⟨z, z1, z2, List.mem_singleton.mp hr⟩
theorem bt4 {z : Int} (z1 : 0 ≤ z) (z2 : z ≤ 9) : Bt 4 z := by
  show z.natAbs < 2 ^ 4
  omega
theorem Nz.rb {f : List Rat} (h : Nz f) : RbL 4 f := fun r hr => by
  obtain ⟨z, z1, z2, rfl⟩ := h r hr
  exact Rb.of (by decide) (bt4 (by omega) z2) (bt4 (by decide) (by decide))
theorem Nz.at {f : List Rat} (h : Nz f) {i : Nat} (hi : i < f.length) : ∃ z : Int, 1 ≤ z ∧ z ≤ 9 ∧ co f i = Rat.divInt z 1 := by
  rw [co_get hi]
  exact h _ (List.getElem_mem hi)
theorem Nz.tr {f : List Rat} (h : Nz f) : Tr f := fun hne => by
  have l : 0 < f.length := List.length_pos_iff.mpr hne
  obtain ⟨z, z1, z2, e⟩ := h.at (i := f.length - 1) (by omega)
  rw [e]
  intro e0
  have e1 : Rat.divInt z 1 = Rat.divInt 0 1 := by rw [e0, Rat.zero_divInt]
  have := (Rat.divInt_eq_divInt_iff (by decide) (by decide)).mp e1
  omega
theorem Nz.sc {f : List Rat} (h : Nz f) (i : Nat) : Sc 1 4 (co f i) := by
  by_cases hi : i < f.length
  · obtain ⟨z, z1, z2, e⟩ := h.at hi
    exact ⟨z, e, bt4 (by omega) z2⟩
  · rw [co_ge (by omega)]
    exact Sc.zero
theorem Nz.conv {f g : List Rat} (hf : Nz f) (hg : Nz g) (l : f.length ≤ 40) : RbL 50 (conv f g) := RbL.of_co fun i hi => by
  rw [co_conv, ← cs_co]
  exact (sc_pc (by decide) (by decide) hf.sc hg.sc f.length i).rb (w := 1) (by decide) (show ((1 : Int) * 1).natAbs < 2 ^ 1 by decide) (by omega) (by decide)
theorem zeros2 : trimR ([PyData.int 0, .int 0].map valQ) = [] := by
  have e : ([PyData.int 0, .int 0].map valQ) = [0, 0] := by
    show [valQ (.int 0), valQ (.int 0)] = _
    rw [show valQ (.int 0) = 0 from zero1]
  rw [e]
  exact (tr_trim [0, 0]).ext (b := []) (fun h => absurd rfl h) fun i => by
    rw [co_trim, co_nil]
    match i with
    | 0 => rfl
    | 1 => rfl
    | i + 2 => exact co_ge (by simp)
theorem conv_nil (f : List Rat) : trimR (Mf.conv f []) = [] := (tr_trim _).ext (b := []) (fun h => absurd rfl h) fun i => by
  rw [co_trim, co_nil, co_conv, show (co []) = fun _ => (0 : Rat) from funext fun j => co_nil, ← cs_co]
  have key : ∀ m, cs (co f) (fun _ => (0 : Rat)) m i = 0 := by
    intro m
    induction m with
    | zero => rfl
    | succ m ih =>
      rw [cs_succ, ih]
      split <;> grind
  exact key _
theorem rv_half : rv (Rat.divInt (-1) 2) = [.int (-1), .int 2] := by decide +kernel
theorem rb_half : Rb 2 (Rat.divInt (-1) 2) := Rb.of (by decide) (show (-1 : Int).natAbs < 2 ^ 2 by decide) (show (2 : Int).natAbs < 2 ^ 2 by decide)
theorem Nz.val {f : List Rat} (h : Nz f) (l : f.length ≤ 80) (i : Nat) (hi : i ≤ f.length) : Rb 561 (evs (co f) (Rat.divInt (-1) 2) i) := by
  have b := Rb.hor (fun j => h.rb.co (by decide) j) rb_half i 0
  rw [hor_snoc, evs_congr (d := co f) (fun j => by rw [Nat.zero_add])] at b
  refine b.mono ?_
  omega
theorem slope_full (l : List Rat) : (fullS l).drop 1 = slope l := ext_co (by rw [List.length_drop, len_full, len_slope]) fun j => drop_full l j
theorem div_int (z : Int) : Rat.divInt z 1 = (z : Rat) := by
  have e := Rat.num_divInt_den (z : Rat)
  rw [show ((z : Rat)).num = z from rfl, show (((z : Rat)).den : Int) = 1 from rfl] at e
  exact e
theorem rv_int (z : Int) : rv (Rat.divInt z 1) = [.int z, .int 1] := by
  rw [show Rat.divInt z 1 = (z : Rat) from div_int z]
  rfl
theorem rv_mul (n : Nat) (z : Int) : rv ((n : Rat) * Rat.divInt z 1) = [.int ((n : Int) * z), .int 1] := by
  rw [← div_nat, Rat.divInt_mul_divInt, Int.one_mul]
  exact rv_int _
theorem rbl_full {l : List Rat} (h : Nz l) (hl : l.length ≤ 80) : RbL 14 (slope l) := (rbl_slope h.rb (by decide) (by omega)).mono (by decide)
/-- the kept error's fields -/
theorem g_eqNM {K : PySem.W.Frag} {H : Hp} {Q : VK} {p r : Addr} (hp : H p = some (.tup [.str "numbers", .int 80])) (hr : H r = some (.tup [.str "numbers", .int 80])) (q : Q (.bl true) H) : rEqU K (.ref p) (.ref r) H Q :=
  .inr ⟨.tuple [.str "numbers", .int 80], .tuple [.str "numbers", .int 80], .tup (tupU hp) (.cons (.str _) (.cons (.int _) .nil)), .tup (tupU hr) (.cons (.str _) (.cons (.int _) .nil)), by decide +kernel, by decide +kernel, by
    rw [show PyData.eqv (.tuple [.str "numbers", .int 80]) (.tuple [.str "numbers", .int 80]) = true by decide +kernel]
    exact q⟩
end Mf
/-! polynomials through points -/
namespace Mf
/-- what stands before (x - a) and behind -/
def syn (c : Nat → Rat) (a : Rat) (n : Nat) (i : Nat) : Rat := hor c a i (n - i)
theorem syn_step (c : Nat → Rat) (a : Rat) {n i : Nat} (h : i < n) : syn c a n i = syn c a n (i + 1) * a + c i := by
  unfold syn
  obtain ⟨m, hm⟩ : ∃ m, n - i = m + 1 := ⟨n - i - 1, by omega⟩
  rw [hm, show n - (i + 1) = m by omega]
  rfl
theorem syn_end (c : Nat → Rat) (a : Rat) (n : Nat) : syn c a n n = 0 := by
  unfold syn
  rw [Nat.sub_self]
  rfl
theorem syn_zero (c : Nat → Rat) (a : Rat) (n : Nat) : syn c a n 0 = evs c a n := by
  unfold syn
  rw [Nat.sub_zero, hor_snoc]
  exact evs_congr (fun i => by rw [Nat.zero_add]) a n
theorem syn_part (c : Nat → Rat) (a x : Rat) (n : Nat) : ∀ m, m ≤ n → evs c x m = syn c a n 0 - syn c a n m * x ^ m + (x - a) * evs (fun i => syn c a n (i + 1)) x m
  | 0, _ => by
    show (0 : Rat) = syn c a n 0 - syn c a n 0 * x ^ 0 + (x - a) * 0
    rw [Rat.pow_zero]
    grind
  | m + 1, h => by
    show evs c x m + c m * x ^ m = syn c a n 0 - syn c a n (m + 1) * x ^ (m + 1) + (x - a) * (evs (fun i => syn c a n (i + 1)) x m + syn c a n (m + 1) * x ^ m)
    rw [syn_part c a x n m (by omega), Rat.pow_succ]
    have := syn_step c a (n := n) (i := m) (by omega)
    grind
theorem no_zeros : ∀ (xs : List Rat) (c : Nat → Rat), xs.Nodup → (∀ x ∈ xs, evs c x xs.length = 0) → ∀ i, i < xs.length → c i = 0
  | [], _, _, _, i, hi => absurd hi (Nat.not_lt_zero i)
  | a :: as, c, nd, h, i, hi => by
    rw [List.nodup_cons] at nd
    have h0 : syn c a (as.length + 1) 0 = 0 := by
      rw [syn_zero]
      exact h a List.mem_cons_self
    have ih := no_zeros as (fun i => syn c a (as.length + 1) (i + 1)) nd.2 fun x hx => by
      have e := syn_part c a x (as.length + 1) (as.length + 1) (Nat.le_refl _)
      have hx0 : evs c x (as.length + 1) = 0 := h x (List.mem_cons_of_mem _ hx)
      rw [hx0, h0, syn_end] at e
      have e2 : evs (fun i => syn c a (as.length + 1) (i + 1)) x (as.length + 1) = evs (fun i => syn c a (as.length + 1) (i + 1)) x as.length + syn c a (as.length + 1) (as.length + 1) * x ^ as.length := rfl
      rw [e2, syn_end] at e
      have ne : x - a ≠ 0 := fun z => nd.1 (by
        have : x = a := by grind
        rw [← this]
        exact hx)
      have e3 : (x - a) * evs (fun i => syn c a (as.length + 1) (i + 1)) x as.length = 0 := by grind
      exact (Rat.mul_eq_zero.mp e3).resolve_left ne
    have all : ∀ j, j ≤ as.length + 1 → syn c a (as.length + 1) j = 0 := fun j hj => by
      cases j with
      | zero => exact h0
      | succ j =>
        by_cases z : j < as.length
        · exact ih j z
        · rw [show j + 1 = as.length + 1 by omega]
          exact syn_end _ _ _
    have s := syn_step c a (n := as.length + 1) (i := i) hi
    have hi : i < as.length + 1 := hi
    rw [all i (by omega), all (i + 1) (by omega)] at s
    grind
/-- just one polynomial through points -/
theorem val_uniq {f g xs : List Rat} (hf : Tr f) (hg : Tr g) (nd : xs.Nodup) (lf : f.length ≤ xs.length) (lg : g.length ≤ xs.length) (h : ∀ x ∈ xs, val f x = val g x) : f = g := by
  refine hf.ext hg fun i => ?_
  by_cases hi : i < xs.length
  · have z := no_zeros xs (fun i => co f i - co g i) nd (fun x hx => ?_) i hi
    · have z : co f i - co g i = 0 := z
      grind
    · have key : ∀ n, evs (fun i => co f i - co g i) x n = evs (co f) x n - evs (co g) x n := by
        intro n
        induction n with
        | zero => show (0 : Rat) = 0 - 0; grind
        | succ n ih =>
          show evs _ x n + (co f n - co g n) * x ^ n = (evs (co f) x n + co f n * x ^ n) - (evs (co g) x n + co g n * x ^ n)
          rw [ih]
          grind
      rw [key, val_ge lf, val_ge lg, h x hx]
      grind
  · rw [co_ge (by omega), co_ge (by omega)]
/-! ### integers: times a factor, and without one -/
def ic (P : List Int) (i : Nat) : Int := P.getD i 0
theorem ic_ge {P : List Int} {i : Nat} (h : P.length ≤ i) : ic P i = 0 := by
  unfold ic
  rw [List.getD_eq_getElem?_getD, List.getElem?_eq_none h]
  rfl
theorem ic_some {P : List Int} {i : Nat} {z : Int} (h : P[i]? = some z) : ic P i = z := by
  unfold ic
  rw [List.getD_eq_getElem?_getD, h]
  rfl
theorem ic_get {P : List Int} {i : Nat} (h : i < P.length) : P[i]? = some (ic P i) := by
  rw [List.getElem?_eq_getElem h, ic_some (List.getElem?_eq_getElem h)]
theorem ic_ext {a b : List Int} (hl : a.length = b.length) (h : ∀ i, ic a i = ic b i) : a = b := by
  refine List.ext_getElem? fun i => ?_
  by_cases z : i < a.length
  · rw [ic_get z, ic_get (by omega), h]
  · rw [List.getElem?_eq_none (by omega), List.getElem?_eq_none (by omega)]
/-- down x - up times P -/
def tf (a : Int × Int) (P : List Int) : List Int := (List.range (P.length + 1)).map fun i => a.2 * (if i = 0 then 0 else ic P (i - 1)) - a.1 * ic P i
theorem len_tf (a : Int × Int) (P : List Int) : (tf a P).length = P.length + 1 := by simp [tf]
theorem ic_tf (a : Int × Int) (P : List Int) (i : Nat) : ic (tf a P) i = a.2 * (if i = 0 then 0 else ic P (i - 1)) - a.1 * ic P i := by
  by_cases h : i < P.length + 1
  · refine ic_some ?_
    unfold tf
    rw [List.getElem?_map, List.getElem?_range h]
    rfl
  · rw [ic_ge (by rw [len_tf]; omega), if_neg (by omega), ic_ge (P := P) (i := i) (by omega), ic_ge (P := P) (i := i - 1) (by omega), Int.mul_zero, Int.mul_zero]
    rfl
theorem tf_comm (a b : Int × Int) (P : List Int) : tf a (tf b P) = tf b (tf a P) := by
  refine ic_ext (by rw [len_tf, len_tf, len_tf, len_tf]) fun i => ?_
  rw [ic_tf, ic_tf, ic_tf, ic_tf, ic_tf, ic_tf]
  match i with
  | 0 => simp only [if_pos]; grind
  | 1 => simp; grind
  | i + 2 =>
    rw [if_neg (by omega), if_neg (by omega), if_neg (by omega), if_neg (by omega)]
    grind
def prodF (L : List (Int × Int)) : List Int := L.foldl (fun P a => tf a P) [1]
theorem fold_tf (a : Int × Int) : ∀ (L : List (Int × Int)) (P : List Int), L.foldl (fun P a => tf a P) (tf a P) = tf a (L.foldl (fun P a => tf a P) P)
  | [], _ => rfl
  | b :: L, P => by
    show L.foldl _ (tf b (tf a P)) = tf a (L.foldl _ (tf b P))
    rw [tf_comm, fold_tf a L]
/-- the product, one factor taken out -/
theorem prod_out (L1 L2 : List (Int × Int)) (a : Int × Int) : prodF (L1 ++ a :: L2) = tf a (prodF (L1 ++ L2)) := by
  unfold prodF
  rw [List.foldl_append, List.foldl_append]
  exact fold_tf a L2 _
theorem len_prod : ∀ (L : List (Int × Int)) (P : List Int), (L.foldl (fun P a => tf a P) P).length = P.length + L.length
  | [], _ => rfl
  | a :: L, P => by
    show (L.foldl _ (tf a P)).length = _
    rw [len_prod L, len_tf, List.length_cons]
    omega
def ival (P : List Int) (x : Rat) : Rat := evs (fun i => (ic P i : Rat)) x P.length
theorem ival_ge {P : List Int} {x : Rat} {n : Nat} (h : P.length ≤ n) : evs (fun i => (ic P i : Rat)) x n = ival P x := evs_stop (fun k hk => by rw [ic_ge hk] <;> rfl) n h
theorem ival_tf (a : Int × Int) (P : List Int) (x : Rat) : ival (tf a P) x = ((a.2 : Rat) * x - (a.1 : Rat)) * ival P x := by
  have key : ∀ n, evs (fun i => (ic (tf a P) i : Rat)) x (n + 1) = (a.2 : Rat) * x * evs (fun i => (ic P i : Rat)) x n - (a.1 : Rat) * evs (fun i => (ic P i : Rat)) x (n + 1) := by
    intro n
    induction n with
    | zero =>
      show (0 : Rat) + (ic (tf a P) 0 : Rat) * x ^ 0 = (a.2 : Rat) * x * 0 - (a.1 : Rat) * (0 + (ic P 0 : Rat) * x ^ 0)
      rw [ic_tf, if_pos rfl, Rat.intCast_sub, Rat.intCast_mul, Rat.intCast_mul]
      grind
    | succ n ih =>
      have e1 : evs (fun i => (ic (tf a P) i : Rat)) x (n + 1 + 1) = evs (fun i => (ic (tf a P) i : Rat)) x (n + 1) + (ic (tf a P) (n + 1) : Rat) * x ^ (n + 1) := rfl
      have e2 : evs (fun i => (ic P i : Rat)) x (n + 1 + 1) = evs (fun i => (ic P i : Rat)) x (n + 1) + (ic P (n + 1) : Rat) * x ^ (n + 1) := rfl
      have e3 : evs (fun i => (ic P i : Rat)) x (n + 1) = evs (fun i => (ic P i : Rat)) x n + (ic P n : Rat) * x ^ n := rfl
      rw [e1, ih, e2, ic_tf, if_neg (by omega), Nat.add_sub_cancel, Rat.intCast_sub, Rat.intCast_mul, Rat.intCast_mul, e3, Rat.pow_succ]
      grind
  unfold ival
  rw [len_tf, key, ival_ge (Nat.le_refl _), ival_ge (by omega)]
  grind
/-- what a division by the factor asks at its step -/
theorem tf_div (a : Int × Int) (R : List Int) (hd : a.2 ≠ 0) (i : Nat) : (ic (tf a R) (i + 1) + a.1 * ic R (i + 1)) / a.2 = ic R i := by
  rw [ic_tf, if_neg (by omega), Nat.add_sub_cancel, Int.sub_add_cancel, Int.mul_ediv_cancel_left _ hd]
end Mf
namespace Mf
open PySem PySem.Spec PySem.Calls PyProof.Rows L2
/-! ### list(reversed(xs)) -/
section
variable {prog : Program} {w : World} {A : Around} {E : Value → Shared → Prop} {s : Shared}
/-- what comes from behind, put into a list -/
theorem extend_rev {S it l : Addr} {items : Array Value} {res : Value} {c₀ : Nat} {R : Result → Shared → Prop} (hh : A.in1.handled = none) (hit : s.heap.IsRevIter it l ((items.size : Int) - 1)) (hl : s.heap.IsList l items) (hne : l ≠ it) (hn : items.size ≤ sizeLine)
    (hS : s.heap.get? S = some { cls := .type "list", data := .seq #[] c₀ }) (hSi : S ≠ it) (hSl : S ≠ l)
    (hR : ∀ (h' : Heap) (tk : Nat) (acc : Array Value) (c : Nat), (∀ b o, b ≠ S → b ≠ it → s.heap.get? b = some o → h'.get? b = some o) → h'.get? S = some { cls := .type "list", dict := none, data := .seq acc c, slots := #[] } →
      ItemsOf (fun i v => items[items.size - 1 - i]? = some v) acc items.size → R (.ok (.ret res)) { s with heap := h', toks := tk }) :
    wpAny (model prog w) A.in1 (Builtin.List.listExtendWith (.ref S) (.ref it) res)
      (fun fin s' => match fin with | .done f => R (.ok f) s' | .again c' => c'.quiet = true ∧ codeAny (model prog w) A c' R s') (fun e s' => R (.error e) s') s := by
  have W := (Walks.listRev (prog := prog) (w := w) (A := A.in1) hh it l hne items).toS
  have hSf : S ∉ [it, l] := by simp only [List.mem_cons, List.not_mem_nil, or_false, not_or]; exact ⟨hSi, hSl⟩
  have hT : s.TypeIs (.ref it) "list_reverseiterator" := hit.typeIs
  have h1 : Builtin.List.listSameRef (.ref S) (.ref it) = false := by simp [Builtin.List.listSameRef, hSi]
  unfold Builtin.List.listExtendWith
  refine wpAny_bind (wpAny_typeOf hT ?_)
  rw [if_neg (by rw [h1]; decide)]
  refine wpAny_bind (wpAny_pyIter_revIter hit ?_)
  refine wpAny_bind (wpAny_holding ?_)
  unfold Builtin.List.listLengthHint
  refine wpAny_bind (wpAny_specialOf hT RT.nolen_lri ?_)
  show wpAny _ A.in1 (specialOf (Value.ref it) (Str.ofString "__length_hint__") >>= _) _ _ _
  refine wpAny_bind (wpAny_specialOf hT RT.hint_lri ?_)
  generalize hid : ("list_reverseiterator.__length_hint__" : String) = id0
  wp_delta
  rw [show splitId id0 = some ("list_reverseiterator", "__length_hint__") from by subst hid; decide +kernel]
  subst hid
  refine wpAny_bind (wpAny_isInstance (b := true) hT (by rw [isSubtype_type]; kernel_rfl) ?_)
  refine wpAny_pure ?_
  rw [if_neg (by decide)]
  have e0 : ((items.size : Nat) : Int) - 1 - ((0 : Nat) : Int) = (items.size : Int) - 1 := by omega
  refine wpAny_pure ⟨plainId_quiet F.plain_extend_loop _, codeAny_extend_loopS W hn _ hSf _ items.size 0 _ _ _ rfl (Nat.zero_le _) ⟨Nat.zero_le _, by rw [e0]; exact hit, hl⟩ hS (ItemsOf.nil _) fun s' acc' c' hm hS' hacc => ?_⟩
  rw [Moved.eq_with hm]
  refine hR s'.heap s'.toks acc' c' (fun b o h1 h2 e => hm.heap b o (fun hmem => ?_) e) hS' hacc
  rcases List.mem_cons.mp hmem with e' | hmem
  · exact h1 e'
  · exact h2 (List.mem_singleton.mp hmem)
theorem call_list_rev {it l : Addr} {items : Array Value} {Q : Value → Shared → Prop} (hh : A.handled = none) (hit : s.heap.IsRevIter it l ((items.size : Int) - 1)) (hl : s.heap.IsList l items) (hne : l ≠ it) (hn : items.size ≤ sizeLine)
    (hQ : ∀ (h' : Heap) (tk : Nat) (acc : Array Value) (c : Nat), (∀ b o, b ≠ it → s.heap.get? b = some o → h'.get? b = some o) → h'.get? s.heap.objs.size = some { cls := .type "list", dict := none, data := .seq acc c, slots := #[] } →
      ItemsOf (fun i v => items[items.size - 1 - i]? = some v) acc items.size → Q (.ref s.heap.objs.size) { s with heap := h', toks := tk }) :
    wpAny (model prog w) A (call (.type "list") [.ref it]) Q E s := by
  obtain ⟨oi, hoi, _⟩ := id hit
  obtain ⟨ol, hol, _⟩ := id hl
  have hSi : s.heap.objs.size ≠ it := Nat.ne_of_gt (Heap.lt_size hoi)
  have hSl : s.heap.objs.size ≠ l := Nat.ne_of_gt (Heap.lt_size hol)
  refine callType_codes (Q₁ := fun obj s₁ => obj = .ref s.heap.objs.size ∧ s₁ = { s with heap := s.heap.push { cls := .type "list", data := .seq #[] } }) F.called_list (F.typeCall_list_1 _) F.entry_list_init
    (code_list_new _ ⟨rfl, rfl⟩) fun obj s₁ h₁ => ?_
  obtain ⟨rfl, rfl⟩ := h₁
  have hS : (s.heap.push { cls := .type "list", data := .seq #[] }).get? s.heap.objs.size = some { cls := .type "list", data := .seq #[] } := Heap.get?_push_size _ rfl
  refine ⟨⟨_, hS, rfl⟩, F.args_list_init_2 _ _, ?_⟩
  show wpAny _ _ (do let old ← Builtin.List.listItems (.ref s.heap.objs.size); Builtin.List.listUpdate (.ref s.heap.objs.size) (fun _ => #[]); letGo old.toList.reverse; Builtin.List.listExtendWith (.ref s.heap.objs.size) (.ref it) .none) _ _ _
  refine wpAny_bind ?_
  unfold Builtin.List.listItems
  refine wpAny_bind (wpAny_seqItems hS rfl (wpAny_pure ?_))
  show wpAny _ _ (updateSeq s.heap.objs.size (fun _ => #[]) >>= fun _ => letGo (#[] : Array Value).toList.reverse >>= fun _ => Builtin.List.listExtendWith (.ref s.heap.objs.size) (.ref it) .none) _ _ _
  refine wpAny_bind (wpAny_updateSeq hS rfl ?_)
  have hS₂ := Heap.get?_update_self (Obj.mapSeq (fun _ => (#[] : Array Value))) hS rfl
  have oth : ∀ b o, b ≠ s.heap.objs.size → s.heap.get? b = some o → ((s.heap.push { cls := .type "list", data := .seq #[] }).update s.heap.objs.size (Obj.mapSeq (fun _ => (#[] : Array Value)))).get? b = some o :=
    fun b o hb e => (Heap.get?_update_other _ _ (Ne.symm hb)).trans (Heap.get?_push_of_some _ e)
  refine wpAny_bind (wpAny_letGo ?_)
  refine extend_rev (A := A.in1) hh (hit.at fun o e => oth _ o (Ne.symm hSi) e) ?_ hne hn hS₂ hSi hSl fun h' tk acc c hk hS' hacc => ?_
  · obtain ⟨o, h1, h2, n, h3⟩ := id hl
    exact ⟨o, oth _ _ (Ne.symm hSl) h1, h2, n, h3⟩
  · exact ⟨rfl, hQ h' tk acc c (fun b o hb e => hk b o (Nat.ne_of_lt (Heap.lt_size e)) hb (oth b o (Nat.ne_of_lt (Heap.lt_size e)) e)) hS' hacc⟩
end
def tLstRev (K : PySem.W.Frag) (te : TE) : TE := fun σ H Q => te σ H fun v H1 => ∃ (a : Addr) (xs : List V), v = .ref a ∧ SqL K H1 a xs ∧ ∀ q, H1 q = none → Q (.ref q) (upd H1 q (.lst xs.reverse))
section
variable {X : Cx}
theorem pe_lstRev {e : Expr} {te : TE} {p p2 pos pos2 : Pos} (hc : X.calm = true) (hg : Gl X "list") (hm : X.mg "list" = none) (hg2 : Gl X "reversed") (hm2 : X.mg "reversed" = none) (he : PE X e te)
    (hs : starEach [e] X.env = (false, eval e X.env) :: starEach [] X.env := by rfl)
    (hs2 : starEach [.Call (.Name "reversed" p2) [e] [] pos2] X.env = (false, eval (.Call (.Name "reversed" p2) [e] [] pos2) X.env) :: starEach [] X.env := by rfl) :
    PE X (.Call (.Name "list" p) [.Call (.Name "reversed" p2) [e] [] pos2] [] pos) (tLstRev X.K te) := by
  refine ⟨fun pins s σ H Q I h => ?_⟩
  refine Call_ (ld_blt I hg hm boot_list (PyProof.Rows.callWith_type1 (args_cons (Call_ (ld_blt I hg2 hm2 PyProof.Rows.boot_reversed (PyProof.Rows.callWith_type1 (args_cons (thn (he.run pins s σ H _ I h) fun u s1 ⟨v, H1, I1, r1, q1⟩ => args_nil ?_) hs) hs rfl))) hs2) hs2 rfl))
  obtain ⟨a, xs, ev, hq, q⟩ := q1
  subst ev
  obtain rfl : u = Value.ref a := r1
  obtain ⟨its, rv, p', hz⟩ := I1.list hq
  refine call_reversed_list p'.isList (args_nil ?_)
  have k0 : ∀ b o, s1.heap.get? b = some o → (s1.heap.push (revObj a ((its.toArray.size : Int) - 1))).get? b = some o := fun b o e => Heap.get?_push_of_some _ e
  have I2 : Inv X pins σ H1 { s1 with heap := s1.heap.push (revObj a ((its.toArray.size : Int) - 1)) } := I1.kept (t' := s1.toks) k0
  obtain ⟨f0, f1, f2, f3, f4, f5⟩ := I1.fpOk (H' := H1) (b := s1.heap.objs.size) (Nat.le_refl _) (I1.hok.fresh (Nat.le_refl _))
  have hl := p'.isList
  obtain ⟨ol, hol, _⟩ := id hl
  have hne : a ≠ s1.heap.objs.size := Nat.ne_of_lt (Heap.lt_size hol)
  have hn : its.toArray.size ≤ sizeLine := by rw [List.size_toArray, ← rv.length]; exact hz
  refine call_list_rev (s := { s1 with heap := s1.heap.push (revObj a ((its.toArray.size : Int) - 1)) }) (I1.ok.hd hc) ⟨_, Heap.get?_push_size _ rfl, rfl, rfl⟩ (hl.push _) hne hn fun h' tk acc c hk hS hi => ?_
  have hsz : (s1.heap.push (revObj a ((its.toArray.size : Int) - 1))).objs.size = s1.heap.objs.size + 1 := Heap.size_push ..
  have I3 : Inv X pins σ H1 { s1 with heap := h', toks := tk } := I2.turned (t' := tk) (fun b o hb e => hk b o hb e) f0 f1 f3 f4 f5
  rw [hsz] at hS ⊢
  have lt : ∀ {b : Addr} {o : Obj}, s1.heap.get? b = some o → b ≠ s1.heap.objs.size + 1 := fun {b o} e z => by
    have h := Heap.lt_size e
    rw [z] at h
    exact Nat.lt_irrefl _ (Nat.lt_of_succ_lt h)
  have hn1 : H1 (s1.heap.objs.size + 1) = none := I1.hok.fresh (Nat.le_succ _)
  have okS : ObjOk X.prog X.w (upd H1 (s1.heap.objs.size + 1) (.lst xs.reverse)) h' (s1.heap.objs.size + 1) (.lst xs.reverse) := by
    refine ⟨by rw [List.length_reverse]; exact hz, acc.toList, c, RT.vals_rev rv hi, ?_⟩
    rw [Array.toArray_toList]
    exact hS
  have I4 : Inv X pins σ (upd H1 (s1.heap.objs.size + 1) (.lst xs.reverse)) { s1 with heap := h', toks := tk } := by
    refine Inv.track I3 hn1 (fun o e => ?_) (fun z => ?_) (fun y cc e z => ?_) (fun p hp z => ?_) okS
    · by_cases z : s1.heap.objs.size + 1 ∈ X.ex
      · exact z
      · obtain ⟨o', e'⟩ := I1.base.there _ o e z
        exact absurd rfl (lt e')
    · have h := I1.lt
      rw [← z] at h
      exact Nat.lt_irrefl _ (Nat.lt_of_succ_lt h)
    · obtain ⟨v, o, ho, _⟩ := I1.cell y cc e
      exact lt ho z
    · exact lt (I1.pin p hp).1 z
  exact ⟨.ref (s1.heap.objs.size + 1), _, I4, rfl, q _ hn1⟩
end
end Mf
namespace Mf
open PySem PySem.Spec PySem.Calls PyProof.Rows L2
section
variable {X : Cx} {K : PySem.W.Frag} {σ : L2.St} {H H1 : Hp} {Q : VK} {te : TE} {tt : TT} {vs : List Nat}
/-- len of a set of tuples -/
def rLenST (K : PySem.W.Frag) (P : Program) (w : World) : List V → Hp → VK → Prop := fun xs H Q => ∃ (a : Addr) (L : List (Addr × List Int)), xs = [.ref a] ∧ H a = some (SetTO P w a L) ∧ (∀ p ∈ L, SqT K H p.1 (p.2.map V.int)) ∧ ((L.map (·.2)).Nodup → Q (.int L.length) H)
theorem call_lenST : CallR X (.builtin "len") (rLenST X.K X.prog X.w) := by
  intro pins s σ H xs us Q I r h
  obtain ⟨a, L, rfl, ha, ht, q⟩ := h
  rw [Vals.ref1 r]
  have x : ObjOk X.prog X.w H s.heap a (SetTO X.prog X.w a L) := I.hok a _ ha
  have R0 : SetT0 X.prog X.w s.heap a L := x.1
  obtain ⟨es, ep, t, R⟩ := R0.full fun p hp => I.isT (ht p hp)
  obtain ⟨o, ho, hex, hd⟩ := R.ob
  have few := R.few
  have sz := R.size
  exact call_len_set ho hex hd R.fits (by rw [sz]; omega) ⟨.int L.length, H, I.tok _, ⟨_, by rw [sz]⟩, q R.nd⟩
/-- zip of two lists, unpacked into two names -/
theorem lcgo_zip {a b : Addr} {xs ys : List V} {i j : Nat} (Pv : Addr → Nat → Hp → Prop) (hl : xs.length = ys.length) (hw : ∀ x y, wipe (((wipe σ vs).set i (some x)).set j (some y)) vs = wipe σ vs)
    (h0 : ∀ D, H1 D = none → Pv D 0 (upd H1 D (.lst []))) (hq : ∀ D n H, n ≤ xs.length → Pv D n H → SqL K H a xs ∧ SqL K H b ys)
    (hs : ∀ D n x y T H, H1 D = none → xs[n]? = some x → ys[n]? = some y → Pv D n H → H T = none → tt (((wipe σ vs).set i (some x)).set j (some y)) (upd H T (.tup [x, y])) fun c H3 =>
      if c = true then te (((wipe σ vs).set i (some x)).set j (some y)) H3 fun z H4 => ∃ acc, H4 D = some (.lst acc) ∧ acc.length < sizeLine ∧ Pv D (n + 1) (upd H4 D (.lst (acc ++ [z]))) else Pv D (n + 1) H3)
    (hd : ∀ D H, H1 D = none → Pv D xs.length H → Q (.ref D) H) : LcGo (Itz K a b) (g2 K i j) tt te vs σ H1 Q := by
  intro D hD
  refine ⟨fun n m H => m = xs.length - n ∧ n ≤ xs.length ∧ Pv D n H, ⟨xs.length, by omega, Nat.zero_le _, h0 D hD⟩, ?_⟩
  rintro n m H ⟨rfl, hi, p⟩
  obtain ⟨qx, qy⟩ := hq D n H hi p
  by_cases hlt : n < xs.length
  · have hlt2 : n < ys.length := by omega
    refine .inr ⟨⟨xs, ys, xs[n], ys[n], qx, qy, List.getElem?_eq_getElem hlt, List.getElem?_eq_getElem hlt2⟩, Pv D (n + 1), fun H' p' => ⟨xs.length - (n + 1), by omega, rfl, hlt, p'⟩, fun v H' yl => ?_⟩
    obtain ⟨T, x, y, rfl, nT, rfl, f1, f2⟩ := yl
    exact g_pair (tupU upd_same) ⟨hw _ _, hs D n x y T H hD (f1 xs qx) (f2 ys qy) p nT⟩
  · have e : n = xs.length := by omega
    subst e
    exact .inl ⟨⟨xs, ys, qx, qy, .inl (Nat.le_refl _)⟩, hd D H hD p⟩
theorem g_lcZ {ta : TA} {g : TG} (q : ta σ H fun us H1 => ∃ a b xs ys, us = [.ref a, .ref b] ∧ SqL K H1 a xs ∧ SqL K H1 b ys ∧ LcGo (Itz K a b) g tt te vs σ H1 Q) : tLc (iZip K ta) g tt te vs σ H Q := q
/-- x *= e -/
def ipM : TIp := fun x y H Q => ∃ (i j : Int) (m n : Nat), x = .int i ∧ y = .int j ∧ Bt m i ∧ Bt n j ∧ m + n ≤ 900000 ∧ Q (.int (i * j)) H
theorem ip_mulB : PIp X .Mult ipM := by
  intro pins s σ H x y v u Q I r1 r2 h
  obtain ⟨i, j, m, n, rfl, rfl, b1, b2, l, q⟩ := h
  obtain ⟨t, rfl⟩ := r1
  obtain ⟨t', rfl⟩ := r2
  have c : CMulW i j := wide_mul (a := m + 1) (b := n + 1) (Nat.lt_of_lt_of_le b1 (Nat.pow_le_pow_right (by decide) (by omega))) (Nat.lt_of_lt_of_le b2 (Nat.pow_le_pow_right (by decide) (by omega))) (by omega) (by omega) (by omega)
  exact imul_int ⟨.int _, H, I.tok _, ⟨_, rfl⟩, q⟩ c.ok
/-- a list of pairs, unpacked into two names -/
theorem lcgo_listP {a : Addr} {xs : List V} {i j : Nat} (Pv : Addr → Nat → Hp → Prop) (hw : ∀ x y, wipe (((wipe σ vs).set i (some x)).set j (some y)) vs = wipe σ vs)
    (h0 : ∀ D, H1 D = none → Pv D 0 (upd H1 D (.lst []))) (hl : ∀ D n H, n ≤ xs.length → Pv D n H → SqL K H a xs)
    (hs : ∀ D n x H, H1 D = none → xs[n]? = some x → Pv D n H → ∃ p u v, x = .ref p ∧ SqT K H p [u, v] ∧ (tt (((wipe σ vs).set i (some u)).set j (some v)) H fun c H3 =>
      if c = true then te (((wipe σ vs).set i (some u)).set j (some v)) H3 fun z H4 => ∃ acc, H4 D = some (.lst acc) ∧ acc.length < sizeLine ∧ Pv D (n + 1) (upd H4 D (.lst (acc ++ [z]))) else Pv D (n + 1) H3))
    (hd : ∀ D H, H1 D = none → Pv D xs.length H → Q (.ref D) H) : LcGo (Itl K a) (g2 K i j) tt te vs σ H1 Q := by
  intro D hD
  refine ⟨fun n m H => m = xs.length - n ∧ n ≤ xs.length ∧ Pv D n H, ⟨xs.length, by omega, Nat.zero_le _, h0 D hD⟩, ?_⟩
  rintro n m H ⟨rfl, hi, p⟩
  have q := hl D n H hi p
  by_cases hlt : n < xs.length
  · refine .inr ⟨⟨xs, xs[n], q, List.getElem?_eq_getElem hlt⟩, Pv D (n + 1), fun H' p' => ⟨xs.length - (n + 1), by omega, rfl, hlt, p'⟩, fun x H' yl => ?_⟩
    obtain ⟨rfl, f⟩ := yl
    obtain ⟨b, u, v, rfl, hb, k⟩ := hs D n x _ hD (f xs q) p
    exact g_pair hb ⟨hw _ _, k⟩
  · have e : n = xs.length := by omega
    subst e
    exact .inl ⟨⟨xs, q, Nat.le_refl _⟩, hd D H hD p⟩
end
end Mf
namespace Mf
open PySem PySem.Spec PySem.Calls PyProof.Rows L2
/-- what a pair of fractions tells -/
def xy : PyData → Rat × Rat
  | .list [a, b] | .tuple [a, b] => (valQ a, valQ b)
  | _ => (0, 0)
def PtOk (n : Nat) (d : PyData) : Prop := ∃ a b, (d = .list [a, b] ∨ d = .tuple [a, b]) ∧ (isFrD a = true ∧ Bt n (upD a) ∧ Bt n (dnD a)) ∧ (isFrD b = true ∧ Bt n (upD b) ∧ Bt n (dnD b))
theorem PtOk.pl {n : Nat} {d : PyData} (h : PtOk n d) : isPlD d = true := by
  obtain ⟨a, b, e, ha, hb⟩ := h
  rw [(frD_of e).2, ha.1, hb.1] <;> rfl
section
variable {q : Addr} {K : PySem.W.Frag} {H H' : Hp}
theorem PtOk.un {n : Nat} {x : V} {d : PyData} (h : PtOk n d) (hd : Dq q K H x d) : ∃ b u v, x = .ref b ∧ b ≠ q ∧ Sq K H b [u, v] ∧ Fr q K H u (xy d).1 n ∧ Fr q K H v (xy d).2 n := by
  obtain ⟨a, b, e, ha, hb⟩ := h
  rcases e with rfl | rfl
  · cases hd with
    | lst nq hs hall =>
      cases hall with
      | cons h1 t => cases t with
        | cons h2 t => cases t; exact ⟨_, _, _, rfl, nq, .inl hs, Fr.of h1 ha.1 ha.2.1 ha.2.2, Fr.of h2 hb.1 hb.2.1 hb.2.2⟩
  · cases hd with
    | tup nq hs hall =>
      cases hall with
      | cons h1 t => cases t with
        | cons h2 t => cases t; exact ⟨_, _, _, rfl, nq, .inr hs, Fr.of h1 ha.1 ha.2.1 ha.2.2, Fr.of h2 hb.1 hb.2.1 hb.2.2⟩
end
/-- pairs of reduced fractions on the heap -/
inductive PP (H : Hp) : List V → List (Rat × Rat) → Prop
  | nil : PP H [] []
  | cons {a p1 p2 : Addr} {r : Rat × Rat} {vs : List V} {rs : List (Rat × Rat)} : H a = some (.tup [.ref p1, .ref p2]) → H p1 = some (.tup (rv r.1)) → H p2 = some (.tup (rv r.2)) → PP H vs rs → PP H (.ref a :: vs) (r :: rs)
theorem PP.go {H H' : Hp} (s : KeepT H H') : ∀ {vs : List V} {rs : List (Rat × Rat)}, PP H vs rs → PP H' vs rs
  | _, _, .nil => .nil
  | _, _, .cons e e1 e2 t => .cons (s _ _ e) (s _ _ e1) (s _ _ e2) (PP.go s t)
theorem PP.len {H : Hp} : ∀ {vs : List V} {rs : List (Rat × Rat)}, PP H vs rs → vs.length = rs.length
  | _, _, .nil => rfl
  | _, _, .cons _ _ _ t => congrArg Nat.succ (PP.len t)
theorem PP.get {H : Hp} : ∀ {vs : List V} {rs : List (Rat × Rat)} {i : Nat} {v : V}, PP H vs rs → vs[i]? = some v → ∃ a p1 p2 r, v = .ref a ∧ rs[i]? = some r ∧ H a = some (.tup [.ref p1, .ref p2]) ∧ H p1 = some (.tup (rv r.1)) ∧ H p2 = some (.tup (rv r.2))
  | _, _, _, _, .nil, h => by cases h
  | _, _, 0, _, .cons e e1 e2 _, h => by
    cases h
    exact ⟨_, _, _, _, rfl, rfl, e, e1, e2⟩
  | _, _, i + 1, v, .cons _ _ _ t, h => PP.get (i := i) (v := v) t h
theorem PP.snoc {H : Hp} {a p1 p2 : Addr} {r : Rat × Rat} (e : H a = some (.tup [.ref p1, .ref p2])) (e1 : H p1 = some (.tup (rv r.1))) (e2 : H p2 = some (.tup (rv r.2))) : ∀ {vs : List V} {rs : List (Rat × Rat)}, PP H vs rs → PP H (vs ++ [.ref a]) (rs ++ [r])
  | _, _, .nil => .cons e e1 e2 .nil
  | _, _, .cons g g1 g2 t => .cons g g1 g2 (PP.snoc e e1 e2 t)
/-- reduced fractions as keys -/
def keyOf (r : Rat) : List Int := [r.num, (r.den : Int)]
theorem key_inj {r s : Rat} (h : keyOf r = keyOf s) : r = s := by
  unfold keyOf at h
  simp only [List.cons.injEq, and_true, Int.natCast_inj] at h
  exact Rat.ext h.1 h.2
theorem TL.keys {H : Hp} : ∀ {vs : List V} {rs : List Rat}, TL H vs rs → ∃ ks : List (Addr × List Int), vs = ks.map (fun p => V.ref p.1) ∧ (∀ p ∈ ks, H p.1 = some (.tup (p.2.map V.int))) ∧ ks.map (·.2) = rs.map keyOf
  | _, _, .nil => ⟨[], rfl, fun p h => absurd h List.not_mem_nil, rfl⟩
  | _, _, .cons (a := a) (r := r) e t => by
    obtain ⟨ks, h1, h2, h3⟩ := TL.keys t
    refine ⟨(a, keyOf r) :: ks, by rw [h1]; rfl, fun p hp => ?_, by rw [List.map_cons, List.map_cons, h3]⟩
    rcases List.mem_cons.mp hp with rfl | hp
    · exact e
    · exact h2 p hp
theorem keys_len {ks L : List (Addr × List Int)} (h1 : (ks.map (·.2)).Nodup) (h2 : (L.map (·.2)).Nodup) (h3 : ∀ p ∈ L, p ∈ ks) (h4 : ∀ p ∈ ks, p.2 ∈ L.map (·.2)) : L.length = ks.length := by
  have hp : (L.map (·.2)).Perm (ks.map (·.2)) := (List.perm_ext_iff_of_nodup h2 h1).mpr fun x => ⟨fun hx => by
    obtain ⟨p, hp, rfl⟩ := List.mem_map.mp hx
    exact List.mem_map.mpr ⟨p, h3 p hp, rfl⟩, fun hx => by
    obtain ⟨p, hp, rfl⟩ := List.mem_map.mp hx
    exact h4 p hp⟩
  have := hp.length_eq
  rw [List.length_map, List.length_map] at this
  exact this
theorem keys_nodup {rs : List Rat} (h : rs.Nodup) : (rs.map keyOf).Nodup := by
  rw [List.nodup_iff_pairwise_ne] at *
  rw [List.pairwise_map]
  exact h.imp fun ne e => ne (key_inj e)
def sp_rpts (K : PySem.W.Frag) : Sp := fun vs H Q _ => ∃ q a xs ds n, vs = [.ref a] ∧ a ≠ q ∧ Sq K H a xs ∧ DqAll q K H xs ds ∧ (∀ d ∈ ds, PtOk n d) ∧ n ≤ 7000 ∧ ds.length ≤ 40 ∧ (ds.map fun d => (xy d).1).Nodup ∧
  ∀ L H' vs, Same H H' → H L = none → H' L = some (.lst vs) → PP H' vs (ds.map xy) → Q (.ref L) H'
/-- integers in a list -/
def IL (H : Hp) (L : Addr) (P : List Int) : Prop := H L = some (.lst (P.map V.int))
def sp_tfac (K : PySem.W.Frag) : Sp := fun vs H Q _ => ∃ (l p : Addr) (P : List Int) (r : Rat) (m n : Nat), vs = [.ref l, .ref p] ∧ IL H l P ∧ H p = some (.tup (rv r)) ∧ Rb n r ∧ (∀ i, Bt m (ic P i)) ∧ m + n ≤ 800000 ∧ P.length ≤ 200 ∧ ∀ L H', Same H H' → H L = none → IL H' L (tf (r.num, (r.den : Int)) P) → Q (.ref L) H'
def sp_wfac (K : PySem.W.Frag) : Sp := fun vs H Q _ => ∃ (l p : Addr) (R : List Int) (r : Rat) (m n : Nat), vs = [.ref l, .ref p] ∧ IL H l (tf (r.num, (r.den : Int)) R) ∧ H p = some (.tup (rv r)) ∧ Rb n r ∧ n ≤ 800 ∧ (∀ i, Bt m (ic R i)) ∧ m + n ≤ 800000 ∧ R.length ≤ 200 ∧ ∀ L H', Same H H' → H L = none → IL H' L R → Q (.ref L) H'
end Mf
namespace Mf
open PySem PySem.Spec PySem.Calls PyProof.Rows L2
section
variable {X : Cx} {K : PySem.W.Frag} {σ : L2.St} {H H1 : Hp} {Q : VK} {te : TE} {tt : TT} {vs : List Nat}
abbrev g2O (K : PySem.W.Frag) (i j : Nat) : TG := fun v σ H R => gTup K 2 (gCons (gName i) (gCons (gName j) gNil)) v σ H R ∨ gUnl K 2 (gCons (gName i) (gCons (gName j) gNil)) v σ H R
theorem g_pairO {i j : Nat} {a : Addr} {x y : V} {R : L2.St → Hp → Prop} (h : Sq K H a [x, y]) (q : R ((σ.set i (some x)).set j (some y)) H) : g2O K i j (.ref a) σ H R := by
  rcases h with h | h
  · exact .inr ⟨a, [x, y], rfl, h, rfl, x, [y], rfl, y, [], rfl, rfl, q⟩
  · exact .inl ⟨a, [x, y], rfl, h, rfl, x, [y], rfl, y, [], rfl, rfl, q⟩
theorem lcgo_listO {a : Addr} {xs : List V} {i j : Nat} (Pv : Addr → Nat → Hp → Prop) (hw : ∀ x y, wipe (((wipe σ vs).set i (some x)).set j (some y)) vs = wipe σ vs)
    (h0 : ∀ D, H1 D = none → Pv D 0 (upd H1 D (.lst []))) (hl : ∀ D n H, n ≤ xs.length → Pv D n H → SqL K H a xs)
    (hs : ∀ D n x H, H1 D = none → xs[n]? = some x → Pv D n H → ∃ p u v, x = .ref p ∧ Sq K H p [u, v] ∧ (tt (((wipe σ vs).set i (some u)).set j (some v)) H fun c H3 =>
      if c = true then te (((wipe σ vs).set i (some u)).set j (some v)) H3 fun z H4 => ∃ acc, H4 D = some (.lst acc) ∧ acc.length < sizeLine ∧ Pv D (n + 1) (upd H4 D (.lst (acc ++ [z]))) else Pv D (n + 1) H3))
    (hd : ∀ D H, H1 D = none → Pv D xs.length H → Q (.ref D) H) : LcGo (Itl K a) (g2O K i j) tt te vs σ H1 Q := by
  intro D hD
  refine ⟨fun n m H => m = xs.length - n ∧ n ≤ xs.length ∧ Pv D n H, ⟨xs.length, by omega, Nat.zero_le _, h0 D hD⟩, ?_⟩
  rintro n m H ⟨rfl, hi, p⟩
  have q := hl D n H hi p
  by_cases hlt : n < xs.length
  · refine .inr ⟨⟨xs, xs[n], q, List.getElem?_eq_getElem hlt⟩, Pv D (n + 1), fun H' p' => ⟨xs.length - (n + 1), by omega, rfl, hlt, p'⟩, fun x H' yl => ?_⟩
    obtain ⟨rfl, f⟩ := yl
    obtain ⟨b, u, v, rfl, hb, k⟩ := hs D n x _ hD (f xs q) p
    exact g_pairO hb ⟨hw _ _, k⟩
  · have e : n = xs.length := by omega
    subst e
    exact .inl ⟨⟨xs, q, Nat.le_refl _⟩, hd D H hD p⟩
theorem lcgo_tupO {a : Addr} {xs : List V} {i j : Nat} (Pv : Addr → Nat → Hp → Prop) (hw : ∀ x y, wipe (((wipe σ vs).set i (some x)).set j (some y)) vs = wipe σ vs)
    (h0 : ∀ D, H1 D = none → Pv D 0 (upd H1 D (.lst []))) (hl : ∀ D n H, n ≤ xs.length → Pv D n H → SqT K H a xs)
    (hs : ∀ D n x H, H1 D = none → xs[n]? = some x → Pv D n H → ∃ p u v, x = .ref p ∧ Sq K H p [u, v] ∧ (tt (((wipe σ vs).set i (some u)).set j (some v)) H fun c H3 =>
      if c = true then te (((wipe σ vs).set i (some u)).set j (some v)) H3 fun z H4 => ∃ acc, H4 D = some (.lst acc) ∧ acc.length < sizeLine ∧ Pv D (n + 1) (upd H4 D (.lst (acc ++ [z]))) else Pv D (n + 1) H3))
    (hd : ∀ D H, H1 D = none → Pv D xs.length H → Q (.ref D) H) : LcGo (Itt K a) (g2O K i j) tt te vs σ H1 Q := by
  intro D hD
  refine ⟨fun n m H => m = xs.length - n ∧ n ≤ xs.length ∧ Pv D n H, ⟨xs.length, by omega, Nat.zero_le _, h0 D hD⟩, ?_⟩
  rintro n m H ⟨rfl, hi, p⟩
  have q := hl D n H hi p
  by_cases hlt : n < xs.length
  · refine .inr ⟨⟨xs, xs[n], q, List.getElem?_eq_getElem hlt⟩, Pv D (n + 1), fun H' p' => ⟨xs.length - (n + 1), by omega, rfl, hlt, p'⟩, fun x H' yl => ?_⟩
    obtain ⟨rfl, f⟩ := yl
    obtain ⟨b, u, v, rfl, hb, k⟩ := hs D n x _ hD (f xs q) p
    exact g_pairO hb ⟨hw _ _, k⟩
  · have e : n = xs.length := by omega
    subst e
    exact .inl ⟨⟨xs, q, Nat.le_refl _⟩, hd D H hD p⟩
end
end Mf
namespace Mf
open PySem PySem.Spec PySem.Calls PyProof.Rows L2
section
variable {K : PySem.W.Frag} {σ : L2.St} {H : Hp} {g : TG} {tb : TS} {D : Ends}
theorem g_forLE {te : TE} (q : te σ H fun x H1 => ∃ a, x = .ref a ∧ (∃ xs, SqL K H1 a xs) ∧ ForGo (Itl K a) g tb D σ H1) : tFor (iList K te) g tb D σ H := q
theorem forgo_list {a : Addr} {xs : List V} (Pv : Nat → L2.St → Hp → Prop) (h0 : Pv 0 σ H) (hl : ∀ i σ H, Pv i σ H → SqL K H a xs)
    (hs : ∀ i x σ H, xs[i]? = some x → Pv i σ H → g x σ H fun σ2 H2 => tb ⟨Pv (i + 1), D.rt, D.nx, Pv (i + 1)⟩ σ2 H2) (hd : ∀ σ H, Pv xs.length σ H → D.nx σ H) : ForGo (Itl K a) g tb D σ H := by
  refine ⟨fun i m σ H => m = xs.length - i ∧ i ≤ xs.length ∧ Pv i σ H, ⟨xs.length, by omega, Nat.zero_le _, h0⟩, ?_⟩
  rintro i m σ H ⟨rfl, hi, p⟩
  have q := hl i σ H p
  by_cases hlt : i < xs.length
  · refine .inr ⟨⟨xs, xs[i], q, List.getElem?_eq_getElem hlt⟩, Pv (i + 1), fun σ' H' p' => ⟨xs.length - (i + 1), by omega, rfl, hlt, p'⟩, fun x H' yl => ?_⟩
    obtain ⟨e, f⟩ := yl
    subst e
    exact hs i x _ _ (f xs q) p
  · have e : i = xs.length := by omega
    subst e
    exact .inl ⟨⟨xs, q, Nat.le_refl _⟩, hd σ H p⟩
end
theorem cut_lo {xs : List V} {k : Nat} (h : k ≤ xs.length) : cutV xs (some (k : Int)) none = xs.drop k := by
  have e2 : HT.sIx xs.length xs.length none = xs.length := rfl
  have e : HT.sIx xs.length 0 (some (k : Int)) = k := by
    simp only [HT.sIx]
    rw [if_neg (by omega)]
    omega
  unfold cutV
  rw [e, e2]
  show (xs.drop k).take (xs.length - k) = _
  rw [List.take_of_length_le (by rw [List.length_drop]; omega)]
/-! ### shares -/
def facI (r s : Rat) : Int := (s.den : Int) * r.num - s.num * (r.den : Int)
def shT (r : Rat) (L : List Rat) (z : Int) : Int := L.foldl (fun z _ => z * (r.den : Int)) z
def shB (r : Rat) (L : List Rat) (z : Int) : Int := L.foldl (fun z s => z * facI r s) z
def share (r v : Rat) (L : List Rat) : Rat := Rat.divInt (shT r L v.num) 1 / Rat.divInt (shB r L (v.den : Int)) 1
theorem fac_ne {r s : Rat} (h : s ≠ r) : facI r s ≠ 0 := fun z => h (by
  unfold facI at z
  have e : r.num * (s.den : Int) = s.num * (r.den : Int) := by
    have := Int.sub_eq_zero.mp z
    rw [Int.mul_comm]
    exact this
  have d1 := den1 r
  have d2 := den1 s
  have h2 := (Rat.divInt_eq_divInt_iff (show (r.den : Int) ≠ 0 by omega) (show (s.den : Int) ≠ 0 by omega)).mpr e
  rw [Rat.num_divInt_den, Rat.num_divInt_den] at h2
  exact h2.symm)
theorem shB_ne {r : Rat} : ∀ {L : List Rat} {z : Int}, z ≠ 0 → (∀ s ∈ L, s ≠ r) → shB r L z ≠ 0
  | [], z, hz, _ => hz
  | s :: L, z, hz, h => shB_ne (L := L) (Int.mul_ne_zero hz (fac_ne (h s List.mem_cons_self))) fun x hx => h x (List.mem_cons_of_mem _ hx)
theorem fac_bt {r s : Rat} {A : Nat} (hr : Rb A r) (hs : Rb A s) : Bt (A + A + 1) (facI r s) := by
  unfold facI
  rw [Int.sub_eq_add_neg]
  exact ((hs.2.mul hr.1)).add (hs.1.mul hr.2).neg
theorem shT_bt {r : Rat} {A : Nat} (hr : Rb A r) : ∀ {L : List Rat} {z : Int} {m : Nat}, Bt m z → Bt (m + L.length * A) (shT r L z)
  | [], z, m, h => h.mono (by omega)
  | s :: L, z, m, h => (shT_bt hr (L := L) (h.mul hr.2)).mono (by rw [List.length_cons, Nat.succ_mul]; omega)
theorem shB_bt {r : Rat} {A : Nat} (hr : Rb A r) : ∀ {L : List Rat} {z : Int} {m : Nat}, (∀ s ∈ L, Rb A s) → Bt m z → Bt (m + L.length * (A + A + 1)) (shB r L z)
  | [], z, m, _, h => h.mono (by omega)
  | s :: L, z, m, hL, h => (shB_bt hr (L := L) (fun x hx => hL x (List.mem_cons_of_mem _ hx)) (h.mul (fac_bt hr (hL s List.mem_cons_self)))).mono (by rw [List.length_cons, Nat.succ_mul]; omega)
def oth (rs : List (Rat × Rat)) (k : Nat) : List (Rat × Rat) := rs.take k ++ rs.drop (k + 1)
theorem PP.app {H : Hp} : ∀ {vs ws : List V} {rs ss : List (Rat × Rat)}, PP H vs rs → PP H ws ss → PP H (vs ++ ws) (rs ++ ss)
  | _, _, _, _, .nil, h => h
  | _, _, _, _, .cons e e1 e2 t, h => .cons e e1 e2 (PP.app t h)
theorem PP.take {H : Hp} : ∀ {vs : List V} {rs : List (Rat × Rat)} (n : Nat), PP H vs rs → PP H (vs.take n) (rs.take n)
  | _, _, _, .nil => by rw [List.take_nil, List.take_nil]; exact .nil
  | _, _, 0, .cons .. => .nil
  | _, _, n + 1, .cons e e1 e2 t => .cons e e1 e2 (PP.take n t)
theorem PP.drop {H : Hp} : ∀ {vs : List V} {rs : List (Rat × Rat)} (n : Nat), PP H vs rs → PP H (vs.drop n) (rs.drop n)
  | _, _, _, .nil => by rw [List.drop_nil, List.drop_nil]; exact .nil
  | _, _, 0, .cons e e1 e2 t => .cons e e1 e2 t
  | _, _, n + 1, .cons _ _ _ t => PP.drop n t
def sp_share (K : PySem.W.Frag) : Sp := fun vs H Q _ => ∃ (a : Addr) (ws : List V) (rs : List (Rat × Rat)) (k : Nat) (r v : Rat) (A B : Nat), vs = [.ref a, .int (k : Int)] ∧ H a = some (.lst ws) ∧ PP H ws rs ∧ rs[k]? = some (r, v) ∧ rs.length ≤ 40 ∧ (∀ z ∈ rs, Rb A z.1) ∧ Rb B v ∧ 1 ≤ A ∧ 1 ≤ B ∧
  2 * B + 40 * (3 * A + 1) + 2 ≤ 6900 ∧ (∀ s ∈ (oth rs k).map (·.1), s ≠ r) ∧ RetT (share r v ((oth rs k).map (·.1))) H Q
end Mf
namespace Mf
open PySem PySem.Spec PyProof.Rows L2
def pvl (x : Rat) : List Rat → Rat
  | [] => 1
  | s :: L => ((s.den : Rat) * x - (s.num : Rat)) * pvl x L
theorem num_eq (r : Rat) : (r.num : Rat) = r * (r.den : Rat) := by
  have h := Rat.num_divInt_den r
  have d : (r.den : Rat) ≠ 0 := by
    intro z
    have z2 : ((r.den : Rat)).num = 0 := by rw [z]; rfl
    have : (r.den : Int) = 0 := z2
    have := den1 r
    omega
  have e : Rat.divInt r.num (r.den : Int) * (r.den : Rat) = (r.num : Rat) := by
    have e2 : Rat.divInt (r.num * (r.den : Int)) (1 * (r.den : Int)) = Rat.divInt r.num 1 := Rat.divInt_mul_right (by have := den1 r; omega)
    rw [Int.one_mul] at e2
    rw [← div_nat r.den, Rat.divInt_mul_divInt, Int.mul_one, e2]
    exact div_int _
  rw [h] at e
  exact e.symm
def fac (r : Rat) : Int × Int := (r.num, (r.den : Int))
theorem ival_fold (x : Rat) : ∀ (L : List Rat) (P : List Int), ival ((L.map fac).foldl (fun P a => tf a P) P) x = ival P x * pvl x L
  | [], P => by
    show ival P x = ival P x * 1
    rw [Rat.mul_one]
  | s :: L, P => by
    show ival ((L.map fac).foldl _ (tf (fac s) P)) x = _
    rw [ival_fold x L, ival_tf]
    show _ = ival P x * (((s.den : Rat) * x - (s.num : Rat)) * pvl x L)
    show (((s.den : Int) : Rat) * x - (s.num : Rat)) * ival P x * pvl x L = _
    rw [show (((s.den : Int)) : Rat) = (s.den : Rat) from rfl]
    grind
theorem ival_prod (x : Rat) (L : List Rat) : ival (prodF (L.map fac)) x = pvl x L := by
  unfold prodF
  rw [ival_fold]
  have : ival [1] x = 1 := by
    show (0 : Rat) + ((ic [1] 0 : Int) : Rat) * x ^ 0 = 1
    rw [Rat.pow_zero, show ic [1] 0 = 1 from rfl, show (((1 : Int)) : Rat) = 1 from rfl]
    grind
  rw [this]
  grind
theorem pv_zero {x : Rat} : ∀ {L : List Rat}, x ∈ L → pvl x L = 0
  | s :: L, h => by
    show ((s.den : Rat) * x - (s.num : Rat)) * pvl x L = 0
    rcases List.mem_cons.mp h with rfl | h
    · rw [num_eq]
      grind
    · rw [pv_zero h]
      grind
theorem shT_val (r : Rat) : ∀ (L : List Rat) (z : Int), (shT r L z : Rat) = (z : Rat) * (r.den : Rat) ^ L.length
  | [], z => by
    show (z : Rat) = (z : Rat) * (r.den : Rat) ^ 0
    rw [Rat.pow_zero, Rat.mul_one]
  | s :: L, z => by
    show (shT r L (z * (r.den : Int)) : Rat) = _
    rw [shT_val r L, List.length_cons, Rat.pow_succ, Rat.intCast_mul, show (((r.den : Int)) : Rat) = (r.den : Rat) from rfl]
    grind
theorem shB_val (r : Rat) : ∀ (L : List Rat) (z : Int), (shB r L z : Rat) = (z : Rat) * (pvl r L * (r.den : Rat) ^ L.length)
  | [], z => by
    show (z : Rat) = (z : Rat) * (1 * (r.den : Rat) ^ 0)
    rw [Rat.pow_zero, Rat.mul_one, Rat.mul_one]
  | s :: L, z => by
    show (shB r L (z * facI r s) : Rat) = (z : Rat) * ((((s.den : Rat) * r - (s.num : Rat)) * pvl r L) * (r.den : Rat) ^ (L.length + 1))
    rw [shB_val r L, Rat.pow_succ, Rat.intCast_mul]
    have e : (facI r s : Rat) = ((s.den : Rat) * r - (s.num : Rat)) * (r.den : Rat) := by
      unfold facI
      rw [Rat.intCast_sub, Rat.intCast_mul, Rat.intCast_mul, num_eq r, show (((s.den : Int)) : Rat) = (s.den : Rat) from rfl, show (((r.den : Int)) : Rat) = (r.den : Rat) from rfl]
      grind
    rw [e]
    grind
theorem den_ne (r : Rat) : (r.den : Rat) ≠ 0 := by
  intro z
  have z2 : ((r.den : Rat)).num = 0 := by rw [z]; rfl
  have : (r.den : Int) = 0 := z2
  have := den1 r
  omega
/-- at its own place a point's part takes its value -/
theorem share_at_own {r v : Rat} {L : List Rat} (h : ∀ s ∈ L, s ≠ r) : share r v L * pvl r L = v := by
  have b0 := shB_ne (r := r) (L := L) (z := (v.den : Int)) (by have := den1 v; omega) h
  unfold share
  rw [div_int, div_int]
  have b1 : ((shB r L (v.den : Int) : Int) : Rat) ≠ 0 := fun z => b0 (by
    have z2 : (((shB r L (v.den : Int) : Int) : Rat)).num = 0 := by rw [z]; rfl
    exact z2)
  have e1 := shT_val r L v.num
  have e2 := shB_val r L (v.den : Int)
  have e3 := num_eq v
  rw [show (((v.den : Int)) : Rat) = (v.den : Rat) from rfl] at e2
  rw [e1, Rat.div_def]
  have c := Rat.mul_inv_cancel _ b1
  rw [e3]
  have : v * (v.den : Rat) * (r.den : Rat) ^ L.length * (((shB r L (v.den : Int) : Int) : Rat))⁻¹ * pvl r L = v * ((((shB r L (v.den : Int) : Int) : Rat)) * (((shB r L (v.den : Int) : Int) : Rat))⁻¹) := by
    rw [e2]
    grind
  rw [this, c, Rat.mul_one]
/-! ### sums -/
def sm (f : Nat → Rat) : Nat → Rat
  | 0 => 0
  | n + 1 => sm f n + f n
theorem sm_congr {f g : Nat → Rat} : ∀ {n : Nat}, (∀ i, i < n → f i = g i) → sm f n = sm g n
  | 0, _ => rfl
  | n + 1, h => by
    show sm f n + f n = sm g n + g n
    rw [sm_congr fun i hi => h i (by omega), h n (by omega)]
theorem evs_mul (a : Rat) (c : Nat → Rat) (x : Rat) : ∀ n, evs (fun i => a * c i) x n = a * evs c x n
  | 0 => by show (0 : Rat) = a * 0; grind
  | n + 1 => by
    show evs _ x n + a * c n * x ^ n = a * (evs c x n + c n * x ^ n)
    rw [evs_mul a c x n]
    grind
theorem evs_sm (a : Nat → Rat) (c : Nat → Nat → Rat) (x : Rat) (n : Nat) : ∀ m, evs (fun i => sm (fun k => a k * c k i) m) x n = sm (fun k => a k * evs (c k) x n) m
  | 0 => by
    have : ∀ n, evs (fun i => sm (fun k => a k * c k i) 0) x n = 0 := by
      intro n
      induction n with
      | zero => rfl
      | succ n ih =>
        show evs _ x n + (0 : Rat) * x ^ n = 0
        rw [ih]
        grind
    exact this n
  | m + 1 => by
    show evs (fun i => sm (fun k => a k * c k i) m + a m * c m i) x n = sm _ m + a m * evs (c m) x n
    rw [evs_add (fun i => sm (fun k => a k * c k i) m) (fun i => a m * c m i), evs_sm a c x n m, evs_mul]
theorem sm_one {f : Nat → Rat} {n m : Nat} (hm : m < n) (h : ∀ i, i < n → i ≠ m → f i = 0) : sm f n = f m := by
  have z : ∀ j, j ≤ m → sm f j = 0 := by
    intro j
    induction j with
    | zero => intro _; rfl
    | succ j ih =>
      intro hj
      show sm f j + f j = 0
      rw [ih (by omega), h j (by omega) (by omega)]
      grind
  have z2 : ∀ j, m + 1 + j ≤ n → sm f (m + 1 + j) = f m := by
    intro j
    induction j with
    | zero =>
      intro _
      show sm f m + f m = f m
      rw [z m (Nat.le_refl _)]
      grind
    | succ j ih =>
      intro hj
      show sm f (m + 1 + j) + f (m + 1 + j) = f m
      rw [ih (by omega), h (m + 1 + j) (by omega) (by omega)]
      grind
  have := z2 (n - (m + 1)) (by omega)
  rw [show m + 1 + (n - (m + 1)) = n by omega] at this
  exact this
/-! ### through points -/
def at1 (rs : List (Rat × Rat)) (k : Nat) : Rat × Rat := rs.getD k (0, 0)
theorem at1_get {rs : List (Rat × Rat)} {k : Nat} (h : k < rs.length) : rs[k]? = some (at1 rs k) := by
  unfold at1
  rw [List.getD_eq_getElem?_getD, List.getElem?_eq_getElem h]
  rfl
def oth1 (rs : List (Rat × Rat)) (k : Nat) : List Rat := (oth rs k).map (·.1)
def shr (rs : List (Rat × Rat)) (k : Nat) : Rat := share (at1 rs k).1 (at1 rs k).2 (oth1 rs k)
def prt (rs : List (Rat × Rat)) (k : Nat) : List Int := prodF ((oth1 rs k).map fac)
def thru (rs : List (Rat × Rat)) : List Rat := (List.range rs.length).map fun i => sm (fun k => shr rs k * (ic (prt rs k) i : Rat)) rs.length
theorem len_thru (rs : List (Rat × Rat)) : (thru rs).length = rs.length := by simp [thru]
theorem len_oth {rs : List (Rat × Rat)} {k : Nat} (h : k < rs.length) : (oth1 rs k).length + 1 = rs.length := by
  unfold oth1 oth
  rw [List.length_map, List.length_append, List.length_take, List.length_drop]
  omega
theorem len_prt {rs : List (Rat × Rat)} {k : Nat} (h : k < rs.length) : (prt rs k).length = rs.length := by
  unfold prt prodF
  rw [len_prod, List.length_map]
  have := len_oth h
  show 1 + (oth1 rs k).length = _
  omega
theorem mem_oth {rs : List (Rat × Rat)} {k m : Nat} (hm : m < rs.length) (ne : m ≠ k) : (at1 rs m).1 ∈ oth1 rs k := by
  unfold oth1 oth
  refine List.mem_map.mpr ⟨at1 rs m, ?_, rfl⟩
  have e := at1_get hm
  rcases Nat.lt_or_gt_of_ne ne with h | h
  · exact List.mem_append_left _ (List.mem_of_getElem? (i := m) (by rw [List.getElem?_take_of_lt h]; exact e))
  · exact List.mem_append_right _ (List.mem_of_getElem? (i := m - (k + 1)) (by rw [List.getElem?_drop, show k + 1 + (m - (k + 1)) = m by omega]; exact e))
theorem oth_ne {rs : List (Rat × Rat)} {k : Nat} (nd : (rs.map (·.1)).Nodup) (hk : k < rs.length) : ∀ s ∈ oth1 rs k, s ≠ (at1 rs k).1 := fun s hs z => by
  have e := at1_get hk
  have sp : rs = rs.take k ++ at1 rs k :: rs.drop (k + 1) := by
    have h1 : rs.drop k = at1 rs k :: rs.drop (k + 1) := by
      rw [List.drop_eq_getElem_cons hk]
      congr 1
      rw [List.getElem?_eq_getElem hk] at e
      exact Option.some.inj e
    rw [← h1, List.take_append_drop]
  rw [sp, List.map_append, List.map_cons] at nd
  obtain ⟨_, n2, n3⟩ := List.nodup_append.mp nd
  unfold oth1 oth at hs
  rw [List.map_append] at hs
  rcases List.mem_append.mp hs with h | h
  · exact n3 s h _ List.mem_cons_self z
  · rw [List.nodup_cons] at n2
    rw [z] at h
    exact n2.1 h
theorem val_thru {rs : List (Rat × Rat)} (nd : (rs.map (·.1)).Nodup) {m : Nat} (hm : m < rs.length) : val (thru rs) (at1 rs m).1 = (at1 rs m).2 := by
  have e : val (thru rs) (at1 rs m).1 = evs (fun i => sm (fun k => shr rs k * (ic (prt rs k) i : Rat)) rs.length) (at1 rs m).1 rs.length := by
    unfold val
    rw [len_thru]
    have key : ∀ n, n ≤ rs.length → evs (co (thru rs)) (at1 rs m).1 n = evs (fun i => sm (fun k => shr rs k * (ic (prt rs k) i : Rat)) rs.length) (at1 rs m).1 n := by
      intro n
      induction n with
      | zero => intro _; rfl
      | succ n ih =>
        intro hn
        show evs _ _ n + co (thru rs) n * _ = evs _ _ n + sm _ _ * _
        rw [ih (by omega)]
        congr 2
        unfold thru
        exact co_map (by omega)
    exact key _ (Nat.le_refl _)
  rw [e, evs_sm, sm_one hm]
  · rw [show evs (fun i => (ic (prt rs m) i : Rat)) (at1 rs m).1 rs.length = ival (prt rs m) (at1 rs m).1 from ival_ge (by rw [len_prt hm]; exact Nat.le_refl _)]
    unfold prt
    rw [ival_prod]
    exact share_at_own (oth_ne nd hm)
  · intro k hk ne
    rw [show evs (fun i => (ic (prt rs k) i : Rat)) (at1 rs m).1 rs.length = ival (prt rs k) (at1 rs m).1 from ival_ge (by rw [len_prt hk]; exact Nat.le_refl _)]
    unfold prt
    rw [ival_prod, pv_zero (mem_oth hm (fun z => ne z.symm))]
    grind
end Mf
namespace Mf
open PySem PySem.Spec PySem.Calls PyProof.Rows L2
/-! sizes, and the promise of a polynomial through points -/
theorem rb_share {r v : Rat} {L : List Rat} {A B : Nat} (hr : Rb A r) (hv : Rb B v) (hL : ∀ s ∈ L, Rb A s) (h : ∀ s ∈ L, s ≠ r) (hB : 1 ≤ B) : Rb (2 * B + L.length * (3 * A + 1)) (share r v L) := by
  have b0 := shB_ne (r := r) (L := L) (z := (v.den : Int)) (by have := den1 v; omega) h
  have b1 : Bt (B + L.length * A) (shT r L v.num) := shT_bt hr hv.1
  have b2 : Bt (B + L.length * (A + A + 1)) (shB r L (v.den : Int)) := shB_bt hr hL hv.2
  have o1 : ∀ {m : Nat}, Bt (B + m) 1 := fun {m} => Bt.mono (m := 1) (by show (1 : Int).natAbs < 2 ^ 1; decide) (by omega)
  have r1 := Rb.of (d := 1) (by decide) b1 o1
  have r2 := Rb.of (d := 1) (by decide) b2 o1
  have nz : Rat.divInt (shB r L (v.den : Int)) 1 ≠ 0 := fun z => by
    have z2 : Rat.divInt (shB r L (v.den : Int)) 1 = Rat.divInt 0 1 := by rw [z, Rat.zero_divInt]
    have := (Rat.divInt_eq_divInt_iff (by decide) (by decide)).mp z2
    omega
  refine (r1.div r2 nz).mono ?_
  have e : L.length * (3 * A + 1) = L.length * A + L.length * (A + A + 1) := by rw [← Nat.mul_add]; congr 1; omega
  omega
theorem bt_tf {a : Int × Int} {P : List Int} {A m : Nat} (h1 : Bt A a.1) (h2 : Bt A a.2) (h : ∀ i, Bt m (ic P i)) (i : Nat) : Bt (A + m + 1) (ic (tf a P) i) := by
  rw [ic_tf, Int.sub_eq_add_neg]
  refine Bt.add (h2.mul ?_) (h1.mul (h i)).neg
  split
  · exact Nat.two_pow_pos m
  · exact h _
theorem bt_fold {A : Nat} : ∀ {L : List Rat} {P : List Int} {m : Nat}, (∀ s ∈ L, Rb A s) → (∀ i, Bt m (ic P i)) → ∀ i, Bt (m + L.length * (A + 1)) (ic ((L.map fac).foldl (fun P a => tf a P) P) i)
  | [], P, m, _, h, i => (h i).mono (by omega)
  | s :: L, P, m, hL, h, i => by
    have b := hL s List.mem_cons_self
    have z := bt_fold (L := L) (P := tf (fac s) P) (m := A + m + 1) (fun x hx => hL x (List.mem_cons_of_mem _ hx)) (fun i => bt_tf (a := fac s) b.1 b.2 h i) i
    refine Bt.mono (show Bt _ (ic ((L.map fac).foldl (fun P a => tf a P) (tf (fac s) P)) i) from z) ?_
    rw [List.length_cons, Nat.succ_mul]
    omega
theorem bt_one (i : Nat) : Bt 1 (ic [1] i) := by
  cases i with
  | zero => show (1 : Int).natAbs < 2 ^ 1; decide
  | succ i =>
    rw [ic_ge (by simp)]
    exact Nat.two_pow_pos 1
theorem bt_prt {rs : List (Rat × Rat)} {A : Nat} {k : Nat} (h : ∀ s ∈ oth1 rs k, Rb A s) (i : Nat) : Bt (1 + (oth1 rs k).length * (A + 1)) (ic (prt rs k) i) := bt_fold h bt_one i
def sums (us : Nat → Int) (c : Nat → Int) : Nat → Int
  | 0 => 0
  | n + 1 => sums us c n + us n * c n
theorem sums_list (us c : Nat → Int) : ∀ n, ((List.range n).map fun j => us j * c j).sum = sums us c n
  | 0 => rfl
  | n + 1 => by
    rw [List.range_succ, List.map_append, List.sum_append, sums_list us c n]
    show _ + (us n * c n + 0) = _
    rw [Int.add_zero]
    rfl
theorem sums_div {D : Int} (hD : D ≠ 0) (us c : Nat → Int) : ∀ n, Rat.divInt (sums us c n) D = sm (fun k => Rat.divInt (us k) D * (c k : Rat)) n
  | 0 => by
    show Rat.divInt 0 D = 0
    rw [Rat.zero_divInt]
  | n + 1 => by
    show Rat.divInt (sums us c n + us n * c n) D = sm _ n + Rat.divInt (us n) D * (c n : Rat)
    rw [← sums_div hD us c n, ← div_int (c n), Rat.divInt_mul_divInt, Int.mul_one, Rat.divInt_add_divInt _ _ hD hD, ← Int.add_mul, Rat.divInt_mul_right hD]
theorem sums_bt {us c : Nat → Int} {m p : Nat} : ∀ n, (∀ i, i < n → Bt m (us i) ∧ Bt p (c i)) → Bt (m + p + n) (sums us c n)
  | 0, _ => Nat.two_pow_pos _
  | n + 1, h => by
    have a := sums_bt n fun i hi => h i (by omega)
    have b := (h n (by omega)).1.mul (h n (by omega)).2
    exact (Bt.add a (b.mono (by omega))).mono (by omega)
def sp_thru (K : PySem.W.Frag) : Sp := fun vs H Q _ => ∃ q a xs ds n A B M, vs = [.ref a] ∧ a ≠ q ∧ Sq K H a xs ∧ DqAll q K H xs ds ∧ (∀ d ∈ ds, PtOk n d) ∧ n ≤ 7000 ∧ ds.length ≤ 40 ∧ (ds.map fun d => (xy d).1).Nodup ∧
  (∀ d ∈ ds, Rb A (xy d).1) ∧ (∀ d ∈ ds, Rb B (xy d).2) ∧ 1 ≤ A ∧ A ≤ 800 ∧ 1 ≤ B ∧ 2 * B + 40 * (3 * A + 1) + 2 ≤ 4900 ∧ M ≤ 4900 ∧ Bt M (lcmL ((List.range ds.length).map (shr (ds.map xy))) : Int) ∧
  ∀ p H' ws r, Same H H' → H p = none → H' p = some (.tup ws) → TL H' ws r → Tr r → r.length ≤ ds.length → (∀ d ∈ ds, val r (xy d).1 = (xy d).2) → RbL (2 * B + ds.length * (3 * A + 1) + M + 1 + ds.length * (A + 1) + ds.length) r → Q (.ref p) H'
end Mf
namespace Mf
open PySem PySem.Spec PySem.Calls PyProof.Rows L2
theorem _root_.L2.Room.u65 {k : Nat} {A : Around} (r : Room k A) : A.units + 65 < cLine := by
  have := r.un
  omega
theorem eqv_rd2 (a b : Rat) : PyData.eqv (rd a) (rd b) = decide (a = b) := by
  have e : PyData.eqv (rd a) (rd b) = ((a.num == b.num) && (((a.den : Int) == (b.den : Int)) && true)) := rfl
  rw [e]
  by_cases z : a = b
  · subst z
    rw [beq_self_eq_true, beq_self_eq_true, decide_eq_true rfl] <;> rfl
  · rw [decide_eq_false z]
    by_cases h : a.num = b.num
    · have : ¬ ((a.den : Int) = (b.den : Int)) := fun h2 => z (Rat.ext h (by omega))
      rw [beq_eq_false_iff_ne.mpr this, Bool.false_and, Bool.and_false]
    · rw [beq_eq_false_iff_ne.mpr h, Bool.false_and]
theorem any_rd (r : Rat) : ∀ rs : List Rat, ((rs.map rd).any fun z => PyData.eqv z (rd r)) = decide (r ∈ rs)
  | [] => rfl
  | a :: rs => by
    rw [List.map_cons, List.any_cons, any_rd r rs, eqv_rd2]
    by_cases h : a = r
    · rw [decide_eq_true h, decide_eq_true (show r ∈ a :: rs by rw [h]; exact List.mem_cons_self), Bool.true_or]
    · rw [decide_eq_false h, Bool.false_or]
      by_cases m : r ∈ rs
      · rw [decide_eq_true m, decide_eq_true (List.mem_cons_of_mem _ m)]
      · rw [decide_eq_false m, decide_eq_false (fun z => by
          rcases List.mem_cons.mp z with e | e
          · exact h e.symm
          · exact m e)]
theorem shp_lrds (rs : List Rat) : SeqAt.shaped (.list (rs.map rd)) = true := by
  unfold SeqAt.shaped
  rw [Bool.and_eq_true]
  refine ⟨lay_rds rs, decide_eq_true ?_⟩
  have := dep_rds rs
  simp only [PyData.depth]
  omega
theorem g_notInR {K : PySem.W.Frag} {H : Hp} {Q : VK} {p f : Addr} {vs : List V} {rs : List Rat} {r : Rat} (hp : H p = some (.tup (rv r))) (hf : H f = some (.lst vs)) (t : TL H vs rs) (q : Q (.bl (!decide (r ∈ rs))) H) : rNotInD K (.ref p) (.ref f) H Q :=
  ⟨rd r, rs.map rd, .tup (tupU hp) (.cons (.int _) (.cons (.int _) .nil)), .lst (seqU hf) t.dp, by rfl, shp_lrds rs, by rw [any_rd]; exact q⟩
def sp_ats (K : PySem.W.Frag) : Sp := fun vs H Q _ => ∃ (q : Addr) (t m : Int), vs = [.ref q, .int m] ∧ Qy K q t H ∧ t ≤ 900000 ∧ 0 ≤ m ∧ m ≤ 7 ∧
  ∀ t' H' p vs' rs, SameX q H H' → Qy K q t' H' → t ≤ t' → t' ≤ t + 80 * m → H p = none → H' p = some (.lst vs') → TL H' vs' rs → RbL 6 rs → rs.Nodup → (rs.length : Int) ≤ m → Q (.ref p) H'
end Mf
namespace Mf
open PySem PySem.Spec PySem.Calls PyProof.Rows L2
/-- a fraction told in some way, its size -/
def Fzr (ex : Addr → Prop) (H : Hp) (v : V) (r : Rat) : Prop := ∃ x y, Fz ex H v x y ∧ 1 ≤ y ∧ Rat.divInt x y = r ∧ Bt 240 x ∧ Bt 240 y
theorem Fzr.go {ex ex' : Addr → Prop} {H H' : Hp} {v : V} {r : Rat} (h : Fzr ex H v r) (s : ∀ b o, ¬ ex b → H b = some o → H' b = some o ∧ ¬ ex' b) : Fzr ex' H' v r := by
  obtain ⟨x, y, h1, h2⟩ := h
  exact ⟨x, y, h1.go s, h2⟩
theorem Fzr.dq {ex : Addr → Prop} {H : Hp} {v : V} {r : Rat} {q : Addr} {K : PySem.W.Frag} (h : Fzr ex H v r) (hq : ex q) : ∃ d, Dq q K H v d ∧ (isFrD d = true ∧ Bt 240 (upD d) ∧ Bt 240 (dnD d)) ∧ valQ d = r := by
  obtain ⟨x, y, h1, hy, e, bx, by_⟩ := h
  obtain ⟨d, h1, h2, h3, h4⟩ := h1.dq (K := K) hq hy bx by_
  exact ⟨d, h1, ⟨h2, by rw [h3]; exact bx, by rw [h4]; exact by_⟩, by unfold valQ; rw [h3, h4]; exact e⟩
inductive PzAll (ex : Addr → Prop) (H : Hp) : List V → List (Rat × Rat) → Prop
  | nil : PzAll ex H [] []
  | cons {c : Addr} {u v : V} {r s : Rat} {vs : List V} {rs : List (Rat × Rat)} : ¬ ex c → (H c = some (.tup [u, v]) ∨ H c = some (.lst [u, v])) → Fzr ex H u r → Fzr ex H v s → PzAll ex H vs rs → PzAll ex H (.ref c :: vs) ((r, s) :: rs)
theorem PzAll.go {ex ex' : Addr → Prop} {H H' : Hp} (s : ∀ b o, ¬ ex b → H b = some o → H' b = some o ∧ ¬ ex' b) : ∀ {vs : List V} {rs : List (Rat × Rat)}, PzAll ex H vs rs → PzAll ex' H' vs rs
  | _, _, .nil => .nil
  | _, _, .cons n h f g t => .cons (h.elim (fun h => (s _ _ n h).2) (fun h => (s _ _ n h).2)) (h.elim (fun h => .inl (s _ _ n h).1) (fun h => .inr (s _ _ n h).1)) (f.go s) (g.go s) (PzAll.go s t)
theorem PzAll.snoc {ex : Addr → Prop} {H : Hp} {c : Addr} {u v : V} {r s : Rat} (n : ¬ ex c) (h : H c = some (.tup [u, v]) ∨ H c = some (.lst [u, v])) (f : Fzr ex H u r) (g : Fzr ex H v s) : ∀ {vs : List V} {rs : List (Rat × Rat)}, PzAll ex H vs rs → PzAll ex H (vs ++ [.ref c]) (rs ++ [(r, s)])
  | _, _, .nil => .cons n h f g .nil
  | _, _, .cons n' h' f' g' t => .cons n' h' f' g' (PzAll.snoc n h f g t)
theorem PzAll.dq {ex : Addr → Prop} {H : Hp} {q : Addr} {K : PySem.W.Frag} (hq : ex q) : ∀ {vs : List V} {rs : List (Rat × Rat)}, PzAll ex H vs rs → ∃ ds, DqAll q K H vs ds ∧ (∀ d ∈ ds, PtOk 240 d) ∧ ds.map xy = rs
  | _, _, .nil => ⟨[], .nil, fun d h => absurd h List.not_mem_nil, rfl⟩
  | _, _, .cons (c := c) n h f g t => by
    obtain ⟨ds, h1, h2, h3⟩ := PzAll.dq (K := K) hq t
    obtain ⟨a, a1, a2, a3⟩ := f.dq (K := K) hq
    obtain ⟨b, b1, b2, b3⟩ := g.dq (K := K) hq
    have nq : c ≠ q := fun z => n (by rw [z]; exact hq)
    rcases h with h | h
    · refine ⟨.tuple [a, b] :: ds, .cons (.tup nq (tupU h) (.cons a1 (.cons b1 .nil))) h1, fun d hd => ?_, by rw [List.map_cons, h3]; show (valQ a, valQ b) :: _ = _; rw [a3, b3]⟩
      rcases List.mem_cons.mp hd with rfl | hd
      · exact ⟨a, b, .inr rfl, a2, b2⟩
      · exact h2 d hd
    · refine ⟨.list [a, b] :: ds, .cons (.lst nq (seqU h) (.cons a1 (.cons b1 .nil))) h1, fun d hd => ?_, by rw [List.map_cons, h3]; show (valQ a, valQ b) :: _ = _; rw [a3, b3]⟩
      rcases List.mem_cons.mp hd with rfl | hd
      · exact ⟨a, b, .inl rfl, a2, b2⟩
      · exact h2 d hd
def sp_las2 (K : PySem.W.Frag) : Sp := fun vs H Q _ => ∃ (q p : Addr) (t : Int) (r : Rat), vs = [.ref q, .ref p] ∧ Qy K q t H ∧ t ≤ 999990 ∧ H p = some (.tup (rv r)) ∧ Rb 200 r ∧
  ∀ t' H' v x y, SameX q H H' → Qy K q t' H' → t ≤ t' → t' ≤ t + 2 → Fz (isL H) H' v x y → 1 ≤ y → Rat.divInt x y = r → Bt 240 x → Bt 240 y → Q v H'
def sp_lpts (K : PySem.W.Frag) : Sp := fun vs H Q _ => ∃ (q a b : Addr) (va vb : List V) (rs ss : List Rat) (t : Int), vs = [.ref q, .ref a, .ref b] ∧ Qy K q t H ∧ t ≤ 900000 ∧ a ≠ q ∧ b ≠ q ∧ H a = some (.lst va) ∧ H b = some (.lst vb) ∧ TL H va rs ∧ TL H vb ss ∧ rs.length = ss.length ∧ rs.length ≤ 40 ∧ RbL 200 rs ∧ RbL 200 ss ∧
  ∀ t' H' D xs ds, SameX q H H' → Qy K q t' H' → t ≤ t' → t' ≤ t + 5 * (rs.length : Int) → H D = none → D ≠ q → H' D = some (.lst xs) → DqAll q K H' xs ds → (∀ d ∈ ds, PtOk 240 d) → ds.map xy = rs.zip ss → Q (.ref D) H'
theorem g_forZ {K : PySem.W.Frag} {ta : TA} {g : TG} {tb : TS} {D : Ends} {σ : L2.St} {H : Hp} (q : ta σ H fun vs H1 => ∃ a b xs ys, vs = [.ref a, .ref b] ∧ SqL K H1 a xs ∧ SqL K H1 b ys ∧ ForGo (Itz K a b) g tb D σ H1) : tFor (iZip K ta) g tb D σ H := q
theorem g_forRA {K : PySem.W.Frag} {te : TE} {g : TG} {tb : TS} {D : Ends} {σ : L2.St} {H : Hp} (q : te σ H fun v H1 => ∃ (a : Addr) (xs : List V), v = .ref a ∧ ((SqL K H1 a xs ∧ ForGo (Itv K a xs.length) g tb D σ H1) ∨ (SqT K H1 a xs ∧ ForGo (RT.ItvT K a xs.length) g tb D σ H1))) : tFor (RT.iRevA K te) g tb D σ H := q
theorem g_lstRev {K : PySem.W.Frag} {te : TE} {σ : L2.St} {H : Hp} {Q : VK} (q : te σ H fun v H1 => ∃ (a : Addr) (xs : List V), v = .ref a ∧ SqL K H1 a xs ∧ ∀ q, H1 q = none → Q (.ref q) (upd H1 q (.lst xs.reverse))) : tLstRev K te σ H Q := q
theorem g_bm2 {K : PySem.W.Frag} {T : String} {r : V → List V → Hp → VK → Prop} {to : TE} {t : TA} {σ : L2.St} {H : Hp} {Q : VK} (q : to σ H fun x H1 => tyV K T x H1 ∧ t σ H1 fun xs H2 => r x xs H2 Q) : tBM K T r to t σ H Q := q
theorem g_forRK {K : PySem.W.Frag} {ta : TA} {g : TG} {tb : TS} {D : Ends} {σ : L2.St} {H : Hp} (q : ta σ H fun vs H1 => ∃ j : Int, vs = [.int j] ∧ -(2 ^ 62) ≤ j ∧ j < 2 ^ 62 ∧ ForGo (Itr 0 j.toNat) g tb D σ H1) : tFor (iRng1 ta) g tb D σ H := q
end Mf
namespace Mf
open PySem PySem.Spec PySem.Calls PyProof.Rows L2
def rp (z : Rat × Rat) : PyData := .tuple [rd z.1, rd z.2]
theorem PP.dp {H : Hp} {K : PySem.W.Frag} : ∀ {vs : List V} {rs : List (Rat × Rat)}, PP H vs rs → DpAll K H vs (rs.map rp)
  | _, _, .nil => .nil
  | _, _, .cons e e1 e2 t => .cons (.tup (tupU e) (.cons (.tup (tupU e1) (.cons (.int _) (.cons (.int _) .nil))) (.cons (.tup (tupU e2) (.cons (.int _) (.cons (.int _) .nil))) .nil))) (PP.dp t)
theorem lay_rps : ∀ rs : List (Rat × Rat), PyData.canLayAll0 (rs.map rp) = true
  | [] => rfl
  | r :: rs => by
    show ((rp r).canLay0 && PyData.canLayAll0 (rs.map rp)) = true
    rw [lay_rps rs] <;> rfl
theorem dep_rps : ∀ rs : List (Rat × Rat), PyData.depthAll (rs.map rp) ≤ 3
  | [] => Nat.zero_le _
  | r :: rs => by
    have h := dep_rps rs
    have h2 : (rp r).depth ≤ 3 := by simp [rp, rd, PyData.depth, PyData.depthAll]
    rw [List.map_cons]
    simp only [PyData.depthAll]
    omega
theorem shp_rps (rs : List (Rat × Rat)) : SeqAt.shaped (.list (rs.map rp)) = true := by
  unfold SeqAt.shaped
  rw [Bool.and_eq_true]
  refine ⟨lay_rps rs, decide_eq_true ?_⟩
  have := dep_rps rs
  simp only [PyData.depth]
  omega
/-- a list of pairs != [] -/
theorem g_neNilP {K : PySem.W.Frag} {H : Hp} {Q : VK} {a p : Addr} {vs : List V} {rs : List (Rat × Rat)} (h : H a = some (.lst vs)) (t : PP H vs rs) (h2 : H p = some (.lst [])) (k : Q (.bl (!rs.isEmpty)) H) : rNeU K (.ref a) (.ref p) H Q := by
  refine .inr ⟨.list (rs.map rp), .list [], .lst (seqU h) t.dp, .lst (seqU h2) .nil, shp_rps rs, by decide, ?_⟩
  cases rs with
  | nil => exact k
  | cons r rs => exact k
theorem PP.erase {H : Hp} : ∀ {vs : List V} {rs : List (Rat × Rat)} (k : Nat), PP H vs rs → PP H (vs.eraseIdx k) (rs.eraseIdx k)
  | _, _, _, .nil => .nil
  | _, _, 0, .cons _ _ _ t => t
  | _, _, k + 1, .cons e e1 e2 t => .cons e e1 e2 (PP.erase k t)
theorem perm_erase {α : Type} : ∀ {l : List α} {k : Nat} {x : α}, l[k]? = some x → (x :: l.eraseIdx k).Perm l
  | [], _, _, h => by cases h
  | a :: l, 0, x, h => by
    cases h
    exact .refl _
  | a :: l, k + 1, x, h => by
    have h : l[k]? = some x := h
    show (x :: a :: l.eraseIdx k).Perm (a :: l)
    exact (List.Perm.swap a x _).trans ((perm_erase h).cons a)
def sp_stir (K : PySem.W.Frag) : Sp := fun vs H Q _ => ∃ (q a : Addr) (xs : List V) (rs : List (Rat × Rat)) (t : Int), vs = [.ref q, .ref a] ∧ Qy K q t H ∧ t ≤ 900000 ∧ H a = some (.lst xs) ∧ PP H xs rs ∧ rs.length ≤ 40 ∧
  ∀ t' H' D ys ss, SameX q H H' → Qy K q t' H' → t ≤ t' → t' ≤ t + (rs.length : Int) → H D = none → D ≠ q → H' D = some (.lst ys) → PP H' ys ss → ss.Perm rs → Q (.ref D) H'
end Mf
namespace Mf
open PySem PySem.Spec PySem.Calls PyProof.Rows L2
/-- list(zip(xs, ys)), two lists of one length: new pairs in a new list -/
def tLstZip (K : PySem.W.Frag) (ta : TA) : TE := fun σ H Q => ta σ H fun vs H1 => ∃ a b xs ys, vs = [.ref a, .ref b] ∧ SqL K H1 a xs ∧ SqL K H1 b ys ∧ xs.length = ys.length ∧
  ∀ (H' : Hp) (p : Addr) (cs : List Addr), Same H1 H' → H1 p = none → H' p = some (.lst (cs.map V.ref)) → cs.length = xs.length → (∀ (i : Nat) (c : Addr), cs[i]? = some c → ∃ x y, xs[i]? = some x ∧ ys[i]? = some y ∧ H' c = some (.tup [x, y])) → Q (.ref p) H'
theorem g_lstZip {K : PySem.W.Frag} {ta : TA} {σ : L2.St} {H : Hp} {Q : VK} (q : ta σ H fun vs H1 => ∃ a b xs ys, vs = [.ref a, .ref b] ∧ SqL K H1 a xs ∧ SqL K H1 b ys ∧ xs.length = ys.length ∧
  ∀ (H' : Hp) (p : Addr) (cs : List Addr), Same H1 H' → H1 p = none → H' p = some (.lst (cs.map V.ref)) → cs.length = xs.length → (∀ (i : Nat) (c : Addr), cs[i]? = some c → ∃ x y, xs[i]? = some x ∧ ys[i]? = some y ∧ H' c = some (.tup [x, y])) → Q (.ref p) H') : tLstZip K ta σ H Q := q
/-- pairs from two lists -/
theorem PP.of_zip {H : Hp} : ∀ {xs ys : List V} {cs : List Addr} {rs ss : List Rat}, TL H xs rs → TL H ys ss → cs.length = xs.length → xs.length = ys.length → (∀ (i : Nat) (c : Addr), cs[i]? = some c → ∃ x y, xs[i]? = some x ∧ ys[i]? = some y ∧ H c = some (.tup [x, y])) → PP H (cs.map V.ref) (rs.zip ss)
  | [], [], [], _, _, .nil, .nil, _, _, _ => .nil
  | _ :: _, _ :: _, c :: cs, _, _, .cons e t, .cons f u, h1, h2, h => by
    obtain ⟨x, y, hx, hy, hc⟩ := h 0 c rfl
    cases hx
    cases hy
    exact .cons hc e f (PP.of_zip t u (Nat.succ.inj h1) (Nat.succ.inj h2) fun i d hd => h (i + 1) d hd)
/-- the same points give the same polynomial -/
theorem thru_uniq {r f : List Rat} {ps : List (Rat × Rat)} (nd : (ps.map (·.1)).Nodup) (hr : Tr r) (hf : Tr f) (lr : r.length ≤ ps.length) (lf : f.length ≤ ps.length) (h1 : ∀ z ∈ ps, val r z.1 = z.2) (h2 : ∀ z ∈ ps, val f z.1 = z.2) : r = f := by
  refine val_uniq hr hf nd (by rw [List.length_map]; exact lr) (by rw [List.length_map]; exact lf) fun x hx => ?_
  obtain ⟨z, hz, rfl⟩ := List.mem_map.mp hx
  rw [h1 z hz, h2 z hz]
theorem val_padd (a b : List Rat) (x : Rat) : val (padd a b) x = val a x + val b x := by
  rw [← val_ge (l := padd a b) (n := max a.length b.length) (by rw [len_padd]; exact Nat.le_refl _), ← val_ge (l := a) (n := max a.length b.length) (by omega), ← val_ge (l := b) (n := max a.length b.length) (by omega), evs_congr (d := fun i => co a i + co b i) (fun i => co_padd a b i), evs_add]
/-- a value's size -/
theorem rb_val {A B : Nat} {f : List Rat} {x : Rat} (hf : RbL B f) (hB : 1 ≤ B) (hx : Rb A x) (i : Nat) : Rb (1 + i * (A + B + 1)) (evs (co f) x i) := by
  have b := Rb.hor (fun j => hf.co hB j) hx i 0
  rw [hor_snoc, evs_congr (d := co f) (fun j => by rw [Nat.zero_add])] at b
  exact b
end Mf
namespace Mf
open PySem PySem.Spec PySem.Calls PyProof.Rows L2
/-! ### list(zip(xs, ys)) -/
/-- pairs that stand, told by ascending addresses from base on -/
def ZAcc (h : Heap) (base : Nat) (xs ys : Array Value) (acc : Array Value) (i : Nat) : Prop :=
  acc.size = i ∧ ∃ cs : List Addr, acc.toList = cs.map Value.ref ∧ cs.Pairwise (· < ·) ∧ ∀ (j : Nat) (c : Addr), cs[j]? = some c → base ≤ c ∧ c < h.objs.size ∧ ∃ x y, xs[j]? = some x ∧ ys[j]? = some y ∧ IsPair h c x y
theorem ZAcc.nil {h : Heap} {base : Nat} {xs ys : Array Value} : ZAcc h base xs ys #[] 0 := ⟨rfl, [], rfl, .nil, fun j c e => by simp at e⟩
theorem ZAcc.go {h h' : Heap} {base : Nat} {xs ys acc : Array Value} {i : Nat} (z : ZAcc h base xs ys acc i) (hs : h.objs.size ≤ h'.objs.size) (k : ∀ b o, base ≤ b → h.get? b = some o → h'.get? b = some o) : ZAcc h' base xs ys acc i := by
  obtain ⟨h1, cs, h2, h3, h4⟩ := z
  refine ⟨h1, cs, h2, h3, fun j c e => ?_⟩
  obtain ⟨a1, a2, x, y, a3, a4, a5⟩ := h4 j c e
  exact ⟨a1, Nat.lt_of_lt_of_le a2 hs, x, y, a3, a4, k _ _ a1 a5⟩
theorem ZAcc.push {h h' : Heap} {base : Nat} {xs ys acc : Array Value} {i : Nat} {c : Addr} {x y : Value} (z : ZAcc h base xs ys acc i) (hc : h.objs.size = c) (hb : base ≤ c) (hs : h'.objs.size = h.objs.size + 1) (k : ∀ b o, base ≤ b → h.get? b = some o → h'.get? b = some o)
    (hx : xs[i]? = some x) (hy : ys[i]? = some y) (hp : IsPair h' c x y) : ZAcc h' base xs ys (acc.push (.ref c)) (i + 1) := by
  obtain ⟨h1, cs, h2, h3, h4⟩ := z
  have lcs : cs.length = i := by
    have := congrArg List.length h2
    rw [List.length_map, Array.length_toList] at this
    omega
  refine ⟨by rw [Array.size_push, h1], cs ++ [c], by rw [Array.toList_push, h2, List.map_append]; rfl, ?_, fun j d e => ?_⟩
  · rw [List.pairwise_append]
    refine ⟨h3, List.pairwise_singleton _ _, fun a ha b hb => ?_⟩
    rw [List.mem_singleton.mp hb]
    obtain ⟨j, hj⟩ := List.mem_iff_getElem?.mp ha
    have := (h4 j a hj).2.1
    rw [hc] at this
    exact this
  · by_cases hj : j < cs.length
    · rw [List.getElem?_append_left hj] at e
      obtain ⟨a1, a2, u, v, a3, a4, a5⟩ := h4 j d e
      exact ⟨a1, by rw [hs]; exact Nat.lt_succ_of_lt a2, u, v, a3, a4, k _ _ a1 a5⟩
    · have hj2 := (List.getElem?_eq_some_iff.mp e).1
      rw [List.length_append, List.length_singleton] at hj2
      have ej : j = cs.length := by omega
      subst ej
      rw [List.getElem?_append_right (Nat.le_refl _), Nat.sub_self] at e
      obtain rfl : c = d := Option.some.inj e
      exact ⟨hb, by rw [hs, hc]; exact Nat.lt_succ_self _, x, y, by rw [lcs]; exact hx, by rw [lcs]; exact hy, hp⟩
/-- a zip in the midst of its turns -/
def ZSt (base : Nat) (z TI TO i1 i2 l1 l2 : Addr) (xs ys : Array Value) (i : Nat) (h : Heap) : Prop :=
  IsPair h TI (.ref i1) (.ref i2) ∧ h.IsListIter i1 l1 i ∧ h.IsListIter i2 l2 i ∧ h.IsList l1 xs ∧ h.IsList l2 ys ∧
    ((IsZip h z TI TO .none ∧ ∃ a b, IsPair h TO a b) ∨ ∃ T f oT, IsZipHeld h z TI TO T f ∧ h.get? T = some oT ∧ base ≤ T)
theorem ZSt.go {base : Nat} {z TI TO i1 i2 l1 l2 S : Addr} {xs ys : Array Value} {i : Nat} {h h' : Heap} (st : ZSt base z TI TO i1 i2 l1 l2 xs ys i h) (hS : S < base) (nS : S ∉ [z, TI, TO, i1, i2, l1, l2]) (k : ∀ b o, b ≠ S → h.get? b = some o → h'.get? b = some o) : ZSt base z TI TO i1 i2 l1 l2 xs ys i h' := by
  simp only [List.mem_cons, List.not_mem_nil, or_false, not_or] at nS
  obtain ⟨n1, n2, n3, n4, n5, n6, n7⟩ := nS
  obtain ⟨hTI, h1, h2, hl1, hl2, hz⟩ := st
  refine ⟨k _ _ (Ne.symm n2) hTI, h1.at fun o e => k _ o (Ne.symm n4) e, h2.at fun o e => k _ o (Ne.symm n5) e, hl1.at fun o e => k _ o (Ne.symm n6) e, hl2.at fun o e => k _ o (Ne.symm n7) e, ?_⟩
  rcases hz with ⟨hz, a, b, hTO⟩ | ⟨T, f, oT, hz, hT, hb⟩
  · exact .inl ⟨k _ _ (Ne.symm n1) hz, a, b, k _ _ (Ne.symm n3) hTO⟩
  · exact .inr ⟨T, f, oT, k _ _ (Ne.symm n1) hz, k _ _ (fun e => by rw [e] at hb; exact Nat.lt_irrefl _ (Nat.lt_of_lt_of_le hS hb)) hT, hb⟩
section
variable {prog : Program} {w : World} {A : Around} {E : Value → Shared → Prop} {s : Shared} {base : Nat} {z TI TO i1 i2 l1 l2 : Addr} {xs ys : Array Value}
theorem zst_item {i : Nat} {Q : Option Value → Shared → Prop} (D : ZipApart z TI TO i1 i2 l1 l2) (hb : base ≤ s.heap.objs.size) (hz : ∀ b ∈ [z, TO, i1, i2], b < base) (st : ZSt base z TI TO i1 i2 l1 l2 xs ys i s.heap) (hx : i < xs.size) (hy : i < ys.size)
    (hQ : ∀ h', ZSt base z TI TO i1 i2 l1 l2 xs ys (i + 1) h' → IsPair h' s.heap.objs.size xs[i] ys[i] → h'.objs.size = s.heap.objs.size + 1 → (∀ b o, b ∉ [z, TO, i1, i2] → s.heap.get? b = some o → h'.get? b = some o) → Q (some (.ref s.heap.objs.size)) { s with heap := h' }) :
    wpAny (model prog w) A (pyNext (.ref z)) Q E s := by
  obtain ⟨hTI, h1, h2, hl1, hl2, hz'⟩ := st
  have nb : ∀ {T : Addr}, base ≤ T → ∀ b ∈ [z, TO, i1, i2], T ≠ b := fun hT b hm e => by
    have := hz b hm
    rw [← e] at this
    exact Nat.lt_irrefl _ (Nat.lt_of_lt_of_le this hT)
  rcases hz' with ⟨hz', a, b, hTO⟩ | ⟨T, f, oT, hz', hT, hbT⟩
  · refine wpAny_pyNext_zip_item D hz' hTI hTO h1 h2 hl1 hl2 (Array.getElem?_eq_getElem hx) (Array.getElem?_eq_getElem hy) fun h' a1 a2 a3 a4 a5 a6 hk => ?_
    exact hQ h' ⟨hk _ _ D.TIz D.TITO D.TIi1 D.TIi2 hTI, a3, a4, hl1.at fun o e => hk _ o D.l1z D.l1TO D.l1i1 D.l1i2 e, hl2.at fun o e => hk _ o D.l2z D.l2TO D.l2i1 D.l2i2 e, .inr ⟨s.heap.objs.size, false, _, a1, a5, hb⟩⟩ a5 a6
      fun c o hc e => hk c o (fun x => hc (by simp [x])) (fun x => hc (by simp [x])) (fun x => hc (by simp [x])) (fun x => hc (by simp [x])) e
  · refine wpAny_pyNext_zip_item_held D hz' hT hTI h1 h2 hl1 hl2 (Array.getElem?_eq_getElem hx) (Array.getElem?_eq_getElem hy) fun h' a1 a3 a4 a5 a6 hk => ?_
    exact hQ h' ⟨hk _ _ D.TIz D.TIi1 D.TIi2 hTI, a3, a4, hl1.at fun o e => hk _ o D.l1z D.l1i1 D.l1i2 e, hl2.at fun o e => hk _ o D.l2z D.l2i1 D.l2i2 e, .inr ⟨T, true, oT, a1, hk _ _ (nb hbT _ (by simp)) (nb hbT _ (by simp)) (nb hbT _ (by simp)) hT, hbT⟩⟩ a5 a6
      fun c o hc e => hk c o (fun x => hc (by simp [x])) (fun x => hc (by simp [x])) (fun x => hc (by simp [x])) e
theorem zst_done {i : Nat} {Q : Option Value → Shared → Prop} (hh : A.handled = none) (D : ZipApart z TI TO i1 i2 l1 l2) (st : ZSt base z TI TO i1 i2 l1 l2 xs ys i s.heap) (he : xs.size ≤ i ∨ ys.size ≤ i)
    (hQ : ∀ h', (∀ b o, b ∉ [z, TO, i1, i2] → s.heap.get? b = some o → h'.get? b = some o) → Q none { s with heap := h' }) : wpAny (model prog w) A (pyNext (.ref z)) Q E s := by
  obtain ⟨hTI, h1, h2, hl1, hl2, hz'⟩ := st
  have hend : xs[i]? = none ∨ ys[i]? = none := he.elim (fun h => .inl (Array.getElem?_eq_none h)) fun h => .inr (Array.getElem?_eq_none h)
  rcases hz' with ⟨hz', a, b, hTO⟩ | ⟨T, f, oT, hz', hT, hbT⟩
  · exact wpAny_pyNext_zip_end hh D hz' hTI hTO h1 h2 hl1 hl2 hend fun h' hk => hQ h' fun c o hc e => hk c o (fun x => hc (by simp [x])) (fun x => hc (by simp [x])) (fun x => hc (by simp [x])) (fun x => hc (by simp [x])) e
  · exact wpAny_pyNext_zip_end_held hh D hz' hT hTI h1 h2 hl1 hl2 hend fun h' hk => hQ h' fun c o hc e => hk c o (fun x => hc (by simp [x])) (fun x => hc (by simp [x])) (fun x => hc (by simp [x])) e
/-- what zip gives, put into a list -/
theorem extend_zip_loop {R : Result → Shared → Prop} {S : Addr} {res : Value} (hh : A.in1.handled = none) (D : ZipApart z TI TO i1 i2 l1 l2) (hz : ∀ b ∈ [z, TO, i1, i2], b < base) (hS : S < base) (nS : S ∉ [z, TI, TO, i1, i2, l1, l2]) (hn : xs.size = ys.size) (hn2 : xs.size ≤ sizeLine) :
    ∀ (k i : Nat) (s : Shared) (acc : Array Value) (c : Nat), xs.size - i = k → i ≤ xs.size → base ≤ s.heap.objs.size → ZSt base z TI TO i1 i2 l1 l2 xs ys i s.heap → s.heap.get? S = some { cls := .type "list", dict := none, data := .seq acc c, slots := #[] } → ZAcc s.heap base xs ys acc i →
    (∀ (h' : Heap) (tk : Nat) (acc' : Array Value) (c' : Nat), (∀ b o, b ∉ [S, z, TO, i1, i2] → s.heap.get? b = some o → h'.get? b = some o) → h'.get? S = some { cls := .type "list", dict := none, data := .seq acc' c', slots := #[] } → ZAcc h' base xs ys acc' xs.size → R (.ok (.ret res)) { s with heap := h', toks := tk }) →
    codeAny (model prog w) A (.builtin "list.extend.loop" ⟨[.ref S, .ref z, res], []⟩) R s := by
  have sub : ∀ {b : Addr}, b ∉ [S, z, TO, i1, i2] → b ∉ [z, TO, i1, i2] := fun h h' => h (List.mem_cons_of_mem _ h')
  have Sz : S ∉ [z, TO, i1, i2] := fun h => nS (by simp only [List.mem_cons, List.not_mem_nil, or_false] at h ⊢; rcases h with h | h | h | h <;> simp [h])
  have bz : ∀ {b : Addr}, base ≤ b → b ∉ [z, TO, i1, i2] := fun hb h => Nat.lt_irrefl _ (Nat.lt_of_lt_of_le (hz _ h) hb)
  intro k
  induction k with
  | zero =>
    intro i s acc c hk hi hb hst hSo hacc hR
    have hin : i = xs.size := by omega
    subst hin
    refine codeAny_builtin F.entry_extend_loop ?_
    rw [Around.under_plainId F.plain_extend_loop _]
    show wpAny _ A.in1 (pyNext (.ref z) >>= _) _ _ s
    refine wpAny_bind (zst_done hh D hst (.inl (Nat.le_refl _)) fun h' hk => ?_)
    have a1 : ZAcc h' base xs ys acc xs.size := by
      obtain ⟨z1, cs, z2, z3, z4⟩ := hacc
      refine ⟨z1, cs, z2, z3, fun j d e => ?_⟩
      obtain ⟨b1, b2, x, y, b3, b4, b5⟩ := z4 j d e
      have b6 := hk _ _ (bz b1) b5
      exact ⟨b1, Heap.lt_size b6, x, y, b3, b4, b6⟩
    exact wpAny_pure (hR h' s.toks acc c (fun b o hb e => hk b o (sub hb) e) (hk S _ Sz hSo) a1)
  | succ k ih =>
    intro i s acc c hk hi hb hst hSo hacc hR
    have hlt : i < xs.size := by omega
    refine codeAny_builtin F.entry_extend_loop ?_
    rw [Around.under_plainId F.plain_extend_loop _]
    show wpAny _ A.in1 (pyNext (.ref z) >>= _) _ _ s
    refine wpAny_bind (zst_item D hb hz hst hlt (by omega) fun h' st' hp hsz hk' => ?_)
    have hS' := hk' S _ Sz hSo
    have a1 : ZAcc h' base xs ys (acc.push (.ref s.heap.objs.size)) (i + 1) := hacc.push rfl hb hsz (fun b o hb e => hk' b o (bz hb) e) (Array.getElem?_eq_getElem hlt) (Array.getElem?_eq_getElem (by omega)) hp
    show wpAny _ A.in1 (updateSeq S (·.push (.ref s.heap.objs.size)) >>= _) _ _ _
    refine wpAny_bind ?_
    have hS2 := Heap.get?_update_self (Obj.mapSeq (·.push (Value.ref s.heap.objs.size))) hS' rfl
    have oth : ∀ b o, b ≠ S → h'.get? b = some o → (h'.update S (Obj.mapSeq (·.push (Value.ref s.heap.objs.size)))).get? b = some o := fun b o hb e => (Heap.get?_update_other _ _ (Ne.symm hb)).trans e
    have bS : ∀ {b : Addr}, base ≤ b → b ≠ S := fun hb e => by rw [e] at hb; exact Nat.lt_irrefl _ (Nat.lt_of_lt_of_le hS hb)
    refine wpAny_updateSeq hS' rfl (wpAny_pure ⟨plainId_quiet F.plain_extend_loop _, ih (i + 1) _ (acc.push (.ref s.heap.objs.size)) _ (by omega) hlt ?_ (st'.go hS nS oth) hS2 (a1.go (by rw [Heap.size_update]; exact Nat.le_refl _) fun b o hb e => oth b o (bS hb) e) fun h'' tk acc' c' hk'' hS'' hacc' => ?_⟩)
      (by rw [hacc.1]; omega) (by show (acc.push (.ref s.heap.objs.size)).size ≤ sizeLine + 1; rw [Array.size_push, hacc.1]; omega)
    · show base ≤ (h'.update S _).objs.size
      rw [Heap.size_update, hsz]
      exact Nat.le_succ_of_le hb
    · exact hR h'' tk acc' c' (fun b o hb e => hk'' b o hb (oth b o (fun e => hb (by rw [e]; exact List.mem_cons_self)) (hk' b o (sub hb) e))) hS'' hacc'
theorem nolen_zip : typeLookup (.type "zip") "__len__" = pure none := by rw [typeLookup_type, builtinLookup_eq_fast]; kernel_rfl
theorem nohint_zip : typeLookup (.type "zip") "__length_hint__" = pure none := by rw [typeLookup_type, builtinLookup_eq_fast]; kernel_rfl
theorem extend_zip {R : Result → Shared → Prop} {S : Addr} {res : Value} {c₀ : Nat} (hh : A.in1.handled = none) (D : ZipApart z TI TO i1 i2 l1 l2) (hz : ∀ b ∈ [z, TO, i1, i2], b < base) (hS : S < base) (nS : S ∉ [z, TI, TO, i1, i2, l1, l2]) (hn : xs.size = ys.size) (hn2 : xs.size ≤ sizeLine)
    (hb : base ≤ s.heap.objs.size) (hzip : IsZip s.heap z TI TO .none) (st : ZSt base z TI TO i1 i2 l1 l2 xs ys 0 s.heap) (hSo : s.heap.get? S = some { cls := .type "list", data := .seq #[] c₀ })
    (hR : ∀ (h' : Heap) (tk : Nat) (acc' : Array Value) (c' : Nat), (∀ b o, b ∉ [S, z, TO, i1, i2] → s.heap.get? b = some o → h'.get? b = some o) → h'.get? S = some { cls := .type "list", dict := none, data := .seq acc' c', slots := #[] } → ZAcc h' base xs ys acc' xs.size → R (.ok (.ret res)) { s with heap := h', toks := tk }) :
    wpAny (model prog w) A.in1 (Builtin.List.listExtendWith (.ref S) (.ref z) res)
      (fun fin s' => match fin with | .done f => R (.ok f) s' | .again c' => c'.quiet = true ∧ codeAny (model prog w) A c' R s') (fun e s' => R (.error e) s') s := by
  have hT : s.TypeIs (.ref z) "zip" := ⟨_, hzip, rfl⟩
  have hSz : S ≠ z := fun e => nS (by rw [e]; exact List.mem_cons_self)
  have h1 : Builtin.List.listSameRef (.ref S) (.ref z) = false := by simp [Builtin.List.listSameRef, hSz]
  unfold Builtin.List.listExtendWith
  refine wpAny_bind (wpAny_typeOf hT ?_)
  rw [if_neg (by rw [h1]; decide)]
  refine wpAny_bind (wpAny_pyIter_zip hzip ?_)
  refine wpAny_bind (wpAny_holding ?_)
  unfold Builtin.List.listLengthHint
  refine wpAny_bind (wpAny_specialOf hT nolen_zip ?_)
  show wpAny _ A.in1 (specialOf (Value.ref z) (Str.ofString "__length_hint__") >>= _) _ _ _
  refine wpAny_bind (wpAny_specialOf hT nohint_zip ?_)
  refine wpAny_pure ?_
  show wpAny _ A.in1 (rule "list.extend.makes-room" >>= fun _ => Builtin.List.listTouch (.ref S) >>= fun _ =>
    again (.builtin "list.extend.loop" ⟨[.ref S, .ref z, res], []⟩)) _ _ _
  refine wpAny_bind (wpAny_rule ?_)
  refine wpAny_bind ?_
  show wpAny _ A.in1 (updateSeq S (·.push .none) >>= fun _ => updateSeq S (·.pop)) _ _ _
  refine wpAny_bind (wpAny_updateSeq hSo rfl ?_)
  have hS₂ := Heap.get?_update_self (Obj.mapSeq (·.push Value.none)) hSo rfl
  refine wpAny_updateSeq hS₂ rfl ?_
  have hS₃ := Heap.get?_update_self (Obj.mapSeq (·.pop)) hS₂ rfl
  have oth : ∀ b o, b ≠ S → s.heap.get? b = some o → ((s.heap.update S (Obj.mapSeq (·.push Value.none))).update S (Obj.mapSeq (·.pop))).get? b = some o :=
    fun b o hb e => (Heap.get?_update_other _ _ (Ne.symm hb)).trans ((Heap.get?_update_other _ _ (Ne.symm hb)).trans e)
  refine wpAny_pure ⟨plainId_quiet F.plain_extend_loop _, extend_zip_loop hh D hz hS nS hn hn2 xs.size 0 _ #[] _ rfl (Nat.zero_le _) ?_ (st.go hS nS oth) hS₃ ZAcc.nil fun h' tk acc' c' hk hS' hacc => ?_⟩
  · show base ≤ ((s.heap.update S _).update S _).objs.size
    rw [Heap.size_update, Heap.size_update]
    exact hb
  · exact hR h' tk acc' c' (fun b o hb e => hk b o hb (oth b o (fun e => hb (by rw [e]; exact List.mem_cons_self)) e)) hS' hacc
theorem call_list_zip {Q : Value → Shared → Prop} (hh : A.handled = none) (D : ZipApart z TI TO i1 i2 l1 l2) (hn : xs.size = ys.size) (hn2 : xs.size ≤ sizeLine) (hzip : IsZip s.heap z TI TO .none) (hTI : IsPair s.heap TI (.ref i1) (.ref i2)) {a b : Value} (hTO : IsPair s.heap TO a b)
    (h1 : s.heap.IsListIter i1 l1 0) (h2 : s.heap.IsListIter i2 l2 0) (hl1 : s.heap.IsList l1 xs) (hl2 : s.heap.IsList l2 ys)
    (hQ : ∀ (h' : Heap) (tk : Nat) (acc : Array Value) (c : Nat), (∀ b o, b ∉ [z, TO, i1, i2] → s.heap.get? b = some o → h'.get? b = some o) → h'.get? s.heap.objs.size = some { cls := .type "list", dict := none, data := .seq acc c, slots := #[] } →
      ZAcc h' (s.heap.objs.size + 1) xs ys acc xs.size → Q (.ref s.heap.objs.size) { s with heap := h', toks := tk }) :
    wpAny (model prog w) A (call (.type "list") [.ref z]) Q E s := by
  have lz := Heap.lt_size hzip
  have lTI := Heap.lt_size hTI
  have lTO := Heap.lt_size hTO
  have li1 : i1 < s.heap.objs.size := let ⟨_, e, _⟩ := h1; Heap.lt_size e
  have li2 : i2 < s.heap.objs.size := let ⟨_, e, _⟩ := h2; Heap.lt_size e
  have ll1 : l1 < s.heap.objs.size := let ⟨_, e, _⟩ := hl1; Heap.lt_size e
  have ll2 : l2 < s.heap.objs.size := let ⟨_, e, _⟩ := hl2; Heap.lt_size e
  have nS : s.heap.objs.size ∉ [z, TI, TO, i1, i2, l1, l2] := fun h => by
    simp only [List.mem_cons, List.not_mem_nil, or_false] at h
    rcases h with h | h | h | h | h | h | h
    · exact Nat.ne_of_gt lz h
    · exact Nat.ne_of_gt lTI h
    · exact Nat.ne_of_gt lTO h
    · exact Nat.ne_of_gt li1 h
    · exact Nat.ne_of_gt li2 h
    · exact Nat.ne_of_gt ll1 h
    · exact Nat.ne_of_gt ll2 h
  have hzb : ∀ b ∈ [z, TO, i1, i2], b < s.heap.objs.size + 1 := fun b h => by
    simp only [List.mem_cons, List.not_mem_nil, or_false] at h
    rcases h with h | h | h | h
    · rw [h]; exact Nat.lt_succ_of_lt lz
    · rw [h]; exact Nat.lt_succ_of_lt lTO
    · rw [h]; exact Nat.lt_succ_of_lt li1
    · rw [h]; exact Nat.lt_succ_of_lt li2
  refine callType_codes (Q₁ := fun obj s₁ => obj = .ref s.heap.objs.size ∧ s₁ = { s with heap := s.heap.push { cls := .type "list", data := .seq #[] } }) F.called_list (F.typeCall_list_1 _) F.entry_list_init
    (code_list_new _ ⟨rfl, rfl⟩) fun obj s₁ h₁ => ?_
  obtain ⟨rfl, rfl⟩ := h₁
  have hS : (s.heap.push { cls := .type "list", data := .seq #[] }).get? s.heap.objs.size = some { cls := .type "list", data := .seq #[] } := Heap.get?_push_size _ rfl
  refine ⟨⟨_, hS, rfl⟩, F.args_list_init_2 _ _, ?_⟩
  show wpAny _ _ (do let old ← Builtin.List.listItems (.ref s.heap.objs.size); Builtin.List.listUpdate (.ref s.heap.objs.size) (fun _ => #[]); letGo old.toList.reverse; Builtin.List.listExtendWith (.ref s.heap.objs.size) (.ref z) .none) _ _ _
  refine wpAny_bind ?_
  unfold Builtin.List.listItems
  refine wpAny_bind (wpAny_seqItems hS rfl (wpAny_pure ?_))
  show wpAny _ _ (updateSeq s.heap.objs.size (fun _ => #[]) >>= fun _ => letGo (#[] : Array Value).toList.reverse >>= fun _ => Builtin.List.listExtendWith (.ref s.heap.objs.size) (.ref z) .none) _ _ _
  refine wpAny_bind (wpAny_updateSeq hS rfl ?_)
  have hS₂ := Heap.get?_update_self (Obj.mapSeq (fun _ => (#[] : Array Value))) hS rfl
  have oth : ∀ b o, s.heap.get? b = some o → ((s.heap.push { cls := .type "list", data := .seq #[] }).update s.heap.objs.size (Obj.mapSeq (fun _ => (#[] : Array Value)))).get? b = some o :=
    fun b o e => (Heap.get?_update_other _ _ (Nat.ne_of_gt (Heap.lt_size e))).trans (Heap.get?_push_of_some _ e)
  refine wpAny_bind (wpAny_letGo ?_)
  refine extend_zip (A := A.in1) (base := s.heap.objs.size + 1) hh D hzb (Nat.lt_succ_self _) nS hn hn2 ?_ (oth _ _ hzip) ⟨oth _ _ hTI, h1.at fun o e => oth _ o e, h2.at fun o e => oth _ o e, hl1.at fun o e => oth _ o e, hl2.at fun o e => oth _ o e, .inl ⟨oth _ _ hzip, a, b, oth _ _ hTO⟩⟩ hS₂ fun h' tk acc c hk hS' hacc => ?_
  · show _ ≤ ((s.heap.push _).update _ _).objs.size
    rw [Heap.size_update, Heap.size_push]
    exact Nat.le_refl _
  · refine ⟨rfl, hQ h' tk acc c (fun b o hb e => hk b o (fun hm => ?_) (oth b o e)) hS' hacc⟩
    rcases List.mem_cons.mp hm with hm | hm
    · exact Nat.ne_of_lt (Heap.lt_size e) hm
    · exact hb hm
end
theorem fp_upd {X : Cx} {pins : List (Addr × Obj)} {H : Hp} {b a : Addr} {o : HO} (h : FpOk X pins H b) (n : b ≠ a) : FpOk X pins (upd H a o) b := ⟨by rw [upd_ne n]; exact h.1, h.2⟩
theorem fp_new {X : Cx} {pins : List (Addr × Obj)} {H : Hp} {b : Addr} (h : FpOk X pins H b) : ∀ o, X.s_0.heap.get? b = some o → b ∈ X.ex := fun o e => h.2.2.2.1.elim id fun z => absurd (Heap.lt_size e) (Nat.not_lt.mpr z)
/-- new pairs, tracked one by one -/
theorem track_pairs {X : Cx} {pins : List (Addr × Obj)} {σ : L2.St} {s : Shared} : ∀ (cs : List Addr) (xs ys : List V) (H : Hp), cs.length = xs.length → xs.length = ys.length → Inv X pins σ H s → (∀ c ∈ cs, FpOk X pins H c) → cs.Nodup →
    (∀ (j : Nat) (c : Addr), cs[j]? = some c → ∃ x y u v, xs[j]? = some x ∧ ys[j]? = some y ∧ RelV x u ∧ RelV y v ∧ IsPair s.heap c u v) →
    ∃ H', Inv X pins σ H' s ∧ Same H H' ∧ (∀ b, b ∉ cs → H' b = H b) ∧ ∀ (j : Nat) (c : Addr), cs[j]? = some c → ∃ x y, xs[j]? = some x ∧ ys[j]? = some y ∧ H' c = some (.tup [x, y])
  | [], _, _, H, _, _, I, _, _, _ => ⟨H, I, Same.refl H, fun _ _ => rfl, fun j c e => by simp at e⟩
  | c :: cs, [], _, _, h, _, _, _, _, _ => by cases h
  | c :: cs, x :: xs, [], _, _, h, _, _, _, _ => by cases h
  | c :: cs, x :: xs, y :: ys, H, l1, l2, I, hf, nd, hp => by
    obtain ⟨x', y', u, v, hx, hy, ru, rv, hc⟩ := hp 0 c rfl
    cases hx
    cases hy
    have fc := hf c List.mem_cons_self
    obtain ⟨nc, nd'⟩ := List.nodup_cons.mp nd
    have ok : ObjOk X.prog X.w (upd H c (.tup [x, y])) s.heap c (.tup [x, y]) := ⟨by show 2 ≤ sizeLine; decide, [u, v], .cons ru (.cons rv .nil), ⟨_, hc, rfl, _, rfl⟩⟩
    have I1 := Inv.track I fc.1 (fp_new fc) fc.2.1 fc.2.2.2.2.1 fc.2.2.2.2.2 ok
    obtain ⟨H', I', sm, off, on⟩ := track_pairs cs xs ys _ (Nat.succ.inj l1) (Nat.succ.inj l2) I1 (fun d hd => fp_upd (hf d (List.mem_cons_of_mem _ hd)) (fun e => nc (e ▸ hd))) nd' (fun j d e => hp (j + 1) d e)
    refine ⟨H', I', (same_new fc.1).trans sm, fun b hb => ?_, fun j d e => ?_⟩
    · rw [off b (fun h => hb (List.mem_cons_of_mem _ h)), upd_ne (fun e => hb (by rw [e]; exact List.mem_cons_self))]
    · cases j with
      | zero =>
        obtain rfl := Option.some.inj e
        exact ⟨x, y, rfl, rfl, by rw [off c nc, upd_same]⟩
      | succ j => exact on j d e
theorem vals_refs : ∀ (cs : List Addr), Vals (cs.map V.ref) (cs.map Value.ref)
  | [] => .nil
  | _ :: cs => .cons rfl (vals_refs cs)
section
variable {X : Cx}
theorem pe_lstZip {e e2 : Expr} {ta : TA} {p p2 pos pos2 : Pos} (hc : X.calm = true) (hg : Gl X "list") (hm : X.mg "list" = none) (hg2 : Gl X "zip") (hm2 : X.mg "zip" = none) (ha : PA X [e, e2] ta)
    (hs : starEach [e, e2] X.env = (false, eval e X.env) :: starEach [e2] X.env := by rfl) (hpl : (backTo pos2 (starEach [e2] X.env)).any (·.1) = false := by rfl)
    (hs2 : starEach [.Call (.Name "zip" p2) [e, e2] [] pos2] X.env = (false, eval (.Call (.Name "zip" p2) [e, e2] [] pos2) X.env) :: starEach [] X.env := by rfl) :
    PE X (.Call (.Name "list" p) [.Call (.Name "zip" p2) [e, e2] [] pos2] [] pos) (tLstZip X.K ta) := by
  refine ⟨fun pins s σ H Q I h => ?_⟩
  refine Call_ (ld_blt I hg hm boot_list (PyProof.Rows.callWith_type1 (args_cons (Call_ (ld_blt I hg2 hm2 PyProof.Rows.boot_zip (PyProof.Rows.callWith_type1 (thn (ha.run pos2 pins s σ H _ I h) fun us s1 ⟨vs, H1, I1, r1, q1⟩ => ?_) hs hpl))) hs2) hs2 rfl))
  obtain ⟨a, b, xs, ys, ex, hqx, hqy, hlen, q⟩ := q1
  subst ex
  cases r1 with
  | cons r rr =>
    cases rr with
    | cons r' rr =>
      cases rr
      cases r
      cases r'
      obtain ⟨its, rv, p1, hz1⟩ := I1.list hqx
      obtain ⟨its2, rv2, p2', _⟩ := I1.list hqy
      have la : a < s1.heap.objs.size := p1.lt
      have lb : b < s1.heap.objs.size := p2'.lt
      refine call_zip_2 p1.isList p2'.isList fun h' hz hTI hTO h1 h2 hsz hk => args_nil ?_
      have I2 : Inv X pins σ H1 { s1 with heap := h' } := I1.kept (t' := s1.toks) hk
      have l1 := rv.length
      have l2 := rv2.length
      refine call_list_zip (s := { s1 with heap := h' }) (I1.ok.hd hc) (PySem.W.ktu_apart s1.heap.objs.size a b la lb) (by rw [List.size_toArray, List.size_toArray]; omega) (by rw [List.size_toArray, ← l1]; exact hz1) hz hTI hTO h1 h2
        (p1.isList.at fun o e => hk _ o e) (p2'.isList.at fun o e => hk _ o e) fun h'' tk acc c hk2 hS hacc => ?_
      have hsz' : (({ s1 with heap := h' } : Shared).heap).objs.size = s1.heap.objs.size + 5 := hsz
      rw [hsz'] at hS hacc ⊢
      have fp : ∀ {d : Addr}, s1.heap.objs.size ≤ d → FpOk X pins H1 d := fun hd => I1.fpOk hd (I1.hok.fresh hd)
      have I3 : Inv X pins σ H1 { s1 with heap := h'', toks := tk } := Inv.turnedL (s := { s1 with heap := h' }) (t' := tk) (ch := [s1.heap.objs.size + 4, s1.heap.objs.size + 3, s1.heap.objs.size, s1.heap.objs.size + 1]) I2 hk2 fun d hd => by
        simp only [List.mem_cons, List.not_mem_nil, or_false] at hd
        rcases hd with z | z | z | z
        · rw [z]; exact fp (Nat.le_add_right _ _)
        · rw [z]; exact fp (Nat.le_add_right _ _)
        · rw [z]; exact fp (Nat.le_refl _)
        · rw [z]; exact fp (Nat.le_add_right _ _)
      obtain ⟨z1, cs, z2, z3, z4⟩ := hacc
      have lcs : cs.length = xs.length := by
        have := congrArg List.length z2
        rw [List.length_map, Array.length_toList] at this
        rw [← this, z1, List.size_toArray, l1]
      have ndc : cs.Nodup := z3.imp fun h e => Nat.ne_of_lt h e
      have big : ∀ {d : Addr}, d ∈ cs → s1.heap.objs.size + 5 + 1 ≤ d := fun hd => by
        obtain ⟨j, hj⟩ := List.mem_iff_getElem?.mp hd
        exact (z4 j _ hj).1
      obtain ⟨H2, I4, sm, off, on⟩ := track_pairs cs xs ys H1 lcs hlen I3 (fun d hd => fp (Nat.le_trans (Nat.le_trans (Nat.le_add_right _ 5) (Nat.le_succ _)) (big hd))) ndc fun j d e => by
        obtain ⟨_, _, u, v, hu, hv, hp⟩ := z4 j d e
        have hj : j < xs.length := by rw [← lcs]; exact (List.getElem?_eq_some_iff.mp e).1
        obtain ⟨u', hu', ru⟩ := rv.get (List.getElem?_eq_getElem hj)
        obtain ⟨v', hv', rv'⟩ := rv2.get (List.getElem?_eq_getElem (show j < ys.length by omega))
        rw [List.getElem?_toArray] at hu hv
        obtain rfl := Option.some.inj (hu'.symm.trans hu)
        obtain rfl := Option.some.inj (hv'.symm.trans hv)
        exact ⟨_, _, u', v', List.getElem?_eq_getElem hj, List.getElem?_eq_getElem (show j < ys.length by omega), ru, rv', hp⟩
      have nS : s1.heap.objs.size + 5 ∉ cs := fun hm => Nat.lt_irrefl _ (big hm)
      have fS : FpOk X pins H1 (s1.heap.objs.size + 5) := fp (Nat.le_add_right _ _)
      have nS2 : H2 (s1.heap.objs.size + 5) = none := by rw [off _ nS]; exact fS.1
      have okS : ObjOk X.prog X.w (upd H2 (s1.heap.objs.size + 5) (.lst (cs.map V.ref))) h'' (s1.heap.objs.size + 5) (.lst (cs.map V.ref)) := by
        refine ⟨by rw [List.length_map, lcs]; exact hz1, acc.toList, c, by rw [z2]; exact vals_refs cs, ?_⟩
        rw [Array.toArray_toList]
        exact hS
      have I5 := Inv.track I4 nS2 (fp_new fS) fS.2.1 fS.2.2.2.2.1 fS.2.2.2.2.2 okS
      refine ⟨.ref (s1.heap.objs.size + 5), _, I5, rfl, q _ _ cs (sm.trans (same_new nS2)) fS.1 upd_same lcs fun j d e => ?_⟩
      obtain ⟨x, y, hx, hy, hd⟩ := on j d e
      refine ⟨x, y, hx, hy, ?_⟩
      rw [upd_ne (fun z => nS (by rw [← z]; exact List.mem_of_getElem? e))]
      exact hd
end
end Mf
namespace Mf
open PySem PySem.Spec PySem.Calls PyProof.Rows L2
theorem fst_zip {rs ss : List Rat} (h : rs.length = ss.length) : (rs.zip ss).map (·.1) = rs := by
  rw [show (fun z : Rat × Rat => z.1) = Prod.fst from rfl, List.map_fst_zip (by omega)]
theorem zip_fst {rs ss : List Rat} {z : Rat × Rat} (h : z ∈ rs.zip ss) : z.1 ∈ rs := (List.of_mem_zip h).1
theorem zip_snd {rs ss : List Rat} {z : Rat × Rat} (h : z ∈ rs.zip ss) : z.2 ∈ ss := (List.of_mem_zip h).2
theorem den_dvd {x : Rat} {b t : Int} (h : x * (b : Rat) = (t : Rat)) : x.den ∣ b.natAbs := by
  have h2 : Rat.divInt (x.num * b) (x.den : Int) = Rat.divInt t 1 := by
    rw [div_int, ← h, ← div_int b]
    conv => rhs; rw [← Rat.num_divInt_den x]
    rw [Rat.divInt_mul_divInt, Int.mul_one]
  have h3 := (Rat.divInt_eq_divInt_iff (by have := den1 x; omega) (by decide)).mp h2
  rw [Int.mul_one] at h3
  have h4 : (x.den : Int) ∣ x.num * b := ⟨t, by rw [h3, Int.mul_comm]⟩
  have h5 : x.den ∣ (x.num * b).natAbs := by
    have := Int.natAbs_dvd_natAbs.mpr h4
    rwa [Int.natAbs_natCast] at this
  rw [Int.natAbs_mul] at h5
  exact (Nat.Coprime.symm x.reduced).dvd_of_dvd_mul_left h5
theorem den_share {r v : Rat} {L : List Rat} (h : ∀ s ∈ L, s ≠ r) : (share r v L).den ∣ (shB r L (v.den : Int)).natAbs := by
  have b0 := shB_ne (r := r) (L := L) (z := (v.den : Int)) (by have := den1 v; omega) h
  refine den_dvd (t := shT r L v.num) ?_
  unfold share
  rw [div_int, div_int]
  exact Rat.div_mul_cancel (fun z => b0 (Rat.intCast_inj.mp (by rw [z]; rfl)))
theorem den_shr {ps : List (Rat × Rat)} {A B k : Nat} (nd : (ps.map (·.1)).Nodup) (hA : ∀ z ∈ ps, Rb A z.1) (hB : ∀ z ∈ ps, Rb B z.2) (hk : k < ps.length) : (shr ps k).den < 2 ^ (B + (ps.length - 1) * (A + A + 1)) := by
  have hne := oth_ne nd hk
  have g := at1_get hk
  have m := List.mem_of_getElem? g
  have hL : ∀ s ∈ oth1 ps k, Rb A s := fun s hs => by
    obtain ⟨z, hz, rfl⟩ := List.mem_map.mp hs
    have : z ∈ ps := by
      unfold oth at hz
      rcases List.mem_append.mp hz with h | h
      · exact List.mem_of_mem_take h
      · exact List.mem_of_mem_drop h
    exact hA z this
  have b2 := shB_bt (m := B) (z := ((at1 ps k).2.den : Int)) (hA _ m) hL (hB _ m).2
  have l := len_oth hk
  rw [show (oth1 ps k).length = ps.length - 1 by omega] at b2
  have b0 := shB_ne (r := (at1 ps k).1) (L := oth1 ps k) (z := ((at1 ps k).2.den : Int)) (by have := den1 (at1 ps k).2; omega) hne
  exact Nat.lt_of_le_of_lt (Nat.le_of_dvd (Int.natAbs_pos.mpr b0) (den_share hne)) b2
theorem lcmL_ltD {n : Nat} : ∀ {rs : List Rat} {d m : Nat}, (∀ r ∈ rs, r.den < 2 ^ n) → d < 2 ^ m → rs.foldl (fun d r => Nat.lcm d r.den) d < 2 ^ (m + rs.length * n)
  | [], d, m, _, h => by simpa using h
  | r :: rs, d, m, hb, h => by
    have hr := hb r List.mem_cons_self
    have h1 : Nat.lcm d r.den < 2 ^ (m + n) := by
      rw [Nat.pow_add]
      refine Nat.lt_of_le_of_lt (Nat.div_le_self _ _) ?_
      exact Nat.lt_of_le_of_lt (Nat.mul_le_mul_left d (Nat.le_of_lt hr)) (Nat.mul_lt_mul_of_pos_right h (Nat.two_pow_pos n))
    have := lcmL_ltD (rs := rs) (fun x hx => hb x (List.mem_cons_of_mem _ hx)) h1
    rw [List.length_cons, Nat.succ_mul, show m + (rs.length * n + n) = m + n + rs.length * n by omega]
    exact this
theorem lcmL_btD {n : Nat} {rs : List Rat} (h : ∀ r ∈ rs, r.den < 2 ^ n) : Bt (rs.length * n + 1) (lcmL rs : Int) := by
  show (lcmL rs : Int).natAbs < _
  rw [Int.natAbs_natCast, Nat.add_comm]
  exact lcmL_ltD (m := 1) h (by decide)
theorem lcmL_dvdN {N : Nat} : ∀ {rs : List Rat} {d : Nat}, d ∣ N → (∀ r ∈ rs, r.den ∣ N) → rs.foldl (fun d r => Nat.lcm d r.den) d ∣ N
  | [], _, h, _ => h
  | r :: rs, _, h, hr => lcmL_dvdN (rs := rs) (Nat.lcm_dvd h (hr r List.mem_cons_self)) fun x hx => hr x (List.mem_cons_of_mem _ hx)
theorem PP.data {H : Hp} {q : Addr} {K : PySem.W.Frag} {acc : List V} (hq : H q = some (.lst acc)) : ∀ {vs : List V} {rs : List (Rat × Rat)}, PP H vs rs → DqAll q K H vs (rs.map rp)
  | _, _, .nil => .nil
  | _, _, .cons e e1 e2 t =>
    have n : ∀ {a : Addr} {xs : List V}, H a = some (.tup xs) → a ≠ q := fun e z => by rw [z, hq] at e; cases e
    .cons (.tup (n e) (tupU e) (.cons (.tup (n e1) (tupU e1) (.cons (.int _) (.cons (.int _) .nil))) (.cons (.tup (n e2) (tupU e2) (.cons (.int _) (.cons (.int _) .nil))) .nil))) (PP.data hq t)
theorem rps_ok {n : Nat} {rs : List (Rat × Rat)} (h : ∀ z ∈ rs, Rb n z.1 ∧ Rb n z.2) : ∀ d ∈ rs.map rp, PtOk n d := by
  intro d hd
  obtain ⟨z, hz, rfl⟩ := List.mem_map.mp hd
  exact ⟨rd z.1, rd z.2, .inr rfl, ⟨rd_fr _, (h z hz).1.1, (h z hz).1.2⟩, ⟨rd_fr _, (h z hz).2.1, (h z hz).2.2⟩⟩
theorem rps_xy : ∀ rs : List (Rat × Rat), (rs.map rp).map xy = rs
  | [] => rfl
  | r :: rs => by
    have e1 : valQ (rd r.1) = r.1 := by have := rds_val [r.1]; exact (List.cons.inj this).1
    have e2 : valQ (rd r.2) = r.2 := by have := rds_val [r.2]; exact (List.cons.inj this).1
    show (valQ (rd r.1), valQ (rd r.2)) :: (rs.map rp).map xy = r :: rs
    rw [e1, e2, rps_xy rs]
theorem thru7 {K : PySem.W.Frag} {H : Hp} {Q : VK} {E : XK} {q a : Addr} {xs : List V} {ds : List PyData} {ps : List (Rat × Rat)} {n B : Nat} (nq : a ≠ q) (hs : Sq K H a xs) (hd : DqAll q K H xs ds) (ok : ∀ d ∈ ds, PtOk n d) (e : ds.map xy = ps) (hn : n ≤ 7000) (hl : ps.length ≤ 7) (nd : (ps.map (·.1)).Nodup)
    (hA : ∀ z ∈ ps, Rb 6 z.1) (hB : ∀ z ∈ ps, Rb B z.2) (b1 : 1 ≤ B) (b2 : B ≤ 200) (k : ∀ p H' ws r, Same H H' → H p = none → H' p = some (.tup ws) → TL H' ws r → Tr r → r.length ≤ ps.length → (∀ z ∈ ps, val r z.1 = z.2) → RbL (9 * B + 737) r → Q (.ref p) H') : sp_thru K [.ref a] H Q E := by
  subst e
  rw [List.length_map] at hl
  have mem : ∀ d ∈ ds, xy d ∈ ds.map xy := fun d h => List.mem_map.mpr ⟨d, h, rfl⟩
  have hM : Bt (7 * (B + 78) + 1) (lcmL ((List.range ds.length).map (shr (ds.map xy))) : Int) := by
    refine (lcmL_btD (n := B + 78) fun r hr => ?_).mono ?_
    · obtain ⟨j, hj, rfl⟩ := List.mem_map.mp hr
      refine Nat.lt_of_lt_of_le (den_shr nd hA hB (k := j) (by rw [List.length_map]; exact List.mem_range.mp hj)) (Nat.pow_le_pow_right (by decide) ?_)
      rw [List.length_map]
      omega
    · rw [List.length_map, List.length_range]
      exact Nat.add_le_add_right (Nat.mul_le_mul_right _ hl) 1
  refine ⟨q, a, xs, ds, n, 6, B, _, rfl, nq, hs, hd, ok, hn, by omega, by rw [List.map_map] at nd; exact nd, fun d h => hA _ (mem d h), fun d h => hB _ (mem d h), by decide, by decide, b1, by omega, by omega, hM, fun p H' ws r s np ep t tr l v b => ?_⟩
  refine k p H' ws r s np ep t tr (by rw [List.length_map]; exact l) (fun z hz => ?_) (b.mono ?_)
  · obtain ⟨d, hd, rfl⟩ := List.mem_map.mp hz
    exact v d hd
  · omega
/-- .. where the polynomial is known -/
theorem thru7_is {K : PySem.W.Frag} {H : Hp} {Q : VK} {E : XK} {q a : Addr} {xs : List V} {ds : List PyData} {ps : List (Rat × Rat)} {n B : Nat} {f : List Rat} (nq : a ≠ q) (hs : Sq K H a xs) (hd : DqAll q K H xs ds) (ok : ∀ d ∈ ds, PtOk n d) (e : ds.map xy = ps) (hn : n ≤ 7000) (hl : ps.length ≤ 7) (nd : (ps.map (·.1)).Nodup)
    (hA : ∀ z ∈ ps, Rb 6 z.1) (hB : ∀ z ∈ ps, Rb B z.2) (b1 : 1 ≤ B) (b2 : B ≤ 200) (tf : Tr f) (lf : f.length ≤ ps.length) (vf : ∀ z ∈ ps, val f z.1 = z.2) (k : RetL f H Q) : sp_thru K [.ref a] H Q E :=
  thru7 nq hs hd ok e hn hl nd hA hB b1 b2 fun p H' ws r s np ep t tr l v _ => by
    have er := thru_uniq nd tr tf l lf v vf
    subst er
    exact k p H' ws s np ep t
/-- values of a polynomial at some places -/
theorem vals_ok {rs row : List Rat} {z : Rat × Rat} (h : z ∈ rs.zip (rs.map (val row))) : val row z.1 = z.2 := by
  obtain ⟨i, hi⟩ := List.mem_iff_getElem?.mp h
  rw [List.getElem?_zip_eq_some] at hi
  obtain ⟨h1, h2⟩ := hi
  rw [List.getElem?_map, h1] at h2
  exact Option.some.inj h2
theorem zip_perm {ps qs : List (Rat × Rat)} (h : ps.Perm qs) (nd : (qs.map (·.1)).Nodup) : (ps.map (·.1)).Nodup := (h.map _).nodup_iff.mpr nd
theorem rb_row {row : List Rat} {x : Rat} (h : RbL 12 row) (hx : Rb 6 x) (l : row.length ≤ 7) : ∀ i, i ≤ row.length → Rb 134 (evs (co row) x i) := fun i hi => (rb_val h (by decide) hx i).mono (by omega)
end Mf
namespace Mf
open PySem PySem.Spec PySem.Calls PyProof.Rows L2
def sumsAt (row rs ss : List Rat) : List Rat := (rs.zip ss).map fun z => z.2 + val row z.1
theorem len_sumsAt {row rs ss : List Rat} (h : rs.length = ss.length) : (sumsAt row rs ss).length = rs.length := by
  unfold sumsAt
  rw [List.length_map, List.length_zip]
  omega
theorem get_sumsAt {row rs ss : List Rat} {i : Nat} (h1 : rs[i]? = some (co rs i)) (h2 : ss[i]? = some (co ss i)) : (sumsAt row rs ss)[i]? = some (co ss i + val row (co rs i)) := by
  unfold sumsAt
  have e : (rs.zip ss)[i]? = some (co rs i, co ss i) := List.getElem?_zip_eq_some.mpr ⟨h1, h2⟩
  rw [List.getElem?_map, e]
  rfl
theorem sums_ok {told row rs ss : List Rat} (h : ∀ z ∈ rs.zip ss, val told z.1 = z.2) {z : Rat × Rat} (hz : z ∈ rs.zip (sumsAt row rs ss)) : val (trimR (padd told row)) z.1 = z.2 := by
  obtain ⟨i, hi⟩ := List.mem_iff_getElem?.mp hz
  rw [List.getElem?_zip_eq_some] at hi
  obtain ⟨h1, h2⟩ := hi
  unfold sumsAt at h2
  rw [List.getElem?_map] at h2
  obtain ⟨y, hy, ey⟩ := Option.map_eq_some_iff.mp h2
  have hy2 := List.getElem?_zip_eq_some.mp hy
  have e1 : y.1 = z.1 := Option.some.inj (hy2.1.symm.trans h1)
  rw [val_trim, val_padd, ← ey, ← e1, h y (List.mem_of_getElem? hy)]
theorem rbl_sumsAt {row rs ss : List Rat} (hr : RbL 6 rs) (hs : RbL 12 ss) (hw : RbL 12 row) (l : row.length ≤ 7) : RbL 147 (sumsAt row rs ss) := fun x hx => by
  unfold sumsAt at hx
  obtain ⟨z, hz, rfl⟩ := List.mem_map.mp hx
  have b2 := rb_row hw (hr _ (zip_fst hz)) l row.length (Nat.le_refl _)
  exact ((hs _ (zip_snd hz)).add b2).mono (by decide)
theorem rbl_vals {row rs : List Rat} (hr : RbL 6 rs) (hw : RbL 12 row) (l : row.length ≤ 7) : RbL 134 (rs.map (val row)) := fun x hx => by
  obtain ⟨z, hz, rfl⟩ := List.mem_map.mp hx
  exact rb_row hw (hr _ hz) l row.length (Nat.le_refl _)
end Mf
namespace Mf
open PySem PySem.Spec PySem.Calls PyProof.Rows L2
/-! ### forty points at 0 to 39 -/
abbrev ri (i : Nat) : Rat := Rat.divInt (i : Int) 1
inductive IP (H : Hp) : Nat → List V → List Rat → Prop
  | nil (i : Nat) : IP H i [] []
  | cons {i : Nat} {c p : Addr} {r : Rat} {vs : List V} {rs : List Rat} : H c = some (.tup [.int (i : Int), .ref p]) → H p = some (.tup (rv r)) → IP H (i + 1) vs rs → IP H i (.ref c :: vs) (r :: rs)
theorem IP.go {H H' : Hp} (s : KeepT H H') : ∀ {i : Nat} {vs : List V} {rs : List Rat}, IP H i vs rs → IP H' i vs rs
  | _, _, _, .nil i => .nil i
  | _, _, _, .cons e e1 t => .cons (s _ _ e) (s _ _ e1) (IP.go s t)
theorem IP.len {H : Hp} : ∀ {i : Nat} {vs : List V} {rs : List Rat}, IP H i vs rs → vs.length = rs.length
  | _, _, _, .nil _ => rfl
  | _, _, _, .cons _ _ t => congrArg Nat.succ (IP.len t)
theorem IP.snoc {H : Hp} {c p : Addr} {r : Rat} {j : Nat} (e : H c = some (.tup [.int (j : Int), .ref p])) (e1 : H p = some (.tup (rv r))) : ∀ {i : Nat} {vs : List V} {rs : List Rat}, IP H i vs rs → j = i + rs.length → IP H i (vs ++ [.ref c]) (rs ++ [r])
  | i, _, _, .nil _, h => by
    obtain rfl : j = i := h
    exact .cons e e1 (.nil _)
  | i, _, _, .cons g g1 t, h => .cons g g1 (IP.snoc e e1 t (by rw [h, List.length_cons]; omega))
def ipd : Nat → List Rat → List PyData
  | _, [] => []
  | i, r :: rs => .tuple [.int (i : Int), rd r] :: ipd (i + 1) rs
def ipz : Nat → List Rat → List (Rat × Rat)
  | _, [] => []
  | i, r :: rs => (ri i, r) :: ipz (i + 1) rs
theorem IP.data {H : Hp} {q : Addr} {K : PySem.W.Frag} {acc : List V} (hq : H q = some (.lst acc)) : ∀ {i : Nat} {vs : List V} {rs : List Rat}, IP H i vs rs → DqAll q K H vs (ipd i rs)
  | _, _, _, .nil _ => .nil
  | _, _, _, .cons e e1 t =>
    have n : ∀ {a : Addr} {xs : List V}, H a = some (.tup xs) → a ≠ q := fun e z => by rw [z, hq] at e; cases e
    .cons (.tup (n e) (tupU e) (.cons (.int _) (.cons (.tup (n e1) (tupU e1) (.cons (.int _) (.cons (.int _) .nil))) .nil))) (IP.data hq t)
theorem len_ipd : ∀ (i : Nat) (rs : List Rat), (ipd i rs).length = rs.length
  | _, [] => rfl
  | i, _ :: rs => congrArg Nat.succ (len_ipd (i + 1) rs)
theorem len_ipz : ∀ (i : Nat) (rs : List Rat), (ipz i rs).length = rs.length
  | _, [] => rfl
  | i, _ :: rs => congrArg Nat.succ (len_ipz (i + 1) rs)
theorem ipd_xy : ∀ (i : Nat) (rs : List Rat), (ipd i rs).map xy = ipz i rs
  | _, [] => rfl
  | i, r :: rs => by
    have e2 : valQ (rd r) = r := by have := rds_val [r]; exact (List.cons.inj this).1
    show (ri i, valQ (rd r)) :: (ipd (i + 1) rs).map xy = _
    rw [e2, ipd_xy (i + 1) rs]
    rfl
theorem ipd_ok {n : Nat} : ∀ (i : Nat) (rs : List Rat), (∀ r ∈ rs, Rb n r) → i + rs.length ≤ 64 → 6 ≤ n → ∀ d ∈ ipd i rs, PtOk n d
  | _, [], _, _, _, d, hd => absurd hd List.not_mem_nil
  | i, r :: rs, h, hl, hn, d, hd => by
    rw [List.length_cons] at hl
    rcases List.mem_cons.mp hd with rfl | hd
    · have hr := h r List.mem_cons_self
      refine ⟨.int (i : Int), rd r, .inr rfl, ⟨rfl, Bt.mono (m := 6) ?_ hn, Bt.mono (m := 1) (by show (1 : Int).natAbs < 2 ^ 1; decide) (by omega)⟩, ⟨rd_fr _, hr.1, hr.2⟩⟩
      show (i : Int).natAbs < 2 ^ 6
      omega
    · exact ipd_ok (i + 1) rs (fun r hr => h r (List.mem_cons_of_mem _ hr)) (by omega) hn d hd
theorem ipz_fst : ∀ (i : Nat) (rs : List Rat), (ipz i rs).map (·.1) = (List.range' i rs.length).map ri
  | _, [] => rfl
  | i, r :: rs => by
    show ri i :: (ipz (i + 1) rs).map (·.1) = _
    rw [ipz_fst (i + 1) rs, List.length_cons, List.range'_succ]
    rfl
theorem ipz_mem : ∀ {i : Nat} {rs : List Rat} {z : Rat × Rat}, z ∈ ipz i rs → ∃ j, i ≤ j ∧ j < i + rs.length ∧ rs[j - i]? = some z.2 ∧ z.1 = ri j
  | _, [], _, h => absurd h List.not_mem_nil
  | i, r :: rs, z, h => by
    rcases List.mem_cons.mp h with rfl | h
    · exact ⟨i, Nat.le_refl _, by rw [List.length_cons]; omega, by rw [Nat.sub_self]; rfl, rfl⟩
    · obtain ⟨j, h1, h2, h3, h4⟩ := ipz_mem h
      refine ⟨j, by omega, by rw [List.length_cons]; omega, ?_, h4⟩
      rw [show j - i = (j - (i + 1)) + 1 by omega]
      exact h3
/-- whole numbers from -4 to 4 -/
def Iz (f : List Rat) : Prop := ∀ r ∈ f, ∃ z : Int, -4 ≤ z ∧ z ≤ 4 ∧ r = Rat.divInt z 1
theorem Iz.snoc {f : List Rat} {z : Int} (h : Iz f) (z1 : -4 ≤ z) (z2 : z ≤ 4) : Iz (f ++ [Rat.divInt z 1]) := fun r hr => by
  rcases List.mem_append.mp hr with hr | hr
  · exact h r hr
  · exact ⟨z, z1, z2, List.mem_singleton.mp hr⟩
theorem Iz.trim {f : List Rat} (h : Iz f) : Iz (trimR f) := fun r hr => by
  by_cases e : r = 0
  · exact ⟨0, by decide, by decide, by rw [e, Rat.zero_divInt]⟩
  · exact h r (mem_trim hr)
theorem Iz.rb {f : List Rat} (h : Iz f) : RbL 3 f := fun r hr => by
  obtain ⟨z, z1, z2, rfl⟩ := h r hr
  exact Rb.of (by decide) (by show z.natAbs < 2 ^ 3; omega) (by show (1 : Int).natAbs < 2 ^ 3; decide)
theorem Iz.co {f : List Rat} (h : Iz f) (i : Nat) : ∃ z : Int, co f i = (z : Rat) := by
  by_cases e : i < f.length
  · rw [co_get e]
    obtain ⟨z, _, _, hz⟩ := h _ (List.getElem_mem e)
    exact ⟨z, by rw [hz, div_int]⟩
  · exact ⟨0, by rw [co_ge (by omega)]; rfl⟩
theorem Iz.val {f : List Rat} (h : Iz f) (x : Int) : ∃ z : Int, val f (x : Rat) = (z : Rat) := by
  have key : ∀ n, ∃ z : Int, evs (Mf.co f) (x : Rat) n = (z : Rat) := by
    intro n
    induction n with
    | zero => exact ⟨0, rfl⟩
    | succ n ih =>
      obtain ⟨z, hz⟩ := ih
      obtain ⟨c, hc⟩ := h.co n
      refine ⟨z + c * x ^ n, ?_⟩
      show evs (Mf.co f) (x : Rat) n + Mf.co f n * (x : Rat) ^ n = _
      rw [hz, hc, Rat.intCast_add, Rat.intCast_mul, Rat.intCast_pow]
  exact key _
def f39 : Nat := 20397882081197443358640281739902897356800000000
def ats40 : List Rat := (List.range 40).map ri
theorem dens40 : ∀ k, k < 40 → (shB (ri k) (ats40.take k ++ ats40.drop (k + 1)) 1).natAbs ∣ f39 := by decide +kernel
theorem nd40 : ats40.Nodup := by decide +kernel
def vals40 (row : List Rat) : List Rat := (List.range 40).map fun j => val row (ri j)
theorem len_vals40 (row : List Rat) : (vals40 row).length = 40 := by simp [vals40]
theorem fst40 (row : List Rat) : (ipz 0 (vals40 row)).map (·.1) = ats40 := by
  rw [ipz_fst, len_vals40, ← List.range_eq_range']
  rfl
theorem mem40 {row : List Rat} {z : Rat × Rat} (h : z ∈ ipz 0 (vals40 row)) : ∃ j, j < 40 ∧ z.1 = ri j ∧ z.2 = val row (ri j) := by
  obtain ⟨j, _, h2, h3, h4⟩ := ipz_mem h
  rw [len_vals40] at h2
  refine ⟨j, by omega, h4, ?_⟩
  unfold vals40 at h3
  rw [Nat.sub_zero, List.getElem?_map, List.getElem?_range (by omega)] at h3
  exact (Option.some.inj h3).symm
theorem lcm40 {row : List Rat} (h : Iz row) : Bt 160 (lcmL ((List.range 40).map (shr (ipz 0 (vals40 row)))) : Int) := by
  have l40 : (ipz 0 (vals40 row)).length = 40 := by rw [len_ipz, len_vals40]
  have dv : lcmL ((List.range 40).map (shr (ipz 0 (vals40 row)))) ∣ f39 := by
    refine lcmL_dvdN (Nat.one_dvd _) fun r hr => ?_
    obtain ⟨k, hk, rfl⟩ := List.mem_map.mp hr
    have hk := List.mem_range.mp hk
    have nd : ((ipz 0 (vals40 row)).map (·.1)).Nodup := by rw [fst40]; exact nd40
    have g := at1_get (rs := ipz 0 (vals40 row)) (k := k) (by omega)
    have ea : (at1 (ipz 0 (vals40 row)) k).1 = ri k := by
      have h1 : ((ipz 0 (vals40 row)).map (·.1))[k]? = some (at1 (ipz 0 (vals40 row)) k).1 := by rw [List.getElem?_map, g]; rfl
      rw [fst40] at h1
      unfold ats40 at h1
      rw [List.getElem?_map, List.getElem?_range hk] at h1
      exact (Option.some.inj h1).symm
    have ed : (at1 (ipz 0 (vals40 row)) k).2.den = 1 := by
      obtain ⟨j, _, _, h3⟩ := mem40 (List.mem_of_getElem? g)
      obtain ⟨z, hz⟩ := h.val (j : Int)
      rw [h3, show ri j = ((j : Int) : Rat) from div_int _, hz]
      exact Rat.den_intCast z
    have eo : oth1 (ipz 0 (vals40 row)) k = ats40.take k ++ ats40.drop (k + 1) := by
      unfold oth1 oth
      rw [List.map_append, List.map_take, List.map_drop, fst40]
    have d1 := den_share (r := (at1 (ipz 0 (vals40 row)) k).1) (v := (at1 (ipz 0 (vals40 row)) k).2) (oth_ne nd (by omega))
    refine Nat.dvd_trans d1 ?_
    rw [ed, eo, ea]
    exact dens40 k hk
  show (lcmL _ : Int).natAbs < 2 ^ 160
  rw [Int.natAbs_natCast]
  exact Nat.lt_of_le_of_lt (Nat.le_of_dvd (by decide) dv) (by decide)
theorem thru40 {K : PySem.W.Frag} {H : Hp} {Q : VK} {E : XK} {q a : Addr} {xs acc : List V} {row : List Rat} (nq : a ≠ q) (hs : SqL K H a xs) (hq : H q = some (.lst acc)) (hp : IP H 0 xs (vals40 row)) (hi : Iz row) (tr : Tr row) (lr : row.length ≤ 6) (k : RetL row H Q) : sp_thru K [.ref a] H Q E := by
  have l40 : (ipd 0 (vals40 row)).length = 40 := by rw [len_ipd, len_vals40]
  have ex := ipd_xy 0 (vals40 row)
  have ri6 : ∀ j, j < 40 → Rb 6 (ri j) := fun j hj => Rb.of (by decide) (by show (j : Int).natAbs < 2 ^ 6; omega) (by show (1 : Int).natAbs < 2 ^ 6; decide)
  have bv : ∀ j, j < 40 → Rb 61 (val row (ri j)) := fun j hj => (rb_val hi.rb (by decide) (ri6 j hj) row.length).mono (by omega)
  have mem : ∀ d ∈ ipd 0 (vals40 row), xy d ∈ ipz 0 (vals40 row) := fun d h => by rw [← ex]; exact List.mem_map.mpr ⟨d, h, rfl⟩
  have hM := lcm40 hi
  have nd : ((ipz 0 (vals40 row)).map (·.1)).Nodup := by rw [fst40]; exact nd40
  refine ⟨q, a, xs, ipd 0 (vals40 row), 61, 6, 61, 160, rfl, nq, .inl hs, IP.data hq hp, ipd_ok 0 _ (fun r hr => ?_) (by rw [len_vals40]; decide) (by decide), by decide, by omega, ?_, fun d h => ?_, fun d h => ?_, by decide, by decide, by decide, by decide, by decide, by rw [l40, ex]; exact hM, fun p H' ws r s np ep t tr' l v _ => ?_⟩
  · unfold vals40 at hr
    obtain ⟨j, hj, rfl⟩ := List.mem_map.mp hr
    exact bv j (List.mem_range.mp hj)
  · rw [← ex, List.map_map] at nd
    exact nd
  · obtain ⟨j, hj, e, _⟩ := mem40 (mem d h)
    rw [e]
    exact ri6 j hj
  · obtain ⟨j, hj, _, e⟩ := mem40 (mem d h)
    rw [e]
    exact bv j hj
  · have er : r = row := thru_uniq (ps := ipz 0 (vals40 row)) nd tr' tr (by rw [len_ipz, len_vals40]; omega) (by rw [len_ipz, len_vals40]; omega) (fun z hz => by
      rw [← ex] at hz
      obtain ⟨d, hd, rfl⟩ := List.mem_map.mp hz
      exact v d hd) fun z hz => by
      obtain ⟨j, _, e1, e2⟩ := mem40 hz
      rw [e1, e2]
    subst er
    exact k p H' ws s np ep t
end Mf
namespace Mf
open PySem PySem.Spec PyProof.Rows L2
local macro_rules | `(tactic| walk_at "mf1") => `(tactic| first
  | ((with_reducible apply g_var); exact rfl)
  | with_reducible first
    | refine g_c ?_ | refine g_op ?_ | refine g_un ?_ | refine g_cb ?_ | refine g_cl ?_ | refine g_clk ?_ | refine g_nil ?_ | refine g_cons ?_
    | refine g_tB ?_ | refine g_test ?_ | refine g_bl ?_ | refine g_and ?_ | refine g_or ?_ | refine g_not ?_ | refine g_andV ?_ | refine g_orV ?_ | refine g_notV ?_
    | refine g_if ?_ | refine g_ifS ?_ | refine g_seq ?_ | refine g_next ?_ | refine g_ret ?_ | refine g_drop ?_ | refine g_asg ?_ | refine g_name ?_ | refine g_sub ?_
    | refine g_int ?_ | refine g_intB ?_ | refine g_abs ?_ | refine g_I0 ?_ | refine g_addI ?_ | refine g_U ?_ | refine g_isNn ?_ | refine g_isNi ?_ | refine g_notN ?_ | refine g_notT1 ?_ | refine g_notT2 ?_ | refine g_notT3 ?_ | refine g_notT4 ?_ | refine g_notTb ?_ | refine g_notTi ?_ | refine g_eqI ?_ | refine g_neI ?_ | refine g_neSs ?_ | refine g_neS ?_ | refine g_eqS ?_
    | refine g_iteT ?_ | refine g_iteF ?_ | refine g_iteNT ?_ | refine g_iteNF ?_ | refine g_lst ?_ | refine g_tup ?_ | refine g_seqP ?_ | refine g_sl ?_ | refine g_noPart ?_ | refine g_part ?_ | refine g_yes ?_ | refine g_thenT ?_ | refine g_consG ?_ | refine g_nilG ?_ | refine g_ii ?_ | refine g_par ?_ | refine g_par3 ?_ | refine g_vv ?_ | refine g_vvv ?_ | refine g_reprB ?_ | refine g_lcL ?_ | refine g_lcR ?_
  | ((with_reducible refine g_mod ?_ ?_); (first | omega | decide))
  | ((with_reducible refine g_div ?_ ?_ ?_); (first | omega | decide); (first | assumption | decide))
  | ((with_reducible refine g_mulL ?_ ?_ ?_); (first | omega | decide); (first | omega | decide))
  | ((with_reducible refine g_mulR ?_ ?_ ?_); (first | omega | decide); (first | omega | decide))
  | ((with_reducible refine g_pow ?_ ?_ ?_ ?_); decide; decide; (first | omega | decide))
  | dsimp only)
local macro_rules | `(tactic| walk_at "mf1s") => `(tactic| first
  | ((with_reducible apply g_var); exact rfl)
  | with_reducible first
    | refine g_c ?_ | refine g_op ?_ | refine g_un ?_ | refine g_cb ?_ | refine g_cl ?_ | refine g_clk ?_ | refine g_nil ?_ | refine g_cons ?_
    | refine g_tB ?_ | refine g_test ?_ | refine g_bl ?_ | refine g_and ?_ | refine g_or ?_ | refine g_not ?_ | refine g_andV ?_ | refine g_orV ?_ | refine g_notV ?_
    | refine g_if ?_ | refine g_ifS ?_ | refine g_next ?_ | refine g_ret ?_ | refine g_drop ?_ | refine g_asg ?_ | refine g_name ?_ | refine g_sub ?_
    | refine g_int ?_ | refine g_intB ?_ | refine g_abs ?_ | refine g_I0 ?_ | refine g_addI ?_ | refine g_U ?_ | refine g_isNn ?_ | refine g_isNi ?_ | refine g_notN ?_ | refine g_notT1 ?_ | refine g_notT2 ?_ | refine g_notT3 ?_ | refine g_notT4 ?_ | refine g_notTb ?_ | refine g_notTi ?_ | refine g_eqI ?_ | refine g_neI ?_ | refine g_neSs ?_ | refine g_neS ?_ | refine g_eqS ?_
    | refine g_iteT ?_ | refine g_iteF ?_ | refine g_iteNT ?_ | refine g_iteNF ?_ | refine g_lst ?_ | refine g_tup ?_ | refine g_seqP ?_ | refine g_sl ?_ | refine g_noPart ?_ | refine g_part ?_ | refine g_yes ?_ | refine g_thenT ?_ | refine g_consG ?_ | refine g_nilG ?_ | refine g_ii ?_ | refine g_par ?_ | refine g_par3 ?_ | refine g_vv ?_ | refine g_vvv ?_ | refine g_reprB ?_ | refine g_lcL ?_ | refine g_lcR ?_
  | ((with_reducible refine g_mod ?_ ?_); (first | omega | decide))
  | ((with_reducible refine g_div ?_ ?_ ?_); (first | omega | decide); (first | assumption | decide))
  | ((with_reducible refine g_mulL ?_ ?_ ?_); (first | omega | decide); (first | omega | decide))
  | ((with_reducible refine g_mulR ?_ ?_ ?_); (first | omega | decide); (first | omega | decide))
  | ((with_reducible refine g_pow ?_ ?_ ?_ ?_); decide; decide; (first | omega | decide))
  | dsimp only)
local macro_rules | `(tactic| walk_at "mfs") => `(tactic| repeat walk_at "mf1s")
local macro_rules | `(tactic| walk_at "mf") => `(tactic| repeat walk_at "mf1")
local macro_rules | `(tactic| walk_at "ed") => `(tactic| repeat (first
  | with_reducible first
    | exact eds_nil | apply eds_cons | exact ed_int | exact ed_bl | exact ed_non | apply ed_neg
  | ((with_reducible apply ed_str); decide)
  | ((with_reducible apply ed_var); (exact rfl); (first | assumption | exact Dq.int _))
  | ((with_reducible apply ed_dict0); assumption)
  | ((with_reducible apply ed_dict2); assumption)
  | ((with_reducible apply ed_tup); assumption)
  | ((with_reducible apply ed_lst); assumption)
  | (with_reducible apply ed_pow)
  | (with_reducible apply ed_mul)
  | assumption
  | (exact Dq.int _)
  | (exact ⟨by decide, by decide, by decide⟩)
  | (show List.length _ ≤ 1000; simp only [List.length_cons, List.length_nil]; decide)))
def topS (i : Nat) : Stmt := PySem.Challenge.pw_mapflow_k42_whole_polynomials_through_po.main.body.getD i (.Pass ⟨0, 0, 0, 0⟩)
abbrev s_is_integer : Stmt := topS 2
theorem sc_is_integer : FnScope ["value"] ["value"] (defScope s_is_integer) := ⟨rfl, rfl, rfl, by decide +kernel, rfl, by decide +kernel, by decide +kernel⟩
theorem pl_is_integer : Pl "is_integer" s_is_integer ["value"] := fun _ _ _ _ _ _ us hl => match us, hl with | [_], _ => rfl
abbrev s_is_within : Stmt := topS 3
theorem sc_is_within : FnScope ["value", "least", "most"] ["value", "least", "most"] (defScope s_is_within) := ⟨rfl, rfl, rfl, by decide +kernel, rfl, by decide +kernel, by decide +kernel⟩
theorem pl_is_within : Pl "is_within" s_is_within ["value", "least", "most"] := fun _ _ _ _ _ _ us hl => match us, hl with | [_, _, _], _ => rfl
abbrev s_is_list : Stmt := topS 4
theorem sc_is_list : FnScope ["value"] ["value"] (defScope s_is_list) := ⟨rfl, rfl, rfl, by decide +kernel, rfl, by decide +kernel, by decide +kernel⟩
theorem pl_is_list : Pl "is_list" s_is_list ["value"] := fun _ _ _ _ _ _ us hl => match us, hl with | [_], _ => rfl
abbrev s_is_fraction : Stmt := topS 5
theorem sc_is_fraction : FnScope ["value"] ["value"] (defScope s_is_fraction) := ⟨rfl, rfl, rfl, by decide +kernel, rfl, by decide +kernel, by decide +kernel⟩
theorem pl_is_fraction : Pl "is_fraction" s_is_fraction ["value"] := fun _ _ _ _ _ _ us hl => match us, hl with | [_], _ => rfl
abbrev s_is_place : Stmt := topS 6
theorem sc_is_place : FnScope ["value"] ["value"] (defScope s_is_place) := ⟨rfl, rfl, rfl, by decide +kernel, rfl, by decide +kernel, by decide +kernel⟩
theorem pl_is_place : Pl "is_place" s_is_place ["value"] := fun _ _ _ _ _ _ us hl => match us, hl with | [_], _ => rfl
abbrev s_reduced : Stmt := topS 13
theorem sc_reduced : FnScope ["up", "down", "common"] ["up", "down"] (defScope s_reduced) := ⟨rfl, rfl, rfl, by decide +kernel, rfl, by decide +kernel, by decide +kernel⟩
theorem pl_reduced : Pl "reduced" s_reduced ["up", "down"] := fun _ _ _ _ _ _ us hl => match us, hl with | [_, _], _ => rfl
abbrev s_read_fraction : Stmt := topS 14
theorem sc_read_fraction : FnScope ["value", "part", "up", "down"] ["value", "part"] (defScope s_read_fraction) := ⟨rfl, rfl, rfl, by decide +kernel, rfl, by decide +kernel, by decide +kernel⟩
theorem pl_read_fraction : Pl "read_fraction" s_read_fraction ["value", "part"] := fun _ _ _ _ _ _ us hl => match us, hl with | [_, _], _ => rfl
abbrev s_over_one_down : Stmt := topS 15
theorem sc_over_one_down : FnScope ["some", "down", "_", "below", "up"] ["some"] (defScope s_over_one_down) := ⟨rfl, rfl, rfl, by decide +kernel, rfl, by decide +kernel, by decide +kernel⟩
theorem pl_over_one_down : Pl "over_one_down" s_over_one_down ["some"] := fun _ _ _ _ _ _ us hl => match us, hl with | [_], _ => rfl
abbrev s_fraction_of : Stmt := topS 16
theorem sc_fraction_of : FnScope ["value"] ["value"] (defScope s_fraction_of) := ⟨rfl, rfl, rfl, by decide +kernel, rfl, by decide +kernel, by decide +kernel⟩
theorem pl_fraction_of : Pl "fraction_of" s_fraction_of ["value"] := fun _ _ _ _ _ _ us hl => match us, hl with | [_], _ => rfl
abbrev s_added : Stmt := topS 17
theorem sc_added : FnScope ["one", "other", "up", "down", "more", "below"] ["one", "other"] (defScope s_added) := ⟨rfl, rfl, rfl, by decide +kernel, rfl, by decide +kernel, by decide +kernel⟩
theorem pl_added : Pl "added" s_added ["one", "other"] := fun _ _ _ _ _ _ us hl => match us, hl with | [_, _], _ => rfl
abbrev s_multiplied : Stmt := topS 18
theorem sc_multiplied : FnScope ["one", "other", "up", "down", "times", "below"] ["one", "other"] (defScope s_multiplied) := ⟨rfl, rfl, rfl, by decide +kernel, rfl, by decide +kernel, by decide +kernel⟩
theorem pl_multiplied : Pl "multiplied" s_multiplied ["one", "other"] := fun _ _ _ _ _ _ us hl => match us, hl with | [_, _], _ => rfl
abbrev s_divided : Stmt := topS 19
theorem sc_divided : FnScope ["one", "other", "up", "down", "times", "below"] ["one", "other"] (defScope s_divided) := ⟨rfl, rfl, rfl, by decide +kernel, rfl, by decide +kernel, by decide +kernel⟩
theorem pl_divided : Pl "divided" s_divided ["one", "other"] := fun _ _ _ _ _ _ us hl => match us, hl with | [_, _], _ => rfl
abbrev s_trimmed : Stmt := topS 23
theorem sc_trimmed : FnScope ["numbers", "length"] ["numbers"] (defScope s_trimmed) := ⟨rfl, rfl, rfl, by decide +kernel, rfl, by decide +kernel, by decide +kernel⟩
theorem pl_trimmed : Pl "trimmed" s_trimmed ["numbers"] := fun _ _ _ _ _ _ us hl => match us, hl with | [_], _ => rfl
abbrev s_is_poly : Stmt := topS 24
theorem sc_is_poly : FnScope ["value", "number"] ["value"] (defScope s_is_poly) := ⟨rfl, rfl, rfl, by decide +kernel, rfl, by decide +kernel, by decide +kernel⟩
theorem pl_is_poly : Pl "is_poly" s_is_poly ["value"] := fun _ _ _ _ _ _ us hl => match us, hl with | [_], _ => rfl
abbrev s_read_poly : Stmt := topS 25
theorem sc_read_poly : FnScope ["value", "part", "number"] ["value", "part"] (defScope s_read_poly) := ⟨rfl, rfl, rfl, by decide +kernel, rfl, by decide +kernel, by decide +kernel⟩
theorem pl_read_poly : Pl "read_poly" s_read_poly ["value", "part"] := fun _ _ _ _ _ _ us hl => match us, hl with | [_, _], _ => rfl
abbrev s_value_at : Stmt := topS 26
theorem sc_value_at : FnScope ["poly", "at", "numbers", "total", "number"] ["poly", "at"] (defScope s_value_at) := ⟨rfl, rfl, rfl, by decide +kernel, rfl, by decide +kernel, by decide +kernel⟩
theorem pl_value_at : Pl "value_at" s_value_at ["poly", "at"] := fun _ _ _ _ _ _ us hl => match us, hl with | [_, _], _ => rfl
abbrev s_poly_sum : Stmt := topS 27
theorem sc_poly_sum : FnScope ["one", "other", "first", "second", "total", "k", "number"] ["one", "other"] (defScope s_poly_sum) := ⟨rfl, rfl, rfl, by decide +kernel, rfl, by decide +kernel, by decide +kernel⟩
theorem pl_poly_sum : Pl "poly_sum" s_poly_sum ["one", "other"] := fun _ _ _ _ _ _ us hl => match us, hl with | [_, _], _ => rfl
abbrev s_read_points : Stmt := topS 28
theorem sc_read_points : FnScope ["points", "pairs", "point", "at", "value", "_"] ["points"] (defScope s_read_points) := ⟨rfl, rfl, rfl, by decide +kernel, rfl, by decide +kernel, by decide +kernel⟩
theorem pl_read_points : Pl "read_points" s_read_points ["points"] := fun _ _ _ _ _ _ us hl => match us, hl with | [_], _ => rfl
abbrev s_times_factor : Stmt := topS 29
theorem sc_times_factor : FnScope ["product", "at", "up", "down", "low", "high"] ["product", "at"] (defScope s_times_factor) := ⟨rfl, rfl, rfl, by decide +kernel, rfl, by decide +kernel, by decide +kernel⟩
theorem pl_times_factor : Pl "times_factor" s_times_factor ["product", "at"] := fun _ _ _ _ _ _ us hl => match us, hl with | [_, _], _ => rfl
abbrev s_without_factor : Stmt := topS 30
theorem sc_without_factor : FnScope ["product", "at", "up", "down", "quotient", "number", "high"] ["product", "at"] (defScope s_without_factor) := ⟨rfl, rfl, rfl, by decide +kernel, rfl, by decide +kernel, by decide +kernel⟩
theorem pl_without_factor : Pl "without_factor" s_without_factor ["product", "at"] := fun _ _ _ _ _ _ us hl => match us, hl with | [_, _], _ => rfl
abbrev s_share_at : Stmt := topS 31
theorem sc_share_at : FnScope ["pairs", "k", "up", "down", "top", "bottom", "other", "below", "_"] ["pairs", "k"] (defScope s_share_at) := ⟨rfl, rfl, rfl, by decide +kernel, rfl, by decide +kernel, by decide +kernel⟩
theorem pl_share_at : Pl "share_at" s_share_at ["pairs", "k"] := fun _ _ _ _ _ _ us hl => match us, hl with | [_, _], _ => rfl
abbrev s_poly_through : Stmt := topS 32
theorem sc_poly_through : FnScope ["points", "pairs", "product", "at", "_", "ups", "down", "parts", "total", "k", "up", "part"] ["points"] (defScope s_poly_through) := ⟨rfl, rfl, rfl, by decide +kernel, rfl, by decide +kernel, by decide +kernel⟩
theorem pl_poly_through : Pl "poly_through" s_poly_through ["points"] := fun _ _ _ _ _ _ us hl => match us, hl with | [_], _ => rfl
abbrev s__law_ropewalk : Stmt := topS 34
theorem sc__law_ropewalk : FnScope ["script", "cell"] ["script"] (defScope s__law_ropewalk) := ⟨rfl, rfl, rfl, by decide +kernel, rfl, by decide +kernel, by decide +kernel⟩
theorem pl__law_ropewalk : Pl "_law_ropewalk" s__law_ropewalk ["script"] := fun _ _ _ _ _ _ us hl => match us, hl with | [_], _ => rfl
abbrev s__law_knot : Stmt := topS 35
theorem sc__law_knot : FnScope ["ropewalk", "many", "left", "turn", "cell", "mixed"] ["ropewalk", "many"] (defScope s__law_knot) := ⟨rfl, rfl, rfl, by decide +kernel, rfl, by decide +kernel, by decide +kernel⟩
theorem pl__law_knot : Pl "_law_knot" s__law_knot ["ropewalk", "many"] := fun _ _ _ _ _ _ us hl => match us, hl with | [_, _], _ => rfl
abbrev s__law_pick : Stmt := topS 36
theorem sc__law_pick : FnScope ["ropewalk", "some"] ["ropewalk", "some"] (defScope s__law_pick) := ⟨rfl, rfl, rfl, by decide +kernel, rfl, by decide +kernel, by decide +kernel⟩
theorem pl__law_pick : Pl "_law_pick" s__law_pick ["ropewalk", "some"] := fun _ _ _ _ _ _ us hl => match us, hl with | [_, _], _ => rfl
abbrev s__law_low : Stmt := topS 37
theorem sc__law_low : FnScope ["up", "down", "one", "other", "part"] ["up", "down"] (defScope s__law_low) := ⟨rfl, rfl, rfl, by decide +kernel, rfl, by decide +kernel, by decide +kernel⟩
theorem pl__law_low : Pl "_law_low" s__law_low ["up", "down"] := fun _ _ _ _ _ _ us hl => match us, hl with | [_, _], _ => rfl
abbrev s__law_plus : Stmt := topS 38
theorem sc__law_plus : FnScope ["one", "other"] ["one", "other"] (defScope s__law_plus) := ⟨rfl, rfl, rfl, by decide +kernel, rfl, by decide +kernel, by decide +kernel⟩
theorem pl__law_plus : Pl "_law_plus" s__law_plus ["one", "other"] := fun _ _ _ _ _ _ us hl => match us, hl with | [_, _], _ => rfl
abbrev s__law_times : Stmt := topS 39
theorem sc__law_times : FnScope ["one", "other"] ["one", "other"] (defScope s__law_times) := ⟨rfl, rfl, rfl, by decide +kernel, rfl, by decide +kernel, by decide +kernel⟩
theorem pl__law_times : Pl "_law_times" s__law_times ["one", "other"] := fun _ _ _ _ _ _ us hl => match us, hl with | [_, _], _ => rfl
abbrev s__law_fraction : Stmt := topS 40
theorem sc__law_fraction : FnScope ["ropewalk", "up", "down"] ["ropewalk"] (defScope s__law_fraction) := ⟨rfl, rfl, rfl, by decide +kernel, rfl, by decide +kernel, by decide +kernel⟩
theorem pl__law_fraction : Pl "_law_fraction" s__law_fraction ["ropewalk"] := fun _ _ _ _ _ _ us hl => match us, hl with | [_], _ => rfl
abbrev s__law_as : Stmt := topS 41
theorem sc__law_as : FnScope ["ropewalk", "number", "by"] ["ropewalk", "number"] (defScope s__law_as) := ⟨rfl, rfl, rfl, by decide +kernel, rfl, by decide +kernel, by decide +kernel⟩
theorem pl__law_as : Pl "_law_as" s__law_as ["ropewalk", "number"] := fun _ _ _ _ _ _ us hl => match us, hl with | [_, _], _ => rfl
abbrev s__law_trimmed : Stmt := topS 42
theorem sc__law_trimmed : FnScope ["row", "many"] ["row"] (defScope s__law_trimmed) := ⟨rfl, rfl, rfl, by decide +kernel, rfl, by decide +kernel, by decide +kernel⟩
theorem pl__law_trimmed : Pl "_law_trimmed" s__law_trimmed ["row"] := fun _ _ _ _ _ _ us hl => match us, hl with | [_], _ => rfl
abbrev s__law_value : Stmt := topS 43
theorem sc__law_value : FnScope ["row", "at", "found", "power", "number"] ["row", "at"] (defScope s__law_value) := ⟨rfl, rfl, rfl, by decide +kernel, rfl, by decide +kernel, by decide +kernel⟩
theorem pl__law_value : Pl "_law_value" s__law_value ["row", "at"] := fun _ _ _ _ _ _ us hl => match us, hl with | [_, _], _ => rfl
abbrev s__law_row : Stmt := topS 44
theorem sc__law_row : FnScope ["ropewalk", "most", "at"] ["ropewalk", "most"] (defScope s__law_row) := ⟨rfl, rfl, rfl, by decide +kernel, rfl, by decide +kernel, by decide +kernel⟩
theorem pl__law_row : Pl "_law_row" s__law_row ["ropewalk", "most"] := fun _ _ _ _ _ _ us hl => match us, hl with | [_, _], _ => rfl
abbrev s__law_sum : Stmt := topS 45
theorem sc__law_sum : FnScope ["one", "other", "found", "at", "its"] ["one", "other"] (defScope s__law_sum) := ⟨rfl, rfl, rfl, by decide +kernel, rfl, by decide +kernel, by decide +kernel⟩
theorem pl__law_sum : Pl "_law_sum" s__law_sum ["one", "other"] := fun _ _ _ _ _ _ us hl => match us, hl with | [_, _], _ => rfl
abbrev s__law_ats : Stmt := topS 46
theorem sc__law_ats : FnScope ["ropewalk", "many", "found", "turn", "at"] ["ropewalk", "many"] (defScope s__law_ats) := ⟨rfl, rfl, rfl, by decide +kernel, rfl, by decide +kernel, by decide +kernel⟩
theorem pl__law_ats : Pl "_law_ats" s__law_ats ["ropewalk", "many"] := fun _ _ _ _ _ _ us hl => match us, hl with | [_, _], _ => rfl
abbrev s__law_stirred : Stmt := topS 47
theorem sc__law_stirred : FnScope ["ropewalk", "some", "left", "found"] ["ropewalk", "some"] (defScope s__law_stirred) := ⟨rfl, rfl, rfl, by decide +kernel, rfl, by decide +kernel, by decide +kernel⟩
theorem pl__law_stirred : Pl "_law_stirred" s__law_stirred ["ropewalk", "some"] := fun _ _ _ _ _ _ us hl => match us, hl with | [_, _], _ => rfl
abbrev s__law_points : Stmt := topS 48
theorem sc__law_points : FnScope ["ropewalk", "ats", "values", "found", "at", "value", "pair"] ["ropewalk", "ats", "values"] (defScope s__law_points) := ⟨rfl, rfl, rfl, by decide +kernel, rfl, by decide +kernel, by decide +kernel⟩
theorem pl__law_points : Pl "_law_points" s__law_points ["ropewalk", "ats", "values"] := fun _ _ _ _ _ _ us hl => match us, hl with | [_, _, _], _ => rfl
abbrev s_law : Stmt := topS 49
theorem sc_law : FnScope ["script", "ropewalk", "turn", "ats", "values", "row", "told", "both", "at", "value"] ["script"] (defScope s_law) := ⟨rfl, rfl, rfl, by decide +kernel, rfl, by decide +kernel, by decide +kernel⟩
theorem pl_law : Pl "law" s_law ["script"] := fun _ _ _ _ _ _ us hl => match us, hl with | [_], _ => rfl
theorem pk_poly_through : Pk "poly_through" s_poly_through ["points"] ["points"] List.reverse := fun _ _ _ _ _ _ us hl => match us, hl with | [_], _ => rfl
structure Tx (c : Cn) : Prop where
  n_abs : c.mg "abs" = none
  n_all : c.mg "all" = none
  n_bool : c.mg "bool" = none
  n_enumerate : c.mg "enumerate" = none
  n_int : c.mg "int" = none
  n_isinstance : c.mg "isinstance" = none
  n_len : c.mg "len" = none
  n_list : c.mg "list" = none
  n_max : c.mg "max" = none
  n_range : c.mg "range" = none
  n_repr : c.mg "repr" = none
  n_reversed : c.mg "reversed" = none
  n_set : c.mg "set" = none
  n_sum : c.mg "sum" = none
  n_tuple : c.mg "tuple" = none
  n_zip : c.mg "zip" = none
  d_is_integer : De c "is_integer" s_is_integer
  d_is_within : De c "is_within" s_is_within
  d_is_list : De c "is_list" s_is_list
  d_is_fraction : De c "is_fraction" s_is_fraction
  d_is_place : De c "is_place" s_is_place
  d_reduced : De c "reduced" s_reduced
  d_read_fraction : De c "read_fraction" s_read_fraction
  d_over_one_down : De c "over_one_down" s_over_one_down
  d_fraction_of : De c "fraction_of" s_fraction_of
  d_added : De c "added" s_added
  d_multiplied : De c "multiplied" s_multiplied
  d_divided : De c "divided" s_divided
  d_trimmed : De c "trimmed" s_trimmed
  d_is_poly : De c "is_poly" s_is_poly
  d_read_poly : De c "read_poly" s_read_poly
  d_value_at : De c "value_at" s_value_at
  d_poly_sum : De c "poly_sum" s_poly_sum
  d_read_points : De c "read_points" s_read_points
  d_times_factor : De c "times_factor" s_times_factor
  d_without_factor : De c "without_factor" s_without_factor
  d_share_at : De c "share_at" s_share_at
  d_poly_through : De c "poly_through" s_poly_through
  d__law_ropewalk : De c "_law_ropewalk" s__law_ropewalk
  d__law_knot : De c "_law_knot" s__law_knot
  d__law_pick : De c "_law_pick" s__law_pick
  d__law_low : De c "_law_low" s__law_low
  d__law_plus : De c "_law_plus" s__law_plus
  d__law_times : De c "_law_times" s__law_times
  d__law_fraction : De c "_law_fraction" s__law_fraction
  d__law_as : De c "_law_as" s__law_as
  d__law_trimmed : De c "_law_trimmed" s__law_trimmed
  d__law_value : De c "_law_value" s__law_value
  d__law_row : De c "_law_row" s__law_row
  d__law_sum : De c "_law_sum" s__law_sum
  d__law_ats : De c "_law_ats" s__law_ats
  d__law_stirred : De c "_law_stirred" s__law_stirred
  d__law_points : De c "_law_points" s__law_points
  d_law : De c "law" s_law
  c_MOST_NUMBERS : ∃ t, c.mg "MOST_NUMBERS" = some (.int 80 t)
  c_MOST_POINTS : ∃ t, c.mg "MOST_POINTS" = some (.int 40 t)
  m_lcm : c.mg "lcm" = some (.builtin "math.lcm")
  m_gcd : c.mg "gcd" = some (.builtin "math.gcd")

def sp_iswth (K : PySem.W.Frag) : Sp := fun vs H Q _ => ∃ q v d l m, vs = [v, bdV l, bdV m] ∧ Dq q K H v d ∧ Q (.bl (wthD d l m)) H
def sp_islist (K : PySem.W.Frag) : Sp := fun vs H Q _ => ∃ q v d, vs = [v] ∧ Dq q K H v d ∧ Q (.bl (isSeqD d)) H
def sp_isfr (K : PySem.W.Frag) : Sp := fun vs H Q _ => ∃ q v d, vs = [v] ∧ Dq q K H v d ∧ Q (.bl (isFrD d)) H
def sp_ispl (K : PySem.W.Frag) : Sp := fun vs H Q _ => ∃ q v d, vs = [v] ∧ Dq q K H v d ∧ Q (.bl (isPlD d)) H
def sp_isint (K : PySem.W.Frag) : Sp := fun vs H Q _ => ∃ q v d, vs = [v] ∧ Dq q K H v d ∧ Q (.bl (isIntD d)) H
theorem ok_is_integer (c : Cn) (T : Tx c) : Cl c 1 "is_integer" s_is_integer ["value"] (sp_isint c.K) := by
  obtain ⟨P, w, K, mg, base⟩ := c
  refine De.cl (N := ["value"]) T.d_is_integer sc_is_integer (fun vs H Q E h => ?_) (fun f0 cdv A outer s H vs Q E hA hr h => ?_)
  · obtain ⟨q, v, d, rfl, _⟩ := h; rfl
  · have S := sc_is_integer
    obtain ⟨q, v, d, rfl, hd, k⟩ := h
    refine ⟨_, (pss_one (ps_ret (pe_and (pe_callB call_isi (by rfl) T.n_isinstance (show bootBuiltins "isinstance" = some (.builtin "isinstance") by decide +kernel) (pa_cons (pv 0) (pa_cons (pe_bltn (v := .ty "int") (by rfl) T.n_int (show bootBuiltins "int" = some (.type "int") by decide +kernel) rfl) pa_nil))) (pe_one (pe_not (pe_callB call_isi (by rfl) T.n_isinstance (show bootBuiltins "isinstance" = some (.builtin "isinstance") by decide +kernel) (pa_cons (pv 0) (pa_cons (pe_bltn (v := .ty "bool") (by rfl) T.n_bool (show bootBuiltins "bool" = some (.type "bool") by decide +kernel) rfl) pa_nil)))))))), ?_⟩
    walk_at "mf"
    refine g_isiI hd ?_
    walk_at "mf"
    refine g_ite (fun h => ?_) (fun h => ?_)
    · walk_at "mf"
      refine g_isiB hd ?_
      walk_at "mf"
      rw [show isIntD d = !isBoolD d by cases d <;> first | rfl | cases h] at k
      exact k
    · rw [show isIntD d = false by cases d <;> first | rfl | cases h] at k
      exact k
theorem ok_is_within (c : Cn) (T : Tx c) : Cl c 2 "is_within" s_is_within ["value", "least", "most"] (sp_iswth c.K) := by
  obtain ⟨P, w, K, mg, base⟩ := c
  have C_is_integer := ok_is_integer _ T
  refine De.cl (N := ["value", "least", "most"]) T.d_is_within sc_is_within (fun vs H Q E h => ?_) (fun f0 cdv A outer s H vs Q E hA hr h => ?_)
  · obtain ⟨q, v, d, l, m, rfl, _⟩ := h; rfl
  · have S := sc_is_within
    obtain ⟨q, v, d, l, m, rfl, hd, k⟩ := h
    refine ⟨_, (pss_cons (ps_if (pt_not (pt_val (pe_f C_is_integer hA hr (by decide) pl_is_integer (by rfl) (pa_cons (pv 0) pa_nil)))) (pss_one (ps_ret pe_bl)) pss_nil)
      (pss_one (ps_ret (pe_and (pe_or (pe_cmpR op_isNU (pv 1) pe_non (nomark _)) (pe_one (pe_cmpR op_ge (pv 0) (pv 1) (nomark _)))) (pe_one (pe_or (pe_cmpR op_isNU (pv 2) pe_non (nomark _)) (pe_one (pe_cmpR op_le (pv 0) (pv 2) (nomark _))))))))), ?_⟩
    walk_at "mf"
    refine ⟨q, v, d, rfl, hd, ?_⟩
    walk_at "mf"
    refine g_ite (fun h => ?_) (fun h => ?_)
    · have e : isIntD d = false := by simpa using h
      walk_at "mf"
      rw [show wthD d l m = false by unfold wthD; rw [e]; rfl] at k
      exact k
    · have e : isIntD d = true := by simpa using h
      obtain ⟨rfl, hv⟩ := hd.int_of e
      rw [show wthD d l m = (loB l (valD d) && hiB m (valD d)) by unfold wthD; rw [e]; rfl] at k
      cases l with
      | none => cases m with
        | none =>
          dsimp only [bdV]
          walk_at "mf"
          exact k
        | some m =>
          dsimp only [bdV]
          walk_at "mf"
          exact k
      | some l => cases m with
        | none =>
          dsimp only [bdV]
          walk_at "mf"
          refine g_ite (fun h1 => ?_) (fun h1 => ?_)
          · walk_at "mf"
            rw [show loB (some l) (valD d) = true from h1] at k
            exact k
          · rw [show loB (some l) (valD d) = false from h1] at k
            exact k
        | some m =>
          dsimp only [bdV]
          walk_at "mf"
          refine g_ite (fun h1 => ?_) (fun h1 => ?_)
          · walk_at "mf"
            rw [show loB (some l) (valD d) = true from h1] at k
            exact k
          · rw [show loB (some l) (valD d) = false from h1] at k
            exact k
theorem ok_is_list (c : Cn) (T : Tx c) : Cl c 1 "is_list" s_is_list ["value"] (sp_islist c.K) := by
  obtain ⟨P, w, K, mg, base⟩ := c
  refine De.cl (N := ["value"]) T.d_is_list sc_is_list (fun vs H Q E h => ?_) (fun f0 cdv A outer s H vs Q E hA hr h => ?_)
  · obtain ⟨q, v, d, rfl, _⟩ := h; rfl
  · have S := sc_is_list
    obtain ⟨q, v, d, rfl, hd, k⟩ := h
    refine ⟨_, (pss_one (ps_ret (pe_isSeq (by rfl) T.n_isinstance (by rfl) T.n_list (by rfl) T.n_tuple (pv 0)))), ?_⟩
    walk_at "mf"
    exact g_seqQ hd k
theorem ok_is_fraction (c : Cn) (T : Tx c) : Cl c 3 "is_fraction" s_is_fraction ["value"] (sp_isfr c.K) := by
  obtain ⟨P, w, K, mg, base⟩ := c
  have C_is_integer := ok_is_integer _ T
  have C_is_list := ok_is_list _ T
  have C_is_within := ok_is_within _ T
  refine De.cl (N := ["value"]) T.d_is_fraction sc_is_fraction (fun vs H Q E h => ?_) (fun f0 cdv A outer s H vs Q E hA hr h => ?_)
  · obtain ⟨q, v, d, rfl, _⟩ := h; rfl
  · have S := sc_is_fraction
    obtain ⟨q, v, d, rfl, hd, k⟩ := h
    refine ⟨_, (pss_cons (ps_if (pt_val (pe_f C_is_integer hA hr (by decide) pl_is_integer (by rfl) (pa_cons (pv 0) pa_nil))) (pss_one (ps_ret pe_bl)) pss_nil)
      (pss_cons (ps_if (PW.pt (pw_or (pt_not (pt_val (pe_f C_is_list hA hr (by decide) pl_is_list (by rfl) (pa_cons (pv 0) pa_nil)))) (pw_or1 (pt_cmpR (show OpR _ (compareOp .NotEq) (rNeU K) from op_neU (by exact hr.units)) (pe_callB call_lenU (by rfl) T.n_len PySem.boot_len (pa_cons (pv 0) pa_nil)) pe_int (nomark _))))) (pss_one (ps_ret pe_bl)) pss_nil)
      (pss_one (ps_ret (pe_and (pe_f C_is_integer hA hr (by decide) pl_is_integer (by rfl) (pa_cons (pe_ix ix_seq (pv 0) pe_int (fun _ _ => rfl)) pa_nil)) (pe_one (pe_f C_is_within hA hr (by decide) pl_is_within (by rfl) (pa_cons (pe_ix ix_seq (pv 0) pe_int (fun _ _ => rfl)) (pa_cons pe_int (pa_cons pe_non pa_nil)))))))))), ?_⟩
    walk_at "mf"
    refine ⟨q, v, d, rfl, hd, ?_⟩
    walk_at "mf"
    refine g_ite (fun h1 => ?_) (fun h1 => ?_)
    · walk_at "mf"
      rw [frD_int h1] at k
      exact k
    · walk_at "mf"
      refine ⟨q, v, d, rfl, hd, ?_⟩
      walk_at "mf"
      refine g_ite (fun h2 => ?_) (fun h2 => ?_)
      · walk_at "mf"
        rw [frD_no h1 (by simpa using h2)] at k
        exact k
      · obtain ⟨a, xs, ds, rfl, na, hs, hall, ed⟩ := hd.seq (by simpa using h2)
        walk_at "mf"
        refine g_len hs ?_
        walk_at "mf"
        refine g_ite (fun h3 => ?_) (fun h3 => ?_)
        · walk_at "mf"
          rw [(frD_two ed (by rw [← hall.len]; simp at h3; omega)).1] at k
          exact k
        · obtain ⟨x, y, dx, dy, rfl, rfl, hx, hy⟩ := two_of hall (by simp at h3; omega)
          rw [(frD_of ed).1] at k
          walk_at "mf"
          refine g_ix hs rfl ?_
          walk_at "mf"
          refine ⟨q, x, dx, rfl, hx, ?_⟩
          walk_at "mf"
          refine g_ite (fun h4 => ?_) (fun h4 => ?_)
          · walk_at "mf"
            refine g_ix hs rfl ?_
            walk_at "mf"
            refine ⟨q, y, dy, some 1, none, rfl, hy, ?_⟩
            rw [h4, Bool.true_and, posD_eq] at k
            exact k
          · rw [h4] at k
            exact k
theorem ok_is_place (c : Cn) (T : Tx c) : Cl c 4 "is_place" s_is_place ["value"] (sp_ispl c.K) := by
  obtain ⟨P, w, K, mg, base⟩ := c
  have C_is_fraction := ok_is_fraction _ T
  have C_is_list := ok_is_list _ T
  refine De.cl (N := ["value"]) T.d_is_place sc_is_place (fun vs H Q E h => ?_) (fun f0 cdv A outer s H vs Q E hA hr h => ?_)
  · obtain ⟨q, v, d, rfl, _⟩ := h; rfl
  · have S := sc_is_place
    obtain ⟨q, v, d, rfl, hd, k⟩ := h
    refine ⟨_, (pss_cons (ps_if (PW.pt (pw_or (pt_not (pt_val (pe_f C_is_list hA hr (by decide) pl_is_list (by rfl) (pa_cons (pv 0) pa_nil)))) (pw_or1 (pt_cmpR (show OpR _ (compareOp .NotEq) (rNeU K) from op_neU (by exact hr.units)) (pe_callB call_lenU (by rfl) T.n_len PySem.boot_len (pa_cons (pv 0) pa_nil)) pe_int (nomark _))))) (pss_one (ps_ret pe_bl)) pss_nil)
      (pss_one (ps_ret (pe_and (pe_f C_is_fraction hA hr (by decide) pl_is_fraction (by rfl) (pa_cons (pe_ix ix_seq (pv 0) pe_int (fun _ _ => rfl)) pa_nil)) (pe_one (pe_f C_is_fraction hA hr (by decide) pl_is_fraction (by rfl) (pa_cons (pe_ix ix_seq (pv 0) pe_int (fun _ _ => rfl)) pa_nil))))))), ?_⟩
    walk_at "mf"
    refine ⟨q, v, d, rfl, hd, ?_⟩
    walk_at "mf"
    refine g_ite (fun h2 => ?_) (fun h2 => ?_)
    · walk_at "mf"
      rw [plD_no (by simpa using h2)] at k
      exact k
    · obtain ⟨a, xs, ds, rfl, na, hs, hall, ed⟩ := hd.seq (by simpa using h2)
      walk_at "mf"
      refine g_len hs ?_
      walk_at "mf"
      refine g_ite (fun h3 => ?_) (fun h3 => ?_)
      · walk_at "mf"
        rw [(frD_two ed (by rw [← hall.len]; simp at h3; omega)).2] at k
        exact k
      · obtain ⟨x, y, dx, dy, rfl, rfl, hx, hy⟩ := two_of hall (by simp at h3; omega)
        rw [(frD_of ed).2] at k
        walk_at "mf"
        refine g_ix hs rfl ?_
        walk_at "mf"
        refine ⟨q, x, dx, rfl, hx, ?_⟩
        walk_at "mf"
        refine g_ite (fun h4 => ?_) (fun h4 => ?_)
        · walk_at "mf"
          refine g_ix hs rfl ?_
          walk_at "mf"
          refine ⟨q, y, dy, rfl, hy, ?_⟩
          rw [h4] at k
          exact k
        · rw [h4] at k
          exact k
end Mf
namespace Mf
open PySem PySem.Spec PyProof.Rows L2
local macro_rules | `(tactic| walk_at "mf1") => `(tactic| first
  | ((with_reducible apply g_var); exact rfl)
  | with_reducible first
    | refine g_c ?_ | refine g_op ?_ | refine g_un ?_ | refine g_cb ?_ | refine g_cl ?_ | refine g_clk ?_ | refine g_nil ?_ | refine g_cons ?_
    | refine g_tB ?_ | refine g_test ?_ | refine g_bl ?_ | refine g_and ?_ | refine g_or ?_ | refine g_not ?_ | refine g_andV ?_ | refine g_orV ?_ | refine g_notV ?_
    | refine g_if ?_ | refine g_ifS ?_ | refine g_seq ?_ | refine g_next ?_ | refine g_ret ?_ | refine g_drop ?_ | refine g_asg ?_ | refine g_name ?_ | refine g_sub ?_
    | refine g_int ?_ | refine g_intB ?_ | refine g_abs ?_ | refine g_I0 ?_ | refine g_addI ?_ | refine g_U ?_ | refine g_isNn ?_ | refine g_isNi ?_ | refine g_notN ?_ | refine g_notT1 ?_ | refine g_notT2 ?_ | refine g_notT3 ?_ | refine g_notT4 ?_ | refine g_notTb ?_ | refine g_notTi ?_ | refine g_eqI ?_ | refine g_neI ?_ | refine g_neSs ?_ | refine g_neS ?_ | refine g_eqS ?_
    | refine g_iteT ?_ | refine g_iteF ?_ | refine g_iteNT ?_ | refine g_iteNF ?_ | refine g_lst ?_ | refine g_tup ?_ | refine g_seqP ?_ | refine g_sl ?_ | refine g_noPart ?_ | refine g_part ?_ | refine g_yes ?_ | refine g_thenT ?_ | refine g_consG ?_ | refine g_nilG ?_ | refine g_ii ?_ | refine g_par ?_ | refine g_par3 ?_ | refine g_vv ?_ | refine g_vvv ?_ | refine g_reprB ?_ | refine g_lcL ?_ | refine g_lcR ?_
  | ((with_reducible refine g_mod ?_ ?_); (first | omega | decide))
  | ((with_reducible refine g_div ?_ ?_ ?_); (first | omega | decide); (first | assumption | decide))
  | ((with_reducible refine g_mulL ?_ ?_ ?_); (first | omega | decide); (first | omega | decide))
  | ((with_reducible refine g_mulR ?_ ?_ ?_); (first | omega | decide); (first | omega | decide))
  | ((with_reducible refine g_pow ?_ ?_ ?_ ?_); decide; decide; (first | omega | decide))
  | dsimp only)
local macro_rules | `(tactic| walk_at "mf1s") => `(tactic| first
  | ((with_reducible apply g_var); exact rfl)
  | with_reducible first
    | refine g_c ?_ | refine g_op ?_ | refine g_un ?_ | refine g_cb ?_ | refine g_cl ?_ | refine g_clk ?_ | refine g_nil ?_ | refine g_cons ?_
    | refine g_tB ?_ | refine g_test ?_ | refine g_bl ?_ | refine g_and ?_ | refine g_or ?_ | refine g_not ?_ | refine g_andV ?_ | refine g_orV ?_ | refine g_notV ?_
    | refine g_if ?_ | refine g_ifS ?_ | refine g_next ?_ | refine g_ret ?_ | refine g_drop ?_ | refine g_asg ?_ | refine g_name ?_ | refine g_sub ?_
    | refine g_int ?_ | refine g_intB ?_ | refine g_abs ?_ | refine g_I0 ?_ | refine g_addI ?_ | refine g_U ?_ | refine g_isNn ?_ | refine g_isNi ?_ | refine g_notN ?_ | refine g_notT1 ?_ | refine g_notT2 ?_ | refine g_notT3 ?_ | refine g_notT4 ?_ | refine g_notTb ?_ | refine g_notTi ?_ | refine g_eqI ?_ | refine g_neI ?_ | refine g_neSs ?_ | refine g_neS ?_ | refine g_eqS ?_
    | refine g_iteT ?_ | refine g_iteF ?_ | refine g_iteNT ?_ | refine g_iteNF ?_ | refine g_lst ?_ | refine g_tup ?_ | refine g_seqP ?_ | refine g_sl ?_ | refine g_noPart ?_ | refine g_part ?_ | refine g_yes ?_ | refine g_thenT ?_ | refine g_consG ?_ | refine g_nilG ?_ | refine g_ii ?_ | refine g_par ?_ | refine g_par3 ?_ | refine g_vv ?_ | refine g_vvv ?_ | refine g_reprB ?_ | refine g_lcL ?_ | refine g_lcR ?_
  | ((with_reducible refine g_mod ?_ ?_); (first | omega | decide))
  | ((with_reducible refine g_div ?_ ?_ ?_); (first | omega | decide); (first | assumption | decide))
  | ((with_reducible refine g_mulL ?_ ?_ ?_); (first | omega | decide); (first | omega | decide))
  | ((with_reducible refine g_mulR ?_ ?_ ?_); (first | omega | decide); (first | omega | decide))
  | ((with_reducible refine g_pow ?_ ?_ ?_ ?_); decide; decide; (first | omega | decide))
  | dsimp only)
local macro_rules | `(tactic| walk_at "mfs") => `(tactic| repeat walk_at "mf1s")
local macro_rules | `(tactic| walk_at "mf") => `(tactic| repeat walk_at "mf1")
local macro_rules | `(tactic| walk_at "ed") => `(tactic| repeat (first
  | with_reducible first
    | exact eds_nil | apply eds_cons | exact ed_int | exact ed_bl | exact ed_non | apply ed_neg
  | ((with_reducible apply ed_str); decide)
  | ((with_reducible apply ed_var); (exact rfl); (first | assumption | exact Dq.int _))
  | ((with_reducible apply ed_dict0); assumption)
  | ((with_reducible apply ed_dict2); assumption)
  | ((with_reducible apply ed_tup); assumption)
  | ((with_reducible apply ed_lst); assumption)
  | (with_reducible apply ed_pow)
  | (with_reducible apply ed_mul)
  | assumption
  | (exact Dq.int _)
  | (exact ⟨by decide, by decide, by decide⟩)
  | (show List.length _ ≤ 1000; simp only [List.length_cons, List.length_nil]; decide)))
theorem ok__law_ropewalk (c : Cn) (T : Tx c) : Cl c 1 "_law_ropewalk" s__law_ropewalk ["script"] (sp_quay c.K) := by
  obtain ⟨P, w, K, mg, base⟩ := c
  refine De.cl (N := ["script", "cell"]) T.d__law_ropewalk sc__law_ropewalk (fun vs H Q E h => ?_) (fun f0 cdv A outer s H vs Q E hA hr h => ?_)
  · obtain ⟨a, ns, rfl, _⟩ := h; rfl
  · have S := sc__law_ropewalk
    obtain ⟨a, ns, rfl, hS, hlen, k⟩ := h
    refine ⟨_, (pss_one (ps_ret (pe_lst (pa_cons (pe_lc (own := [("cell", 1)]) (g := gName 1) (tt := tYes) rfl S.nd (pi_list (pe_slice sl_list (pv 0) po_none (po_some pe_int))) (blkOk_by (N := ["script", "cell"]) (sc := defScope s__law_ropewalk) (by decide +kernel)) (fun _ _ _ _ _ => pg_name (i := 1) S.nd rfl (Or.inl rfl)) (fun _ _ _ _ _ => pts_nil) (fun _ _ _ _ _ => (pe_callTy call_intU (by rfl) T.n_int PyProof.Rows.boot_int (pa_cons (pv 1) pa_nil)))) (pa_cons pe_int (pa_cons pe_int pa_nil)))))), ?_⟩
    walk_at "mf"
    refine g_slL hS fun p H1 hp s1 e1 => ?_
    obtain ⟨ms, em, lm⟩ := cut_ints ns none (some 60)
    walk_at "mf"
    rw [em] at e1
    refine ⟨p, rfl, ⟨_, seqU e1⟩, ?_⟩
    refine lcgo_list (xs := ms.map V.int) (fun D i H' => Same H1 H' ∧ H' D = some (.lst ((ms.take i).map V.int))) (fun x => rfl) (fun D hD => ⟨same_new hD, upd_same⟩) (fun D i H' _ h => seqU (h.1 _ _ e1)) (fun D i x H' hD ex h => ?_) (fun D H' hD h => ?_)
    · obtain ⟨h1, h2⟩ := h
      rw [List.getElem?_map] at ex
      obtain ⟨z, ez, rfl⟩ := Option.map_eq_some_iff.mp ex
      walk_at "mf"
      have hi := (List.getElem?_eq_some_iff.mp ez).1
      refine ⟨_, h2, ?_, ?_, ?_⟩
      · rw [List.length_map, List.length_take]
        exact small1000 (by omega)
      · intro b o e
        rw [upd_ne (ne_of_none e hD)]
        exact h1 b o e
      · rw [upd_same, List.take_add_one, ez, List.map_append]
        rfl
    · obtain ⟨h1, h2⟩ := h
      rw [List.length_map, List.take_length] at h2
      walk_at "mf"
      refine g_newL (by show 3 ≤ sizeLine; decide) fun q H2 hq s2 e2 => ?_
      have hDq : D ≠ q := ne_of_none h2 hq
      refine k q H2 ((s1.trans h1).trans s2) ((s1.trans h1).free hq) ⟨D, ms, 0, e2, s2 _ _ h2, hDq, by omega, by omega, by omega⟩
theorem ok__law_knot (c : Cn) (T : Tx c) : Cl c 1 "_law_knot" s__law_knot ["ropewalk", "many"] (sp_moor c.K) := by
  obtain ⟨P, w, K, mg, base⟩ := c
  refine De.cl (N := ["ropewalk", "many", "left", "turn", "cell", "mixed"]) T.d__law_knot sc__law_knot (fun vs H Q E h => ?_) (fun f0 cdv A outer s H vs Q E hA hr h => ?_)
  · obtain ⟨q, t, n, rfl, _⟩ := h; rfl
  · have S := sc__law_knot
    obtain ⟨q, t, n, rfl, hq, ht, hn, hn9, k⟩ := h
    refine ⟨_, (pss_cons (ps_if (pt_cmpR op_gt (pe_ix ix_seq (pv 0) pe_int (fun _ _ => rfl)) pe_int (nomark _)) (pss_cons (ps_set (i := 2) S.nd rfl (by first | exact .inl rfl | exact .inr rfl) (pe_callTy call_intU (by rfl) T.n_int PyProof.Rows.boot_int (pa_cons (pe_ix ix_seq (pv 0) pe_int (fun _ _ => rfl)) pa_nil)))
      (pss_cons (ps_asg (pe_op op_fdivW (pv 2) (pv 1)) (pg_sub (pv 0) pe_int set_list))
      (pss_one (ps_ret (pe_op op_mod (pe_callTy call_intU (by rfl) T.n_int PyProof.Rows.boot_int (pa_cons (pv 2) pa_nil)) (pv 1)))))) pss_nil)
      (pss_cons (ps_set (i := 3) S.nd rfl (by first | exact .inl rfl | exact .inr rfl) (pe_ix ix_seq (pv 0) pe_int (fun _ _ => rfl)))
      (pss_cons (ps_asg (pe_op op_addU (pv 3) pe_int) (pg_sub (pv 0) pe_int set_list))
      (pss_cons (ps_set (i := 4) S.nd rfl (by first | exact .inl rfl | exact .inr rfl) (pe_op op_addU (pe_op op_mulU pe_int (pv 3)) pe_int))
      (pss_cons (ps_if (pt_cmpR (show OpR _ (compareOp .NotEq) (rNeU K) from op_neU (by exact hr.units)) (pe_ix ix_seq (pv 0) pe_int (fun _ _ => rfl)) (pe_lst pa_nil) (nomark _)) (pss_one (ps_set (i := 4) S.nd rfl (by first | exact .inl rfl | exact .inr rfl) (pe_ix ix_seq (pe_ix ix_seq (pv 0) pe_int (fun _ _ => rfl)) (pe_op op_mod (pe_callTy call_intU (by rfl) T.n_int PyProof.Rows.boot_int (pa_cons (pv 3) pa_nil)) (pe_callB call_lenU (by rfl) T.n_len PySem.boot_len (pa_cons (pe_ix ix_seq (pv 0) pe_int (fun _ _ => rfl)) pa_nil))) (fun _ _ => rfl)))) pss_nil)
      (pss_cons (ps_if (PW.pt (pw_and (pt_cmpR op_lt (pv 3) (pe_callB call_lenU (by rfl) T.n_len PySem.boot_len (pa_cons (pe_ix ix_seq (pv 0) pe_int (fun _ _ => rfl)) pa_nil)) (nomark _)) (pw_and1 (pt_cmpR op_ge (pe_callB call_absU (by rfl) T.n_abs (show bootBuiltins "abs" = some (.builtin "abs") by decide +kernel) (pa_cons (pv 4) pa_nil)) (pe_op op_pow pe_int pe_int) (nomark _))))) (pss_cons (ps_set (i := 2) S.nd rfl (by first | exact .inl rfl | exact .inr rfl) (pe_op op_addU (pe_op op_mulU pe_int (pe_op op_sub (pe_callB call_absU (by rfl) T.n_abs (show bootBuiltins "abs" = some (.builtin "abs") by decide +kernel) (pa_cons (pe_callTy call_intU (by rfl) T.n_int PyProof.Rows.boot_int (pa_cons (pv 4) pa_nil)) pa_nil)) (pe_op op_pow pe_int pe_int))) (pe_callTy call_intU (by rfl) T.n_int PyProof.Rows.boot_int (pa_cons (pe_cmpR op_lt (pv 4) pe_int (nomark _)) pa_nil))))
      (pss_cons (ps_asg (pe_op op_fdivW (pv 2) (pv 1)) (pg_sub (pv 0) pe_int set_list))
      (pss_one (ps_ret (pe_op op_mod (pe_callTy call_intU (by rfl) T.n_int PyProof.Rows.boot_int (pa_cons (pv 2) pa_nil)) (pv 1)))))) pss_nil)
      (pss_cons (ps_set (i := 5) S.nd rfl (by first | exact .inl rfl | exact .inr rfl) (pe_op op_mod (pe_callTy call_intU (by rfl) T.n_int PyProof.Rows.boot_int (pa_cons (pe_op op_pow (pe_op op_addU (pe_op op_addU (pe_op op_mod (pe_callTy call_intU (by rfl) T.n_int PyProof.Rows.boot_int (pa_cons (pv 4) pa_nil)) pe_int) (pe_op op_mulU pe_int (pv 3))) pe_int) pe_int) pa_nil)) pe_int))
      (pss_cons (ps_set (i := 5) S.nd rfl (by first | exact .inl rfl | exact .inr rfl) (pe_op op_mod (pe_callTy call_intU (by rfl) T.n_int PyProof.Rows.boot_int (pa_cons (pe_op op_pow (pe_op op_addU (pe_op op_addU (pe_op op_mulU (pv 5) (pe_op op_addU (pe_op op_mulU pe_int (pv 3)) pe_int)) (pe_op op_mulU (pe_op op_mulU pe_int (pv 3)) (pv 3))) pe_int) pe_int) pa_nil)) pe_int))
      (pss_one (ps_ret (pe_op op_mod (pe_callTy call_intU (by rfl) T.n_int PyProof.Rows.boot_int (pa_cons (pe_op op_fdivW (pv 5) pe_int) pa_nil)) (pv 1)))))))))))), ?_⟩
    obtain ⟨c, ns, r, eq, hc, ncq, hns, hr0, ht0⟩ := hq
    walk_at "mf"
    refine g_ix (.inl (seqU eq)) (v := .int r) rfl ?_
    walk_at "mf"
    refine g_ite (fun h => ?_) (fun h => ?_)
    · walk_at "mf"
      refine g_ix (.inl (seqU eq)) (v := .int r) rfl ?_
      walk_at "mf"
      refine g_setL eq (j := 2) rfl ?_
      walk_at "mf"
      exact k t _ _ (upd_x eq) ⟨c, ns, _, upd_same, (upd_x eq).kept _ _ ncq hc, ncq, hns, Int.ediv_nonneg hr0 (by omega), ht0⟩ (by omega) (by omega) (Int.emod_nonneg _ (by omega)) (Int.emod_lt_of_pos _ hn)
    · walk_at "mf"
      refine g_ix (.inl (seqU eq)) (v := .int t) rfl ?_
      walk_at "mf"
      refine g_setL eq (j := 1) rfl ?_
      have eq1 : (upd H q (.lst [.ref c, .int (t + 1), .int r])) q = some (.lst [.ref c, .int (t + 1), .int r]) := upd_same
      have hc1 : (upd H q (.lst [.ref c, .int (t + 1), .int r])) c = some (.lst (ns.map V.int)) := (upd_x eq).kept _ _ ncq hc
      have sx1 : SameX q H (upd H q (.lst [.ref c, .int (t + 1), .int r])) := upd_x eq
      have es : [V.ref c, .int t, .int r].set 1 (.int (t + 1)) = [.ref c, .int (t + 1), .int r] := rfl
      rw [es]
      generalize upd H q (.lst [.ref c, .int (t + 1), .int r]) = Hb at *
      walk_at "mf"
      refine g_ix (.inl (seqU eq1)) (v := .ref c) rfl ?_
      walk_at "mf"
      refine g_newL (by show 0 ≤ sizeLine; decide) fun p H2 hp s2 e2 => ?_
      have eq2 := s2 _ _ eq1
      have hc2 := s2 _ _ hc1
      have sx := sx1.trans (Same.x s2)
      walk_at "mf"
      refine g_neNil (seqU hc2) (seqU e2) ?_
      walk_at "mf"
      refine g_ite (fun h2 => ?_) (fun h2 => ?_)
      · walk_at "mf"
        refine g_ix (.inl (seqU eq2)) (v := .ref c) rfl ?_
        walk_at "mf"
        refine g_ix (.inl (seqU eq2)) (v := .ref c) rfl ?_
        walk_at "mf"
        refine g_len (.inl (seqU hc2)) ?_
        have hpos : 0 < ((ns.map V.int).length : Int) := by
          cases ns with
          | nil => cases h2
          | cons z l => rw [List.map_cons, List.length_cons]; omega
        walk_at "mf"
        obtain ⟨z, ez⟩ : ∃ z, atI (ns.map V.int) (t % ((ns.map V.int).length : Int)) = some (.int z) := by
          have b1 := Int.emod_nonneg t (Int.ne_of_gt hpos)
          have b2 := Int.emod_lt_of_pos t hpos
          have b3 : (t % ((ns.map V.int).length : Int)).toNat < ns.length := by
            rw [List.length_map] at b1 b2 ⊢
            omega
          refine ⟨ns[(t % ((ns.map V.int).length : Int)).toNat], ?_⟩
          refine at_of (j := (t % ((ns.map V.int).length : Int)).toNat) (by omega) ?_
          rw [List.getElem?_map, List.getElem?_eq_getElem b3]
          rfl
        refine g_ix (.inl (seqU hc2)) ez ?_
        walk_at "mf"
        refine g_ix (.inl (seqU eq2)) (v := .ref c) rfl ?_
        walk_at "mf"
        refine g_len (.inl (seqU hc2)) ?_
        walk_at "mf"
        refine g_ite (fun h3 => ?_) (fun h3 => ?_)
        · walk_at "mf"
          refine g_ite (fun h4 => ?_) (fun h4 => ?_)
          · have h5 := of_decide_eq_true h4
            rw [show (10 : Int) ^ (18 : Int).toNat = 1000000000000000000 by decide] at h5
            walk_at "mf"
            refine g_setL eq2 (j := 2) rfl ?_
            walk_at "mf"
            rw [show (10 : Int) ^ (18 : Int).toNat = 1000000000000000000 by decide]
            exact k (t + 1) _ _ (sx.trans (upd_x eq2)) ⟨c, ns, _, upd_same, (upd_x eq2).kept _ _ ncq hc2, ncq, hns, Int.ediv_nonneg (by split <;> omega) (by omega), by omega⟩ (by omega) (by omega) (Int.emod_nonneg _ (by omega)) (Int.emod_lt_of_pos _ hn)
          · walk_at "mf"
            walk_at "mf"
            refine g_pow (by decide) (by decide) (stir_bd (Int.emod_nonneg _ (by decide)) (Int.lt_of_lt_of_le (Int.emod_lt_of_pos _ (by decide)) (by decide)) ht0 ht (by decide) (by decide) (by decide) (by decide) (by decide) (by decide)) ?_
            walk_at "mf"
            exact k (t + 1) _ _ sx ⟨c, ns, r, eq2, hc2, ncq, hns, hr0, by omega⟩ (by omega) (by omega) (Int.emod_nonneg _ (by omega)) (Int.emod_lt_of_pos _ hn)
        · walk_at "mf"
          walk_at "mf"
          refine g_pow (by decide) (by decide) (stir_bd (Int.emod_nonneg _ (by decide)) (Int.lt_of_lt_of_le (Int.emod_lt_of_pos _ (by decide)) (by decide)) ht0 ht (by decide) (by decide) (by decide) (by decide) (by decide) (by decide)) ?_
          walk_at "mf"
          exact k (t + 1) _ _ sx ⟨c, ns, r, eq2, hc2, ncq, hns, hr0, by omega⟩ (by omega) (by omega) (Int.emod_nonneg _ (by omega)) (Int.emod_lt_of_pos _ hn)
      · walk_at "mf"
        walk_at "mf"
        refine g_ix (.inl (seqU eq2)) (v := .ref c) rfl ?_
        walk_at "mf"
        refine g_len (.inl (seqU hc2)) ?_
        walk_at "mf"
        refine g_ite (fun h3 => ?_) (fun h3 => ?_)
        · walk_at "mf"
          refine g_ite (fun h4 => ?_) (fun h4 => ?_)
          · have h5 := of_decide_eq_true h4
            rw [show (10 : Int) ^ (18 : Int).toNat = 1000000000000000000 by decide] at h5
            walk_at "mf"
            refine g_setL eq2 (j := 2) rfl ?_
            walk_at "mf"
            rw [show (10 : Int) ^ (18 : Int).toNat = 1000000000000000000 by decide]
            exact k (t + 1) _ _ (sx.trans (upd_x eq2)) ⟨c, ns, _, upd_same, (upd_x eq2).kept _ _ ncq hc2, ncq, hns, Int.ediv_nonneg (by split <;> omega) (by omega), by omega⟩ (by omega) (by omega) (Int.emod_nonneg _ (by omega)) (Int.emod_lt_of_pos _ hn)
          · walk_at "mf"
            walk_at "mf"
            refine g_pow (by decide) (by decide) (stir_bd (Int.emod_nonneg _ (by decide)) (Int.lt_of_lt_of_le (Int.emod_lt_of_pos _ (by decide)) (by decide)) ht0 ht (by decide) (by decide) (by decide) (by decide) (by decide) (by decide)) ?_
            walk_at "mf"
            exact k (t + 1) _ _ sx ⟨c, ns, r, eq2, hc2, ncq, hns, hr0, by omega⟩ (by omega) (by omega) (Int.emod_nonneg _ (by omega)) (Int.emod_lt_of_pos _ hn)
        · walk_at "mf"
          walk_at "mf"
          refine g_pow (by decide) (by decide) (stir_bd (Int.emod_nonneg _ (by decide)) (Int.lt_of_lt_of_le (Int.emod_lt_of_pos _ (by decide)) (by decide)) ht0 ht (by decide) (by decide) (by decide) (by decide) (by decide) (by decide)) ?_
          walk_at "mf"
          exact k (t + 1) _ _ sx ⟨c, ns, r, eq2, hc2, ncq, hns, hr0, by omega⟩ (by omega) (by omega) (Int.emod_nonneg _ (by omega)) (Int.emod_lt_of_pos _ hn)
theorem ok__law_pick (c : Cn) (T : Tx c) : Cl c 2 "_law_pick" s__law_pick ["ropewalk", "some"] (sp_pick c.K) := by
  obtain ⟨P, w, K, mg, base⟩ := c
  have C__law_knot := ok__law_knot _ T
  refine De.cl (N := ["ropewalk", "some"]) T.d__law_pick sc__law_pick (fun vs H Q E h => ?_) (fun f0 cdv A outer s H vs Q E hA hr h => ?_)
  · obtain ⟨q, a, t, xs, rfl, _⟩ := h; rfl
  · have S := sc__law_pick
    obtain ⟨q, a, t, xs, rfl, hq, ht, na, hs, hne, hl, k⟩ := h
    refine ⟨_, (pss_one (ps_ret (pe_ix ix_seq (pv 1) (pe_f C__law_knot hA hr (by decide) pl__law_knot (by rfl) (pa_cons (pv 0) (pa_cons (pe_callB call_lenU (by rfl) T.n_len PySem.boot_len (pa_cons (pv 1) pa_nil)) pa_nil))) (fun _ _ => rfl)))), ?_⟩
    have hp : 0 < xs.length := by
      cases xs with
      | nil => exact absurd rfl hne
      | cons z r => exact Nat.succ_pos _
    walk_at "mf"
    refine g_len hs ?_
    walk_at "mf"
    refine ⟨q, t, _, rfl, hq, ht, by omega, ?_, fun t' H' i sx hq' h1 h2 h3 h4 => ?_⟩
    · rw [Int.natAbs_natCast]
      exact Nat.lt_of_lt_of_le ((Nat.log2_lt (by omega)).mpr (show xs.length < 2 ^ 10 by omega)) (by decide)
    · walk_at "mf"
      have hi : i.toNat < xs.length := by omega
      refine g_ix (hs.go sx na) (at_of (j := i.toNat) (by omega) (List.getElem?_eq_getElem hi)) ?_
      exact k t' H' _ sx hq' h1 h2 (List.getElem_mem hi)
end Mf
namespace Mf
open PySem PySem.Spec PyProof.Rows L2
local macro_rules | `(tactic| walk_at "mf1") => `(tactic| first
  | ((with_reducible apply g_var); exact rfl)
  | with_reducible first
    | refine g_c ?_ | refine g_op ?_ | refine g_un ?_ | refine g_cb ?_ | refine g_cl ?_ | refine g_clk ?_ | refine g_nil ?_ | refine g_cons ?_
    | refine g_tB ?_ | refine g_test ?_ | refine g_bl ?_ | refine g_and ?_ | refine g_or ?_ | refine g_not ?_ | refine g_andV ?_ | refine g_orV ?_ | refine g_notV ?_
    | refine g_if ?_ | refine g_ifS ?_ | refine g_seq ?_ | refine g_next ?_ | refine g_ret ?_ | refine g_drop ?_ | refine g_asg ?_ | refine g_name ?_ | refine g_sub ?_
    | refine g_int ?_ | refine g_intB ?_ | refine g_abs ?_ | refine g_I0 ?_ | refine g_addI ?_ | refine g_U ?_ | refine g_isNn ?_ | refine g_isNi ?_ | refine g_notN ?_ | refine g_notT1 ?_ | refine g_notT2 ?_ | refine g_notT3 ?_ | refine g_notT4 ?_ | refine g_notTb ?_ | refine g_notTi ?_ | refine g_eqI ?_ | refine g_neI ?_ | refine g_neSs ?_ | refine g_neS ?_ | refine g_eqS ?_
    | refine g_iteT ?_ | refine g_iteF ?_ | refine g_iteNT ?_ | refine g_iteNF ?_ | refine g_lst ?_ | refine g_tup ?_ | refine g_seqP ?_ | refine g_sl ?_ | refine g_noPart ?_ | refine g_part ?_ | refine g_yes ?_ | refine g_thenT ?_ | refine g_consG ?_ | refine g_nilG ?_ | refine g_ii ?_ | refine g_par ?_ | refine g_par3 ?_ | refine g_vv ?_ | refine g_vvv ?_ | refine g_reprB ?_ | refine g_lcL ?_ | refine g_lcR ?_
  | ((with_reducible refine g_mod ?_ ?_); (first | omega | decide))
  | ((with_reducible refine g_div ?_ ?_ ?_); (first | omega | decide); (first | assumption | decide))
  | ((with_reducible refine g_mulL ?_ ?_ ?_); (first | omega | decide); (first | omega | decide))
  | ((with_reducible refine g_mulR ?_ ?_ ?_); (first | omega | decide); (first | omega | decide))
  | ((with_reducible refine g_pow ?_ ?_ ?_ ?_); decide; decide; (first | omega | decide))
  | dsimp only)
local macro_rules | `(tactic| walk_at "mf1s") => `(tactic| first
  | ((with_reducible apply g_var); exact rfl)
  | with_reducible first
    | refine g_c ?_ | refine g_op ?_ | refine g_un ?_ | refine g_cb ?_ | refine g_cl ?_ | refine g_clk ?_ | refine g_nil ?_ | refine g_cons ?_
    | refine g_tB ?_ | refine g_test ?_ | refine g_bl ?_ | refine g_and ?_ | refine g_or ?_ | refine g_not ?_ | refine g_andV ?_ | refine g_orV ?_ | refine g_notV ?_
    | refine g_if ?_ | refine g_ifS ?_ | refine g_next ?_ | refine g_ret ?_ | refine g_drop ?_ | refine g_asg ?_ | refine g_name ?_ | refine g_sub ?_
    | refine g_int ?_ | refine g_intB ?_ | refine g_abs ?_ | refine g_I0 ?_ | refine g_addI ?_ | refine g_U ?_ | refine g_isNn ?_ | refine g_isNi ?_ | refine g_notN ?_ | refine g_notT1 ?_ | refine g_notT2 ?_ | refine g_notT3 ?_ | refine g_notT4 ?_ | refine g_notTb ?_ | refine g_notTi ?_ | refine g_eqI ?_ | refine g_neI ?_ | refine g_neSs ?_ | refine g_neS ?_ | refine g_eqS ?_
    | refine g_iteT ?_ | refine g_iteF ?_ | refine g_iteNT ?_ | refine g_iteNF ?_ | refine g_lst ?_ | refine g_tup ?_ | refine g_seqP ?_ | refine g_sl ?_ | refine g_noPart ?_ | refine g_part ?_ | refine g_yes ?_ | refine g_thenT ?_ | refine g_consG ?_ | refine g_nilG ?_ | refine g_ii ?_ | refine g_par ?_ | refine g_par3 ?_ | refine g_vv ?_ | refine g_vvv ?_ | refine g_reprB ?_ | refine g_lcL ?_ | refine g_lcR ?_
  | ((with_reducible refine g_mod ?_ ?_); (first | omega | decide))
  | ((with_reducible refine g_div ?_ ?_ ?_); (first | omega | decide); (first | assumption | decide))
  | ((with_reducible refine g_mulL ?_ ?_ ?_); (first | omega | decide); (first | omega | decide))
  | ((with_reducible refine g_mulR ?_ ?_ ?_); (first | omega | decide); (first | omega | decide))
  | ((with_reducible refine g_pow ?_ ?_ ?_ ?_); decide; decide; (first | omega | decide))
  | dsimp only)
local macro_rules | `(tactic| walk_at "mfs") => `(tactic| repeat walk_at "mf1s")
local macro_rules | `(tactic| walk_at "mf") => `(tactic| repeat walk_at "mf1")
local macro_rules | `(tactic| walk_at "ed") => `(tactic| repeat (first
  | with_reducible first
    | exact eds_nil | apply eds_cons | exact ed_int | exact ed_bl | exact ed_non | apply ed_neg
  | ((with_reducible apply ed_str); decide)
  | ((with_reducible apply ed_var); (exact rfl); (first | assumption | exact Dq.int _))
  | ((with_reducible apply ed_dict0); assumption)
  | ((with_reducible apply ed_dict2); assumption)
  | ((with_reducible apply ed_tup); assumption)
  | ((with_reducible apply ed_lst); assumption)
  | (with_reducible apply ed_pow)
  | (with_reducible apply ed_mul)
  | assumption
  | (exact Dq.int _)
  | (exact ⟨by decide, by decide, by decide⟩)
  | (show List.length _ ≤ 1000; simp only [List.length_cons, List.length_nil]; decide)))
theorem ok_reduced (c : Cn) (T : Tx c) : Cl c 1 "reduced" s_reduced ["up", "down"] (sp_reduced c.K) := by
  obtain ⟨P, w, K, mg, base⟩ := c
  refine De.cl (N := ["up", "down", "common"]) T.d_reduced sc_reduced (fun vs H Q E h => ?_) (fun f0 cdv A outer s H vs Q E hA hr h => ?_)
  · obtain ⟨u, d, rfl, _⟩ := h; rfl
  · have S := sc_reduced
    obtain ⟨u, d, rfl, hd, hb, k⟩ := h
    refine ⟨_, (pss_cons (ps_set (i := 2) S.nd rfl (by first | exact .inl rfl | exact .inr rfl) (pe_callBfun cr_gcd (by rfl) T.m_gcd (pa_cons (pv 0) (pa_cons (pv 1) pa_nil))))
      (pss_one (ps_ret (pe_tup (pa_cons (pe_op op_fdivW (pv 0) (pv 2)) (pa_cons (pe_op op_fdivW (pv 1) (pv 2)) pa_nil)))))), ?_⟩
    walk_at "mf"
    have hpos : 0 < ((Nat.gcd u.natAbs d.natAbs : Nat) : Int) := by
      have := Nat.gcd_pos_of_pos_right u.natAbs (show 0 < d.natAbs by omega)
      omega
    have hlog : ((Nat.gcd u.natAbs d.natAbs : Nat) : Int).natAbs.log2 < 9000 := by
      refine Bt.log (n := 8000) ?_ (by decide)
      show ((Nat.gcd u.natAbs d.natAbs : Nat) : Int).natAbs < _
      rw [Int.natAbs_natCast]
      exact Nat.lt_of_le_of_lt (Nat.gcd_le_right _ (by omega)) hb
    refine g_gcd ?_
    walk_at "mf"
    refine g_newT (by show 2 ≤ sizeLine; decide) fun p H1 hp s1 e1 => ?_
    rw [red_num u d hd, red_den u d hd] at e1
    exact k p H1 s1 hp e1
theorem ok_read_fraction (c : Cn) (T : Tx c) : Cl c 4 "read_fraction" s_read_fraction ["value", "part"] (sp_read c.K) := by
  obtain ⟨P, w, K, mg, base⟩ := c
  have C_is_fraction := ok_is_fraction _ T
  have C_is_integer := ok_is_integer _ T
  have C_reduced := ok_reduced _ T
  refine De.cl (N := ["value", "part", "up", "down"]) T.d_read_fraction sc_read_fraction (fun vs H Q E h => ?_) (fun f0 cdv A outer s H vs Q E hA hr h => ?_)
  · obtain ⟨q, v, part, r, n, rfl, _⟩ := h; rfl
  · have S := sc_read_fraction
    obtain ⟨q, v, part, r, n, rfl, hf, hn, k⟩ := h
    refine ⟨_, (pss_cons (ps_if (pt_not (pt_val (pe_f C_is_fraction hA hr (by decide) pl_is_fraction (by rfl) (pa_cons (pv 0) pa_nil)))) (pss_one ps_never) pss_nil)
      (pss_cons (ps_if (pt_val (pe_f C_is_integer hA hr (by decide) pl_is_integer (by rfl) (pa_cons (pv 0) pa_nil))) (pss_one (ps_ret (pe_f C_reduced hA hr (by decide) pl_reduced (by rfl) (pa_cons (pv 0) (pa_cons pe_int pa_nil))))) pss_nil)
      (pss_cons (ps_asg (pv 0) (pg_or (pg_tup rfl (pgs_cons (pg_name (i := 2) S.nd rfl (by first | exact .inl rfl | exact .inr rfl)) (pgs_cons (pg_name (i := 3) S.nd rfl (by first | exact .inl rfl | exact .inr rfl)) pgs_nil))) (pg_unl rfl (pgs_cons (pg_name (i := 2) S.nd rfl (by first | exact .inl rfl | exact .inr rfl)) (pgs_cons (pg_name (i := 3) S.nd rfl (by first | exact .inl rfl | exact .inr rfl)) pgs_nil)))))
      (pss_one (ps_ret (pe_f C_reduced hA hr (by decide) pl_reduced (by rfl) (pa_cons (pv 2) (pa_cons (pv 3) pa_nil)))))))), ?_⟩
    rcases hf.cases with ⟨i, rfl, hd, rfl, hb⟩ | ⟨a, d, x, y, rfl, na, hd, e1, e2, hs, hy, rfl, hbx, hby⟩
    · walk_at "mf"
      refine ⟨q, _, _, rfl, hd, ?_⟩
      walk_at "mf"
      refine g_iteF ?_
      walk_at "mf"
      refine ⟨q, _, _, rfl, hd, ?_⟩
      walk_at "mf"
      refine g_iteT ?_
      walk_at "mf"
      exact ⟨i, 1, rfl, by decide, Bt.mono (m := 1) (by show 1 < 2 ^ 1; decide) (by decide), k⟩
    · walk_at "mf"
      refine ⟨q, _, _, rfl, hd, ?_⟩
      rw [e2]
      walk_at "mf"
      refine ⟨q, _, _, rfl, hd, ?_⟩
      rw [e1]
      walk_at "mf"
      refine g_seqG hs rfl ?_
      walk_at "mf"
      exact ⟨x, y, rfl, hy, hby.mono hn, k⟩
theorem ok_fraction_of (c : Cn) (T : Tx c) : Cl c 5 "fraction_of" s_fraction_of ["value"] (sp_frof c.K) := by
  obtain ⟨P, w, K, mg, base⟩ := c
  have C_read_fraction := ok_read_fraction _ T
  refine De.cl (N := ["value"]) T.d_fraction_of sc_fraction_of (fun vs H Q E h => ?_) (fun f0 cdv A outer s H vs Q E hA hr h => ?_)
  · obtain ⟨q, v, r, n, rfl, _⟩ := h; rfl
  · have S := sc_fraction_of
    obtain ⟨q, v, r, n, rfl, hf, hn, k⟩ := h
    refine ⟨_, (pss_one (ps_ret (pe_f C_read_fraction hA hr (by decide) pl_read_fraction (by rfl) (pa_cons (pv 0) (pa_cons pe_str pa_nil))))), ?_⟩
    walk_at "mf"
    exact ⟨q, v, _, r, n, rfl, hf, hn, k⟩
theorem ok_added (c : Cn) (T : Tx c) : Cl c 5 "added" s_added ["one", "other"] (sp_bin (· + ·) c.K) := by
  obtain ⟨P, w, K, mg, base⟩ := c
  have C_read_fraction := ok_read_fraction _ T
  have C_reduced := ok_reduced _ T
  refine De.cl (N := ["one", "other", "up", "down", "more", "below"]) T.d_added sc_added (fun vs H Q E h => ?_) (fun f0 cdv A outer s H vs Q E hA hr h => ?_)
  · obtain ⟨q, v1, v2, r1, r2, m, n, rfl, _⟩ := h; rfl
  · have S := sc_added
    obtain ⟨q, v1, v2, r1, r2, m, n, rfl, h1, h2, hmn, k⟩ := h
    refine ⟨_, (pss_cons (ps_asg (pe_f C_read_fraction hA hr (by decide) pl_read_fraction (by rfl) (pa_cons (pv 0) (pa_cons pe_str pa_nil))) (pg_tup rfl (pgs_cons (pg_name (i := 2) S.nd rfl (by first | exact .inl rfl | exact .inr rfl)) (pgs_cons (pg_name (i := 3) S.nd rfl (by first | exact .inl rfl | exact .inr rfl)) pgs_nil))))
      (pss_cons (ps_asg (pe_f C_read_fraction hA hr (by decide) pl_read_fraction (by rfl) (pa_cons (pv 1) (pa_cons pe_str pa_nil))) (pg_tup rfl (pgs_cons (pg_name (i := 4) S.nd rfl (by first | exact .inl rfl | exact .inr rfl)) (pgs_cons (pg_name (i := 5) S.nd rfl (by first | exact .inl rfl | exact .inr rfl)) pgs_nil))))
      (pss_one (ps_ret (pe_f C_reduced hA hr (by decide) pl_reduced (by rfl) (pa_cons (pe_op op_addU (pe_op op_mulU (pv 2) (pv 5)) (pe_op op_mulU (pv 4) (pv 3))) (pa_cons (pe_op op_mulU (pv 3) (pv 5)) pa_nil))))))), ?_⟩
    walk_at "mf"
    refine ⟨q, v1, _, r1, m, rfl, h1, by omega, fun p1 H1 s1 n1 e1 => ?_⟩
    refine g_tupG (tupU e1) rfl ?_
    walk_at "mf"
    refine ⟨q, v2, _, r2, n, rfl, h2.go (Same.x s1), by omega, fun p2 H2 s2 n2 e2 => ?_⟩
    refine g_tupG (tupU e2) rfl ?_
    have b1 := h1.rb
    have b2 := h2.rb
    have c1 := b1.1.cm b2.2 (by omega)
    have c2 := b2.1.cm b1.2 (by omega)
    have c3 := b1.2.cm b2.2 (by omega)
    have c4 := b1.1.cm b2.1 (by omega)
    walk_at "mf"
    refine g_mulU c1 ?_
    walk_at "mf"
    refine g_mulU c2 ?_
    walk_at "mf"
    refine g_mulU c3 ?_
    walk_at "mf"
    refine ⟨_, _, rfl, dd1 r1 r2, (b1.2.mul b2.2).mono (by omega), ?_⟩
    rw [add_div]
    exact (RetT.same k s1).same s2
theorem ok_multiplied (c : Cn) (T : Tx c) : Cl c 5 "multiplied" s_multiplied ["one", "other"] (sp_bin (· * ·) c.K) := by
  obtain ⟨P, w, K, mg, base⟩ := c
  have C_read_fraction := ok_read_fraction _ T
  have C_reduced := ok_reduced _ T
  refine De.cl (N := ["one", "other", "up", "down", "times", "below"]) T.d_multiplied sc_multiplied (fun vs H Q E h => ?_) (fun f0 cdv A outer s H vs Q E hA hr h => ?_)
  · obtain ⟨q, v1, v2, r1, r2, m, n, rfl, _⟩ := h; rfl
  · have S := sc_multiplied
    obtain ⟨q, v1, v2, r1, r2, m, n, rfl, h1, h2, hmn, k⟩ := h
    refine ⟨_, (pss_cons (ps_asg (pe_f C_read_fraction hA hr (by decide) pl_read_fraction (by rfl) (pa_cons (pv 0) (pa_cons pe_str pa_nil))) (pg_tup rfl (pgs_cons (pg_name (i := 2) S.nd rfl (by first | exact .inl rfl | exact .inr rfl)) (pgs_cons (pg_name (i := 3) S.nd rfl (by first | exact .inl rfl | exact .inr rfl)) pgs_nil))))
      (pss_cons (ps_asg (pe_f C_read_fraction hA hr (by decide) pl_read_fraction (by rfl) (pa_cons (pv 1) (pa_cons pe_str pa_nil))) (pg_tup rfl (pgs_cons (pg_name (i := 4) S.nd rfl (by first | exact .inl rfl | exact .inr rfl)) (pgs_cons (pg_name (i := 5) S.nd rfl (by first | exact .inl rfl | exact .inr rfl)) pgs_nil))))
      (pss_one (ps_ret (pe_f C_reduced hA hr (by decide) pl_reduced (by rfl) (pa_cons (pe_op op_mulU (pv 2) (pv 4)) (pa_cons (pe_op op_mulU (pv 3) (pv 5)) pa_nil))))))), ?_⟩
    walk_at "mf"
    refine ⟨q, v1, _, r1, m, rfl, h1, by omega, fun p1 H1 s1 n1 e1 => ?_⟩
    refine g_tupG (tupU e1) rfl ?_
    walk_at "mf"
    refine ⟨q, v2, _, r2, n, rfl, h2.go (Same.x s1), by omega, fun p2 H2 s2 n2 e2 => ?_⟩
    refine g_tupG (tupU e2) rfl ?_
    have b1 := h1.rb
    have b2 := h2.rb
    have c1 := b1.1.cm b2.2 (by omega)
    have c2 := b2.1.cm b1.2 (by omega)
    have c3 := b1.2.cm b2.2 (by omega)
    have c4 := b1.1.cm b2.1 (by omega)
    walk_at "mf"
    refine g_mulU c4 ?_
    walk_at "mf"
    refine g_mulU c3 ?_
    walk_at "mf"
    refine ⟨_, _, rfl, dd1 r1 r2, (b1.2.mul b2.2).mono (by omega), ?_⟩
    rw [mul_div]
    exact (RetT.same k s1).same s2
theorem ok_divided (c : Cn) (T : Tx c) : Cl c 5 "divided" s_divided ["one", "other"] (sp_divd c.K) := by
  obtain ⟨P, w, K, mg, base⟩ := c
  have C_read_fraction := ok_read_fraction _ T
  have C_reduced := ok_reduced _ T
  refine De.cl (N := ["one", "other", "up", "down", "times", "below"]) T.d_divided sc_divided (fun vs H Q E h => ?_) (fun f0 cdv A outer s H vs Q E hA hr h => ?_)
  · obtain ⟨q, v1, v2, r1, r2, m, n, rfl, _⟩ := h; rfl
  · have S := sc_divided
    obtain ⟨q, v1, v2, r1, r2, m, n, rfl, h1, h2, hmn, hr0, k⟩ := h
    refine ⟨_, (pss_cons (ps_asg (pe_f C_read_fraction hA hr (by decide) pl_read_fraction (by rfl) (pa_cons (pv 0) (pa_cons pe_str pa_nil))) (pg_tup rfl (pgs_cons (pg_name (i := 2) S.nd rfl (by first | exact .inl rfl | exact .inr rfl)) (pgs_cons (pg_name (i := 3) S.nd rfl (by first | exact .inl rfl | exact .inr rfl)) pgs_nil))))
      (pss_cons (ps_asg (pe_f C_read_fraction hA hr (by decide) pl_read_fraction (by rfl) (pa_cons (pv 1) (pa_cons pe_str pa_nil))) (pg_tup rfl (pgs_cons (pg_name (i := 4) S.nd rfl (by first | exact .inl rfl | exact .inr rfl)) (pgs_cons (pg_name (i := 5) S.nd rfl (by first | exact .inl rfl | exact .inr rfl)) pgs_nil))))
      (pss_cons (ps_if (pt_cmpR (show OpR _ (compareOp .Eq) (rEqU K) from op_eqU (by exact hr.units)) (pv 4) pe_int (nomark _)) (pss_one ps_never) pss_nil)
      (pss_cons (ps_if (pt_cmpR op_lt (pv 4) pe_int (nomark _)) (pss_one (ps_ret (pe_f C_reduced hA hr (by decide) pl_reduced (by rfl) (pa_cons (pe_op op_mulU (pe_un un_neg (pv 2)) (pv 5)) (pa_cons (pe_op op_mulU (pe_un un_neg (pv 4)) (pv 3)) pa_nil))))) pss_nil)
      (pss_one (ps_ret (pe_f C_reduced hA hr (by decide) pl_reduced (by rfl) (pa_cons (pe_op op_mulU (pv 2) (pv 5)) (pa_cons (pe_op op_mulU (pv 4) (pv 3)) pa_nil))))))))), ?_⟩
    walk_at "mf"
    refine ⟨q, v1, _, r1, m, rfl, h1, by omega, fun p1 H1 s1 n1 e1 => ?_⟩
    refine g_tupG (tupU e1) rfl ?_
    walk_at "mf"
    refine ⟨q, v2, _, r2, n, rfl, h2.go (Same.x s1), by omega, fun p2 H2 s2 n2 e2 => ?_⟩
    refine g_tupG (tupU e2) rfl ?_
    have b1 := h1.rb
    have b2 := h2.rb
    have c1 := b1.1.cm b2.2 (by omega)
    have c2 := b2.1.cm b1.2 (by omega)
    have c3 := b1.2.cm b2.2 (by omega)
    have c4 := b1.1.cm b2.1 (by omega)
    walk_at "mf"
    have hnz : r2.num ≠ 0 := fun e => hr0 (Rat.num_eq_zero.mp e)
    refine g_ite (fun h => absurd (of_decide_eq_true h) hnz) (fun _ => ?_)
    walk_at "mf"
    have d1 := den1 r1
    refine g_ite (fun h => ?_) (fun h => ?_)
    · have h := of_decide_eq_true h
      have c5 := b1.1.neg.cm b2.2 (by omega)
      have c6 := b2.1.neg.cm b1.2 (by omega)
      walk_at "mf"
      refine g_mulU c5 ?_
      walk_at "mf"
      refine g_mulU c6 ?_
      walk_at "mf"
      refine ⟨_, _, rfl, Int.le_trans (by decide) (Int.mul_le_mul (show 1 ≤ -r2.num by omega) d1 (by decide) (by omega)), (b2.1.neg.mul b1.2).mono (by omega), ?_⟩
      rw [div_neg]
      exact (RetT.same k s1).same s2
    · have h := of_decide_eq_false h
      walk_at "mf"
      refine g_mulU c1 ?_
      walk_at "mf"
      refine g_mulU c2 ?_
      walk_at "mf"
      refine ⟨_, _, rfl, Int.le_trans (by decide) (Int.mul_le_mul (show 1 ≤ r2.num by omega) d1 (by decide) (by omega)), (b2.1.mul b1.2).mono (by omega), ?_⟩
      rw [div_div]
      exact (RetT.same k s1).same s2
end Mf
namespace Mf
open PySem PySem.Spec PyProof.Rows L2
local macro_rules | `(tactic| walk_at "mf1") => `(tactic| first
  | ((with_reducible apply g_var); exact rfl)
  | with_reducible first
    | refine g_c ?_ | refine g_op ?_ | refine g_un ?_ | refine g_cb ?_ | refine g_cl ?_ | refine g_clk ?_ | refine g_nil ?_ | refine g_cons ?_
    | refine g_tB ?_ | refine g_test ?_ | refine g_bl ?_ | refine g_and ?_ | refine g_or ?_ | refine g_not ?_ | refine g_andV ?_ | refine g_orV ?_ | refine g_notV ?_
    | refine g_if ?_ | refine g_ifS ?_ | refine g_seq ?_ | refine g_next ?_ | refine g_ret ?_ | refine g_drop ?_ | refine g_asg ?_ | refine g_name ?_ | refine g_sub ?_
    | refine g_int ?_ | refine g_intB ?_ | refine g_abs ?_ | refine g_I0 ?_ | refine g_addI ?_ | refine g_U ?_ | refine g_isNn ?_ | refine g_isNi ?_ | refine g_notN ?_ | refine g_notT1 ?_ | refine g_notT2 ?_ | refine g_notT3 ?_ | refine g_notT4 ?_ | refine g_notTb ?_ | refine g_notTi ?_ | refine g_eqI ?_ | refine g_neI ?_ | refine g_neSs ?_ | refine g_neS ?_ | refine g_eqS ?_
    | refine g_iteT ?_ | refine g_iteF ?_ | refine g_iteNT ?_ | refine g_iteNF ?_ | refine g_lst ?_ | refine g_tup ?_ | refine g_seqP ?_ | refine g_sl ?_ | refine g_noPart ?_ | refine g_part ?_ | refine g_yes ?_ | refine g_thenT ?_ | refine g_consG ?_ | refine g_nilG ?_ | refine g_ii ?_ | refine g_par ?_ | refine g_par3 ?_ | refine g_vv ?_ | refine g_vvv ?_ | refine g_reprB ?_ | refine g_lcL ?_ | refine g_lcR ?_
  | ((with_reducible refine g_mod ?_ ?_); (first | omega | decide))
  | ((with_reducible refine g_div ?_ ?_ ?_); (first | omega | decide); (first | assumption | decide))
  | ((with_reducible refine g_mulL ?_ ?_ ?_); (first | omega | decide); (first | omega | decide))
  | ((with_reducible refine g_mulR ?_ ?_ ?_); (first | omega | decide); (first | omega | decide))
  | ((with_reducible refine g_pow ?_ ?_ ?_ ?_); decide; decide; (first | omega | decide))
  | dsimp only)
local macro_rules | `(tactic| walk_at "mf1s") => `(tactic| first
  | ((with_reducible apply g_var); exact rfl)
  | with_reducible first
    | refine g_c ?_ | refine g_op ?_ | refine g_un ?_ | refine g_cb ?_ | refine g_cl ?_ | refine g_clk ?_ | refine g_nil ?_ | refine g_cons ?_
    | refine g_tB ?_ | refine g_test ?_ | refine g_bl ?_ | refine g_and ?_ | refine g_or ?_ | refine g_not ?_ | refine g_andV ?_ | refine g_orV ?_ | refine g_notV ?_
    | refine g_if ?_ | refine g_ifS ?_ | refine g_next ?_ | refine g_ret ?_ | refine g_drop ?_ | refine g_asg ?_ | refine g_name ?_ | refine g_sub ?_
    | refine g_int ?_ | refine g_intB ?_ | refine g_abs ?_ | refine g_I0 ?_ | refine g_addI ?_ | refine g_U ?_ | refine g_isNn ?_ | refine g_isNi ?_ | refine g_notN ?_ | refine g_notT1 ?_ | refine g_notT2 ?_ | refine g_notT3 ?_ | refine g_notT4 ?_ | refine g_notTb ?_ | refine g_notTi ?_ | refine g_eqI ?_ | refine g_neI ?_ | refine g_neSs ?_ | refine g_neS ?_ | refine g_eqS ?_
    | refine g_iteT ?_ | refine g_iteF ?_ | refine g_iteNT ?_ | refine g_iteNF ?_ | refine g_lst ?_ | refine g_tup ?_ | refine g_seqP ?_ | refine g_sl ?_ | refine g_noPart ?_ | refine g_part ?_ | refine g_yes ?_ | refine g_thenT ?_ | refine g_consG ?_ | refine g_nilG ?_ | refine g_ii ?_ | refine g_par ?_ | refine g_par3 ?_ | refine g_vv ?_ | refine g_vvv ?_ | refine g_reprB ?_ | refine g_lcL ?_ | refine g_lcR ?_
  | ((with_reducible refine g_mod ?_ ?_); (first | omega | decide))
  | ((with_reducible refine g_div ?_ ?_ ?_); (first | omega | decide); (first | assumption | decide))
  | ((with_reducible refine g_mulL ?_ ?_ ?_); (first | omega | decide); (first | omega | decide))
  | ((with_reducible refine g_mulR ?_ ?_ ?_); (first | omega | decide); (first | omega | decide))
  | ((with_reducible refine g_pow ?_ ?_ ?_ ?_); decide; decide; (first | omega | decide))
  | dsimp only)
local macro_rules | `(tactic| walk_at "mfs") => `(tactic| repeat walk_at "mf1s")
local macro_rules | `(tactic| walk_at "mf") => `(tactic| repeat walk_at "mf1")
local macro_rules | `(tactic| walk_at "ed") => `(tactic| repeat (first
  | with_reducible first
    | exact eds_nil | apply eds_cons | exact ed_int | exact ed_bl | exact ed_non | apply ed_neg
  | ((with_reducible apply ed_str); decide)
  | ((with_reducible apply ed_var); (exact rfl); (first | assumption | exact Dq.int _))
  | ((with_reducible apply ed_dict0); assumption)
  | ((with_reducible apply ed_dict2); assumption)
  | ((with_reducible apply ed_tup); assumption)
  | ((with_reducible apply ed_lst); assumption)
  | (with_reducible apply ed_pow)
  | (with_reducible apply ed_mul)
  | assumption
  | (exact Dq.int _)
  | (exact ⟨by decide, by decide, by decide⟩)
  | (show List.length _ ≤ 1000; simp only [List.length_cons, List.length_nil]; decide)))
theorem ok_read_points (c : Cn) (T : Tx c) : Cl c 6 "read_points" s_read_points ["points"] (sp_rpts c.K) := by
  obtain ⟨P, w, K, mg, base⟩ := c
  have C_fraction_of := ok_fraction_of _ T
  have C_is_list := ok_is_list _ T
  have C_is_place := ok_is_place _ T
  refine De.cl (N := ["points", "pairs", "point", "at", "value", "_"]) T.d_read_points sc_read_points (fun vs H Q E h => ?_) (fun f0 cdv A outer s H vs Q E hA hr h => ?_)
  · obtain ⟨q, a, xs, ds, n, rfl, _⟩ := h; rfl
  · have S := sc_read_points
    obtain ⟨q, a, xs, ds, n, rfl, na, hs, hall, hok, hn, hl, nd, k⟩ := h
    refine ⟨_, (pss_cons (ps_if (PW.pt (pw_or (pt_not (pt_val (pe_f C_is_list hA hr (by decide) pl_is_list (by rfl) (pa_cons (pv 0) pa_nil)))) (pw_or (pt_cmpR op_gt (pe_callB call_lenU (by rfl) T.n_len PySem.boot_len (pa_cons (pv 0) pa_nil)) (pe_globI (i := 40) (by rfl) T.c_MOST_POINTS) (nomark _)) (pw_or1 (pt_not (pt_val (pe_callB (cr_all rfl) (by rfl) T.n_all (by decide +kernel) (pa_cons (pe_lc (own := [("point", 2)]) (g := gName 2) (tt := tYes) rfl S.nd (pi_or (pi_list (pv 0)) (pi_tup (pv 0))) (blkOk_by (N := ["points", "pairs", "point", "at", "value", "_"]) (sc := defScope s_read_points) (by decide +kernel)) (fun _ _ _ _ _ => pg_name (i := 2) S.nd rfl (Or.inl rfl)) (fun _ _ _ _ _ => pts_nil) (fun _ _ _ _ _ => (pe_f C_is_place hA hr (by decide) pl_is_place (by rfl) (pa_cons (pv 2) pa_nil)))) pa_nil)))))))) (pss_one ps_never) pss_nil)
      (pss_cons (ps_setLc (i := 1) (own := [("at", 3), ("value", 4)]) (g := g2O K 3 4) (tt := tYes) rfl S.nd rfl rfl (sw_true rfl rfl rfl (by decide +kernel)) (pi_or (pi_list (pv 0)) (pi_tup (pv 0))) (blkOk_by (N := ["points", "pairs", "point", "at", "value", "_"]) (sc := defScope s_read_points) (by decide +kernel)) (fun _ _ _ _ _ => pg_or (pg_tup rfl (pgs_cons (pg_name (i := 3) S.nd rfl (Or.inl rfl)) (pgs_cons (pg_name (i := 4) S.nd rfl (Or.inl rfl)) pgs_nil))) (pg_unl rfl (pgs_cons (pg_name (i := 3) S.nd rfl (Or.inl rfl)) (pgs_cons (pg_name (i := 4) S.nd rfl (Or.inl rfl)) pgs_nil)))) (fun _ _ _ _ _ => pts_nil) (fun _ _ _ _ _ => (pe_tup (pa_cons (pe_f C_fraction_of hA hr (by decide) pl_fraction_of (by rfl) (pa_cons (pv 3) pa_nil)) (pa_cons (pe_f C_fraction_of hA hr (by decide) pl_fraction_of (by rfl) (pa_cons (pv 4) pa_nil)) pa_nil)))))
      (pss_cons (ps_if (pt_cmpR op_lt (pe_callB (show CallR _ (.builtin "len") (rLenST K P w) from call_lenST) (by rfl) T.n_len PySem.boot_len (pa_cons (pe_callTy (show CallR _ (.type "set") (rSetOfT K P w) from cr_setOfT rfl (by exact hr.units)) (by rfl) T.n_set (show bootBuiltins "set" = some (.type "set") by decide +kernel) (pa_cons (pe_lc (own := [("at", 3), ("_", 5)]) (g := g2 K 3 5) (tt := tYes) rfl S.nd (pi_list (pv 1)) (blkOk_by (N := ["points", "pairs", "point", "at", "value", "_"]) (sc := defScope s_read_points) (by decide +kernel)) (fun _ _ _ _ _ => pg_tup rfl (pgs_cons (pg_name (i := 3) S.nd rfl (Or.inl rfl)) (pgs_cons (pg_name (i := 5) S.nd rfl (Or.inl rfl)) pgs_nil))) (fun _ _ _ _ _ => pts_nil) (fun _ _ _ _ _ => (pv 3))) pa_nil)) pa_nil)) (pe_callB call_lenU (by rfl) T.n_len PySem.boot_len (pa_cons (pv 1) pa_nil)) (nomark _)) (pss_one ps_never) pss_nil)
      (pss_one (ps_ret (pv 1)))))), ?_⟩
    obtain ⟨dd, hdd, hse⟩ : ∃ dd, Dq q K H (.ref a) dd ∧ isSeqD dd = true := by
      rcases hs with hs | hs
      · exact ⟨.list ds, .lst na hs hall, rfl⟩
      · exact ⟨.tuple ds, .tup na hs hall, rfl⟩
    have hlen := hall.len
    walk_at "mf"
    refine ⟨q, .ref a, dd, rfl, hdd, ?_⟩
    rw [hse]
    walk_at "mf"
    refine g_len hs ?_
    walk_at "mf"
    rw [decide_eq_false (show ¬ (40 : Int) < ((xs.length : Nat) : Int) by omega)]
    walk_at "mf"
    refine cut_lc (fun (H1 : Hp) (D : Addr) => H1 D = some (.lst ((List.replicate xs.length true).map V.bl))) (fun Q' k' => ?_) (fun H1 D s1 e1 => ?_)
    · rcases hs with hs | hs
      · refine g_lcO1 ?_
        walk_at "mf"
        refine ⟨a, rfl, ⟨_, hs⟩, ?_⟩
        refine lcgo_listF (xs := xs) (fun D i H' => Same H H' ∧ H' D = some (.lst (List.replicate i (V.bl true)))) (fun z => rfl) (fun D hD => ⟨same_new hD, upd_same⟩) (fun D i H' _ h => h.1.seq hs) (fun D i z H' hD ez h => ?_) (fun D H' hD h => ?_)
        · obtain ⟨h1, h2⟩ := h
          obtain ⟨d, ed, hd⟩ := hall.get ez
          have hi := (List.getElem?_eq_some_iff.mp ez).1
          walk_at "mf"
          refine ⟨q, z, d, rfl, hd.go (Same.x h1), ?_⟩
          rw [(hok d (List.mem_of_getElem? ed)).pl]
          refine ⟨_, h2, ?_, ?_, ?_⟩
          · rw [List.length_replicate]
            exact small1000 (by rw [hall.len] at hi; omega)
          · intro b o e
            rw [upd_ne (ne_of_none e hD)]
            exact h1 b o e
          · rw [upd_same, List.replicate_succ']
        · obtain ⟨h1, h2⟩ := h
          exact k' H' D h1 (by rw [h2, List.map_replicate])
      · refine g_lcO2 ?_
        walk_at "mf"
        refine ⟨a, rfl, ⟨_, hs⟩, ?_⟩
        refine lcgo_tupF (xs := xs) (fun D i H' => Same H H' ∧ H' D = some (.lst (List.replicate i (V.bl true)))) (fun z => rfl) (fun D hD => ⟨same_new hD, upd_same⟩) (fun D i H' _ h => (Same.x (q := q) h.1).tup na hs) (fun D i z H' hD ez h => ?_) (fun D H' hD h => ?_)
        · obtain ⟨h1, h2⟩ := h
          obtain ⟨d, ed, hd⟩ := hall.get ez
          have hi := (List.getElem?_eq_some_iff.mp ez).1
          walk_at "mf"
          refine ⟨q, z, d, rfl, hd.go (Same.x h1), ?_⟩
          rw [(hok d (List.mem_of_getElem? ed)).pl]
          refine ⟨_, h2, ?_, ?_, ?_⟩
          · rw [List.length_replicate]
            exact small1000 (by rw [hall.len] at hi; omega)
          · intro b o e
            rw [upd_ne (ne_of_none e hD)]
            exact h1 b o e
          · rw [upd_same, List.replicate_succ']
        · obtain ⟨h1, h2⟩ := h
          exact k' H' D h1 (by rw [h2, List.map_replicate])
    walk_at "mf"
    refine g_all (seqU e1) ?_
    rw [all_rep]
    walk_at "mf"
    refine cut_lc (fun (H2 : Hp) (D : Addr) => H1 D = none ∧ ∃ vs, H2 D = some (.lst vs) ∧ vs.length = ds.length ∧ PP H2 vs (ds.map xy)) (fun Q' k' => ?_) (fun H2 D2 s2 e2 => ?_)
    · have hs := hs.go (Same.x (q := q) s1) na
      rcases hs with hs | hs
      · refine g_lcO1 ?_
        walk_at "mf"
        refine ⟨a, rfl, ⟨_, hs⟩, ?_⟩
        refine lcgo_listO (xs := xs) (fun D i H' => Same H1 H' ∧ ∃ vs, H' D = some (.lst vs) ∧ vs.length = i ∧ PP H' vs ((ds.map xy).take i)) (fun x y => rfl) (fun D hD => ⟨same_new hD, [], upd_same, rfl, .nil⟩) (fun D i H' _ h => h.1.seq hs) (fun D i z H' hD ez h => ?_) (fun D H' hD h => ?_)
        · obtain ⟨h1, vs, h2, h3, h4⟩ := h
          obtain ⟨d, ed, hd⟩ := hall.get ez
          have hi := (List.getElem?_eq_some_iff.mp ez).1
          rw [hall.len] at hi
          obtain ⟨b, u, v, rfl, nb, hb, fu, fv⟩ := (hok d (List.mem_of_getElem? ed)).un (hd.go (Same.x (s1.trans h1)))
          refine ⟨b, u, v, rfl, hb, ?_⟩
          obtain ⟨du, hu, fu1, fu2, fu3, fu4, fu5⟩ := fu
          obtain ⟨dv, hv, fv1, fv2, fv3, fv4, fv5⟩ := fv
          walk_at "mf"
          refine ⟨q, u, _, n, rfl, ⟨du, hu, fu1, fu2, fu3, fu4, fu5⟩, by omega, fun p3 H3 s3 n3 e3 => ?_⟩
          walk_at "mf"
          refine ⟨q, v, _, n, rfl, ⟨dv, hv.go (Same.x s3), fv1, fv2, fv3, fv4, fv5⟩, by omega, fun p4 H4 s4 n4 e4 => ?_⟩
          walk_at "mf"
          refine g_newT (by show 2 ≤ sizeLine; decide) fun p5 H5 n5 s5 e5 => ?_
          have sA := (s3.trans s4).trans s5
          have eD := sA _ _ h2
          have kt := upd_kt (o := .lst (vs ++ [.ref p5])) eD
          refine ⟨vs, eD, small1000 (by omega), ?_, vs ++ [.ref p5], upd_same, by rw [List.length_append, h3]; rfl, ?_⟩
          · intro b o e
            rw [upd_ne (ne_of_none e hD)]
            exact sA _ _ (h1 _ _ e)
          · have eq1 : (ds.map xy)[i]? = some (xy d) := by rw [List.getElem?_map, ed]; rfl
            rw [take_snoc eq1]
            exact ((h4.go (Same.kt sA)).go kt).snoc (kt _ _ e5) (kt _ _ (s5 _ _ (s4 _ _ e3))) (kt _ _ (s5 _ _ e4))
        · obtain ⟨h1, vs, h2, h3, h4⟩ := h
          rw [hall.len, show ds.length = (ds.map xy).length by rw [List.length_map], List.take_length] at h4
          exact k' H' D h1 ⟨hD, vs, h2, by rw [h3, hall.len], h4⟩
      · refine g_lcO2 ?_
        walk_at "mf"
        refine ⟨a, rfl, ⟨_, hs⟩, ?_⟩
        refine lcgo_tupO (xs := xs) (fun D i H' => Same H1 H' ∧ ∃ vs, H' D = some (.lst vs) ∧ vs.length = i ∧ PP H' vs ((ds.map xy).take i)) (fun x y => rfl) (fun D hD => ⟨same_new hD, [], upd_same, rfl, .nil⟩) (fun D i H' _ h => (Same.x (q := q) h.1).tup na hs) (fun D i z H' hD ez h => ?_) (fun D H' hD h => ?_)
        · obtain ⟨h1, vs, h2, h3, h4⟩ := h
          obtain ⟨d, ed, hd⟩ := hall.get ez
          have hi := (List.getElem?_eq_some_iff.mp ez).1
          rw [hall.len] at hi
          obtain ⟨b, u, v, rfl, nb, hb, fu, fv⟩ := (hok d (List.mem_of_getElem? ed)).un (hd.go (Same.x (s1.trans h1)))
          refine ⟨b, u, v, rfl, hb, ?_⟩
          obtain ⟨du, hu, fu1, fu2, fu3, fu4, fu5⟩ := fu
          obtain ⟨dv, hv, fv1, fv2, fv3, fv4, fv5⟩ := fv
          walk_at "mf"
          refine ⟨q, u, _, n, rfl, ⟨du, hu, fu1, fu2, fu3, fu4, fu5⟩, by omega, fun p3 H3 s3 n3 e3 => ?_⟩
          walk_at "mf"
          refine ⟨q, v, _, n, rfl, ⟨dv, hv.go (Same.x s3), fv1, fv2, fv3, fv4, fv5⟩, by omega, fun p4 H4 s4 n4 e4 => ?_⟩
          walk_at "mf"
          refine g_newT (by show 2 ≤ sizeLine; decide) fun p5 H5 n5 s5 e5 => ?_
          have sA := (s3.trans s4).trans s5
          have eD := sA _ _ h2
          have kt := upd_kt (o := .lst (vs ++ [.ref p5])) eD
          refine ⟨vs, eD, small1000 (by omega), ?_, vs ++ [.ref p5], upd_same, by rw [List.length_append, h3]; rfl, ?_⟩
          · intro b o e
            rw [upd_ne (ne_of_none e hD)]
            exact sA _ _ (h1 _ _ e)
          · have eq1 : (ds.map xy)[i]? = some (xy d) := by rw [List.getElem?_map, ed]; rfl
            rw [take_snoc eq1]
            exact ((h4.go (Same.kt sA)).go kt).snoc (kt _ _ e5) (kt _ _ (s5 _ _ (s4 _ _ e3))) (kt _ _ (s5 _ _ e4))
        · obtain ⟨h1, vs, h2, h3, h4⟩ := h
          rw [hall.len, show ds.length = (ds.map xy).length by rw [List.length_map], List.take_length] at h4
          exact k' H' D h1 ⟨hD, vs, h2, by rw [h3, hall.len], h4⟩
    obtain ⟨n2, vs, e2, l2, t2⟩ := e2
    walk_at "mf"
    refine ⟨D2, rfl, ⟨_, seqU e2⟩, ?_⟩
    refine lcgo_listP (xs := vs) (fun D i H' => Same H2 H' ∧ ∃ us, H' D = some (.lst us) ∧ us.length = i ∧ TL H' us ((ds.map fun d => (xy d).1).take i)) (fun x y => rfl) (fun D hD => ⟨same_new hD, [], upd_same, rfl, .nil⟩) (fun D i H' _ h => seqU (h.1 _ _ e2)) (fun D i z H' hD ez h => ?_) (fun D H3 hD h => ?_)
    · obtain ⟨h1, us, h2, h3, h4⟩ := h
      obtain ⟨c, p1, p2, r, rfl, er, ec, ep1, ep2⟩ := (t2.go (Same.kt h1)).get ez
      have hi := (List.getElem?_eq_some_iff.mp ez).1
      refine ⟨c, _, _, rfl, tupU ec, ?_⟩
      walk_at "mf"
      have kt := upd_kt (o := .lst (us ++ [.ref p1])) h2
      refine ⟨us, h2, small1000 (by omega), ?_, us ++ [.ref p1], upd_same, by rw [List.length_append, h3]; rfl, ?_⟩
      · intro b o e
        rw [upd_ne (ne_of_none e hD)]
        exact h1 _ _ e
      · have eq1 : (ds.map fun d => (xy d).1)[i]? = some r.1 := by
          rw [List.getElem?_map] at er ⊢
          obtain ⟨d, e1, e2⟩ := Option.map_eq_some_iff.mp er
          rw [e1, ← e2]
          rfl
        rw [take_snoc eq1]
        exact (h4.go kt).snoc (kt _ _ ep1)
    obtain ⟨s3, us, h2, h3, h4⟩ := h
    rw [l2, show ds.length = (ds.map fun d => (xy d).1).length by rw [List.length_map], List.take_length] at h4
    obtain ⟨ks, ek, hk1, hk2⟩ := TL.keys h4
    have lks : ks.length = ds.length := by
      have := congrArg List.length hk2
      rw [List.length_map, List.length_map, List.length_map] at this
      exact this
    subst ek
    walk_at "mf"
    refine ⟨D, ks, rfl, seqU h2, fun p hp => tupU (hk1 p hp), by omega, fun sa L nsa hL1 hL2 => ?_⟩
    have s4 : Same H3 (upd H3 sa (SetTO P w sa L)) := same_new nsa
    walk_at "mf"
    refine ⟨sa, L, rfl, upd_same, fun p hp => tupU (s4 _ _ (hk1 p (hL1 p hp))), fun ndL => ?_⟩
    have lL : L.length = ks.length := keys_len (by rw [hk2]; exact keys_nodup nd) ndL hL1 hL2
    walk_at "mf"
    refine g_len (.inl (seqU (s4 _ _ (s3 _ _ e2)))) ?_
    walk_at "mf"
    rw [decide_eq_false (show ¬ ((L.length : Nat) : Int) < ((vs.length : Nat) : Int) by omega)]
    walk_at "mf"
    have sA := ((s1.trans s2).trans s3).trans s4
    exact k D2 _ vs sA (s1.free n2) (s4 _ _ (s3 _ _ e2)) ((t2.go (Same.kt s3)).go (Same.kt s4))
end Mf
namespace Mf
open PySem PySem.Spec PyProof.Rows L2
local macro_rules | `(tactic| walk_at "mf1") => `(tactic| first
  | ((with_reducible apply g_var); exact rfl)
  | with_reducible first
    | refine g_c ?_ | refine g_op ?_ | refine g_un ?_ | refine g_cb ?_ | refine g_cl ?_ | refine g_clk ?_ | refine g_nil ?_ | refine g_cons ?_
    | refine g_tB ?_ | refine g_test ?_ | refine g_bl ?_ | refine g_and ?_ | refine g_or ?_ | refine g_not ?_ | refine g_andV ?_ | refine g_orV ?_ | refine g_notV ?_
    | refine g_if ?_ | refine g_ifS ?_ | refine g_seq ?_ | refine g_next ?_ | refine g_ret ?_ | refine g_drop ?_ | refine g_asg ?_ | refine g_name ?_ | refine g_sub ?_
    | refine g_int ?_ | refine g_intB ?_ | refine g_abs ?_ | refine g_I0 ?_ | refine g_addI ?_ | refine g_U ?_ | refine g_isNn ?_ | refine g_isNi ?_ | refine g_notN ?_ | refine g_notT1 ?_ | refine g_notT2 ?_ | refine g_notT3 ?_ | refine g_notT4 ?_ | refine g_notTb ?_ | refine g_notTi ?_ | refine g_eqI ?_ | refine g_neI ?_ | refine g_neSs ?_ | refine g_neS ?_ | refine g_eqS ?_
    | refine g_iteT ?_ | refine g_iteF ?_ | refine g_iteNT ?_ | refine g_iteNF ?_ | refine g_lst ?_ | refine g_tup ?_ | refine g_seqP ?_ | refine g_sl ?_ | refine g_noPart ?_ | refine g_part ?_ | refine g_yes ?_ | refine g_thenT ?_ | refine g_consG ?_ | refine g_nilG ?_ | refine g_ii ?_ | refine g_par ?_ | refine g_par3 ?_ | refine g_vv ?_ | refine g_vvv ?_ | refine g_reprB ?_ | refine g_lcL ?_ | refine g_lcR ?_
  | ((with_reducible refine g_mod ?_ ?_); (first | omega | decide))
  | ((with_reducible refine g_div ?_ ?_ ?_); (first | omega | decide); (first | assumption | decide))
  | ((with_reducible refine g_mulL ?_ ?_ ?_); (first | omega | decide); (first | omega | decide))
  | ((with_reducible refine g_mulR ?_ ?_ ?_); (first | omega | decide); (first | omega | decide))
  | ((with_reducible refine g_pow ?_ ?_ ?_ ?_); decide; decide; (first | omega | decide))
  | dsimp only)
local macro_rules | `(tactic| walk_at "mf1s") => `(tactic| first
  | ((with_reducible apply g_var); exact rfl)
  | with_reducible first
    | refine g_c ?_ | refine g_op ?_ | refine g_un ?_ | refine g_cb ?_ | refine g_cl ?_ | refine g_clk ?_ | refine g_nil ?_ | refine g_cons ?_
    | refine g_tB ?_ | refine g_test ?_ | refine g_bl ?_ | refine g_and ?_ | refine g_or ?_ | refine g_not ?_ | refine g_andV ?_ | refine g_orV ?_ | refine g_notV ?_
    | refine g_if ?_ | refine g_ifS ?_ | refine g_next ?_ | refine g_ret ?_ | refine g_drop ?_ | refine g_asg ?_ | refine g_name ?_ | refine g_sub ?_
    | refine g_int ?_ | refine g_intB ?_ | refine g_abs ?_ | refine g_I0 ?_ | refine g_addI ?_ | refine g_U ?_ | refine g_isNn ?_ | refine g_isNi ?_ | refine g_notN ?_ | refine g_notT1 ?_ | refine g_notT2 ?_ | refine g_notT3 ?_ | refine g_notT4 ?_ | refine g_notTb ?_ | refine g_notTi ?_ | refine g_eqI ?_ | refine g_neI ?_ | refine g_neSs ?_ | refine g_neS ?_ | refine g_eqS ?_
    | refine g_iteT ?_ | refine g_iteF ?_ | refine g_iteNT ?_ | refine g_iteNF ?_ | refine g_lst ?_ | refine g_tup ?_ | refine g_seqP ?_ | refine g_sl ?_ | refine g_noPart ?_ | refine g_part ?_ | refine g_yes ?_ | refine g_thenT ?_ | refine g_consG ?_ | refine g_nilG ?_ | refine g_ii ?_ | refine g_par ?_ | refine g_par3 ?_ | refine g_vv ?_ | refine g_vvv ?_ | refine g_reprB ?_ | refine g_lcL ?_ | refine g_lcR ?_
  | ((with_reducible refine g_mod ?_ ?_); (first | omega | decide))
  | ((with_reducible refine g_div ?_ ?_ ?_); (first | omega | decide); (first | assumption | decide))
  | ((with_reducible refine g_mulL ?_ ?_ ?_); (first | omega | decide); (first | omega | decide))
  | ((with_reducible refine g_mulR ?_ ?_ ?_); (first | omega | decide); (first | omega | decide))
  | ((with_reducible refine g_pow ?_ ?_ ?_ ?_); decide; decide; (first | omega | decide))
  | dsimp only)
local macro_rules | `(tactic| walk_at "mfs") => `(tactic| repeat walk_at "mf1s")
local macro_rules | `(tactic| walk_at "mf") => `(tactic| repeat walk_at "mf1")
local macro_rules | `(tactic| walk_at "ed") => `(tactic| repeat (first
  | with_reducible first
    | exact eds_nil | apply eds_cons | exact ed_int | exact ed_bl | exact ed_non | apply ed_neg
  | ((with_reducible apply ed_str); decide)
  | ((with_reducible apply ed_var); (exact rfl); (first | assumption | exact Dq.int _))
  | ((with_reducible apply ed_dict0); assumption)
  | ((with_reducible apply ed_dict2); assumption)
  | ((with_reducible apply ed_tup); assumption)
  | ((with_reducible apply ed_lst); assumption)
  | (with_reducible apply ed_pow)
  | (with_reducible apply ed_mul)
  | assumption
  | (exact Dq.int _)
  | (exact ⟨by decide, by decide, by decide⟩)
  | (show List.length _ ≤ 1000; simp only [List.length_cons, List.length_nil]; decide)))
theorem ok_times_factor (c : Cn) (T : Tx c) : Cl c 1 "times_factor" s_times_factor ["product", "at"] (sp_tfac c.K) := by
  obtain ⟨P, w, K, mg, base⟩ := c
  refine De.cl (N := ["product", "at", "up", "down", "low", "high"]) T.d_times_factor sc_times_factor (fun vs H Q E h => ?_) (fun f0 cdv A outer s H vs Q E hA hr h => ?_)
  · obtain ⟨l, p, P1, r, m, n, rfl, _⟩ := h; rfl
  · have S := sc_times_factor
    obtain ⟨l, p, P1, r, m, n, rfl, hl, hp, br, bm, hmn, lP, k⟩ := h
    refine ⟨_, (pss_cons (ps_asg (pv 1) (pg_tup rfl (pgs_cons (pg_name (i := 2) S.nd rfl (by first | exact .inl rfl | exact .inr rfl)) (pgs_cons (pg_name (i := 3) S.nd rfl (by first | exact .inl rfl | exact .inr rfl)) pgs_nil))))
      (pss_one (ps_ret (pe_lc (own := [("low", 4), ("high", 5)]) (g := g2 K 4 5) (tt := tYes) rfl S.nd (pi_zip (by rfl) T.n_zip (pa_cons (pe_lst (pa_cons pe_int (StX.pa_star (pv 0) pa_nil))) (pa_cons (pe_lst (StX.pa_star (pv 0) (pa_cons pe_int pa_nil))) pa_nil))) (blkOk_by (N := ["product", "at", "up", "down", "low", "high"]) (sc := defScope s_times_factor) (by decide +kernel)) (fun _ _ _ _ _ => pg_tup rfl (pgs_cons (pg_name (i := 4) S.nd rfl (Or.inl rfl)) (pgs_cons (pg_name (i := 5) S.nd rfl (Or.inl rfl)) pgs_nil))) (fun _ _ _ _ _ => pts_nil) (fun _ _ _ _ _ => (pe_op op_sub (pe_op op_mulU (pv 3) (pv 4)) (pe_op op_mulU (pv 2) (pv 5)))))))), ?_⟩
    walk_at "mf"
    refine g_tupG (tupU hp) rfl ?_
    walk_at "mf"
    refine g_lcZ ?_
    walk_at "mf"
    refine g_star ?_
    walk_at "mf"
    refine ⟨l, _, rfl, .inr (seqU hl), ?_⟩
    walk_at "mf"
    refine g_newL (Nat.le_of_lt (small1000 (by simp only [List.length_cons, List.length_append, List.length_map, List.length_nil]; omega))) fun p1 H1 n1 s1 e1 => ?_
    walk_at "mf"
    refine g_star ?_
    walk_at "mf"
    refine ⟨l, _, rfl, .inr (seqU (s1 _ _ hl)), ?_⟩
    walk_at "mf"
    refine g_newL (Nat.le_of_lt (small1000 (by simp only [List.length_cons, List.length_append, List.length_map, List.length_nil]; omega))) fun p2 H2 n2 s2 e2 => ?_
    walk_at "mf"
    have e1 := s2 _ _ e1
    rw [List.append_nil] at e1
    refine ⟨p1, p2, _, _, rfl, seqU e1, seqU e2, ?_⟩
    have g1 : ∀ {i : Nat} {x : V}, (V.int 0 :: P1.map V.int)[i]? = some x → x = .int (if i = 0 then 0 else ic P1 (i - 1)) := fun {i x} h => by
      cases i with
      | zero => exact (Option.some.inj h).symm
      | succ i =>
        rw [if_neg (by omega), Nat.add_sub_cancel]
        have h : (P1.map V.int)[i]? = some x := h
        rw [List.getElem?_map] at h
        obtain ⟨z, hz, rfl⟩ := Option.map_eq_some_iff.mp h
        rw [ic_some hz]
    have g2' : ∀ {i : Nat} {x : V}, (P1.map V.int ++ [V.int 0])[i]? = some x → x = .int (ic P1 i) := fun {i x} h => by
      by_cases z : i < P1.length
      · rw [List.getElem?_append_left (by rw [List.length_map]; exact z), List.getElem?_map] at h
        obtain ⟨y, hy, rfl⟩ := Option.map_eq_some_iff.mp h
        rw [ic_some hy]
      · rw [List.getElem?_append_right (by rw [List.length_map]; omega), List.length_map] at h
        have e : i - P1.length = 0 := by
          have := (List.getElem?_eq_some_iff.mp h).1
          simp only [List.length_cons, List.length_nil] at this
          omega
        rw [e] at h
        rw [ic_ge (by omega)]
        exact (Option.some.inj h).symm
    refine lcgo_zip (xs := V.int 0 :: P1.map V.int) (ys := P1.map V.int ++ [V.int 0]) (fun D i H' => Same H2 H' ∧ H' D = some (.lst (((tf (r.num, (r.den : Int)) P1).take i).map V.int))) (by simp) (fun x y => rfl) (fun D hD => ⟨same_new hD, upd_same⟩) (fun D i H' _ h => ⟨seqU (h.1 _ _ e1), seqU (h.1 _ _ e2)⟩) (fun D i x y T H' hD hx hy h nT => ?_) (fun D H' hD h => ?_)
    · obtain ⟨h1, h2⟩ := h
      have hi : i < P1.length + 1 := by
        have := (List.getElem?_eq_some_iff.mp hx).1
        simpa using this
      obtain rfl := g1 hx
      obtain rfl := g2' hy
      have bz : Bt m (if i = 0 then 0 else ic P1 (i - 1)) := by
        split
        · exact Nat.two_pow_pos m
        · exact bm _
      have sT : Same H' (upd H' T (.tup [.int (if i = 0 then 0 else ic P1 (i - 1)), .int (ic P1 i)])) := same_new nT
      generalize upd H' T (.tup [.int (if i = 0 then 0 else ic P1 (i - 1)), .int (ic P1 i)]) = Ht at *
      walk_at "mf"
      refine g_mulU (br.2.cm bz (by omega)) ?_
      walk_at "mf"
      refine g_mulU (br.1.cm (bm i) (by omega)) ?_
      walk_at "mf"
      refine ⟨_, sT _ _ h2, small1000 (by rw [List.length_map, List.length_take, len_tf]; omega), ?_, ?_⟩
      · intro b o e
        rw [upd_ne (ne_of_none e hD)]
        exact sT _ _ (h1 _ _ e)
      · have e : (tf (r.num, (r.den : Int)) P1)[i]? = some ((r.den : Int) * (if i = 0 then 0 else ic P1 (i - 1)) - r.num * ic P1 i) := by
          rw [ic_get (by rw [len_tf]; exact hi), ic_tf]
        rw [upd_same, take_snoc e, List.map_append]
        rfl
    · obtain ⟨h1, h2⟩ := h
      rw [show (V.int 0 :: P1.map V.int).length = (tf (r.num, (r.den : Int)) P1).length by rw [len_tf, List.length_cons, List.length_map], List.take_length] at h2
      exact k D H' ((s1.trans s2).trans h1) (((s1.trans s2)).free hD) h2
end Mf
namespace Mf
open PySem PySem.Spec PyProof.Rows L2
local macro_rules | `(tactic| walk_at "mf1") => `(tactic| first
  | ((with_reducible apply g_var); exact rfl)
  | with_reducible first
    | refine g_c ?_ | refine g_op ?_ | refine g_un ?_ | refine g_cb ?_ | refine g_cl ?_ | refine g_clk ?_ | refine g_nil ?_ | refine g_cons ?_
    | refine g_tB ?_ | refine g_test ?_ | refine g_bl ?_ | refine g_and ?_ | refine g_or ?_ | refine g_not ?_ | refine g_andV ?_ | refine g_orV ?_ | refine g_notV ?_
    | refine g_if ?_ | refine g_ifS ?_ | refine g_seq ?_ | refine g_next ?_ | refine g_ret ?_ | refine g_drop ?_ | refine g_asg ?_ | refine g_name ?_ | refine g_sub ?_
    | refine g_int ?_ | refine g_intB ?_ | refine g_abs ?_ | refine g_I0 ?_ | refine g_addI ?_ | refine g_U ?_ | refine g_isNn ?_ | refine g_isNi ?_ | refine g_notN ?_ | refine g_notT1 ?_ | refine g_notT2 ?_ | refine g_notT3 ?_ | refine g_notT4 ?_ | refine g_notTb ?_ | refine g_notTi ?_ | refine g_eqI ?_ | refine g_neI ?_ | refine g_neSs ?_ | refine g_neS ?_ | refine g_eqS ?_
    | refine g_iteT ?_ | refine g_iteF ?_ | refine g_iteNT ?_ | refine g_iteNF ?_ | refine g_lst ?_ | refine g_tup ?_ | refine g_seqP ?_ | refine g_sl ?_ | refine g_noPart ?_ | refine g_part ?_ | refine g_yes ?_ | refine g_thenT ?_ | refine g_consG ?_ | refine g_nilG ?_ | refine g_ii ?_ | refine g_par ?_ | refine g_par3 ?_ | refine g_vv ?_ | refine g_vvv ?_ | refine g_reprB ?_ | refine g_lcL ?_ | refine g_lcR ?_
  | ((with_reducible refine g_mod ?_ ?_); (first | omega | decide))
  | ((with_reducible refine g_div ?_ ?_ ?_); (first | omega | decide); (first | assumption | decide))
  | ((with_reducible refine g_mulL ?_ ?_ ?_); (first | omega | decide); (first | omega | decide))
  | ((with_reducible refine g_mulR ?_ ?_ ?_); (first | omega | decide); (first | omega | decide))
  | ((with_reducible refine g_pow ?_ ?_ ?_ ?_); decide; decide; (first | omega | decide))
  | dsimp only)
local macro_rules | `(tactic| walk_at "mf1s") => `(tactic| first
  | ((with_reducible apply g_var); exact rfl)
  | with_reducible first
    | refine g_c ?_ | refine g_op ?_ | refine g_un ?_ | refine g_cb ?_ | refine g_cl ?_ | refine g_clk ?_ | refine g_nil ?_ | refine g_cons ?_
    | refine g_tB ?_ | refine g_test ?_ | refine g_bl ?_ | refine g_and ?_ | refine g_or ?_ | refine g_not ?_ | refine g_andV ?_ | refine g_orV ?_ | refine g_notV ?_
    | refine g_if ?_ | refine g_ifS ?_ | refine g_next ?_ | refine g_ret ?_ | refine g_drop ?_ | refine g_asg ?_ | refine g_name ?_ | refine g_sub ?_
    | refine g_int ?_ | refine g_intB ?_ | refine g_abs ?_ | refine g_I0 ?_ | refine g_addI ?_ | refine g_U ?_ | refine g_isNn ?_ | refine g_isNi ?_ | refine g_notN ?_ | refine g_notT1 ?_ | refine g_notT2 ?_ | refine g_notT3 ?_ | refine g_notT4 ?_ | refine g_notTb ?_ | refine g_notTi ?_ | refine g_eqI ?_ | refine g_neI ?_ | refine g_neSs ?_ | refine g_neS ?_ | refine g_eqS ?_
    | refine g_iteT ?_ | refine g_iteF ?_ | refine g_iteNT ?_ | refine g_iteNF ?_ | refine g_lst ?_ | refine g_tup ?_ | refine g_seqP ?_ | refine g_sl ?_ | refine g_noPart ?_ | refine g_part ?_ | refine g_yes ?_ | refine g_thenT ?_ | refine g_consG ?_ | refine g_nilG ?_ | refine g_ii ?_ | refine g_par ?_ | refine g_par3 ?_ | refine g_vv ?_ | refine g_vvv ?_ | refine g_reprB ?_ | refine g_lcL ?_ | refine g_lcR ?_
  | ((with_reducible refine g_mod ?_ ?_); (first | omega | decide))
  | ((with_reducible refine g_div ?_ ?_ ?_); (first | omega | decide); (first | assumption | decide))
  | ((with_reducible refine g_mulL ?_ ?_ ?_); (first | omega | decide); (first | omega | decide))
  | ((with_reducible refine g_mulR ?_ ?_ ?_); (first | omega | decide); (first | omega | decide))
  | ((with_reducible refine g_pow ?_ ?_ ?_ ?_); decide; decide; (first | omega | decide))
  | dsimp only)
local macro_rules | `(tactic| walk_at "mfs") => `(tactic| repeat walk_at "mf1s")
local macro_rules | `(tactic| walk_at "mf") => `(tactic| repeat walk_at "mf1")
local macro_rules | `(tactic| walk_at "ed") => `(tactic| repeat (first
  | with_reducible first
    | exact eds_nil | apply eds_cons | exact ed_int | exact ed_bl | exact ed_non | apply ed_neg
  | ((with_reducible apply ed_str); decide)
  | ((with_reducible apply ed_var); (exact rfl); (first | assumption | exact Dq.int _))
  | ((with_reducible apply ed_dict0); assumption)
  | ((with_reducible apply ed_dict2); assumption)
  | ((with_reducible apply ed_tup); assumption)
  | ((with_reducible apply ed_lst); assumption)
  | (with_reducible apply ed_pow)
  | (with_reducible apply ed_mul)
  | assumption
  | (exact Dq.int _)
  | (exact ⟨by decide, by decide, by decide⟩)
  | (show List.length _ ≤ 1000; simp only [List.length_cons, List.length_nil]; decide)))
theorem ok_without_factor (c : Cn) (T : Tx c) : Cl c 1 "without_factor" s_without_factor ["product", "at"] (sp_wfac c.K) := by
  obtain ⟨P, w, K, mg, base⟩ := c
  refine De.cl (N := ["product", "at", "up", "down", "quotient", "number", "high"]) T.d_without_factor sc_without_factor (fun vs H Q E h => ?_) (fun f0 cdv A outer s H vs Q E hA hr h => ?_)
  · obtain ⟨l, p, R, r, m, n, rfl, _⟩ := h; rfl
  · have S := sc_without_factor
    obtain ⟨l, p, R, r, m, n, rfl, hl, hp, br, hn, bm, hmn, lR, k⟩ := h
    refine ⟨_, (pss_cons (ps_asg (pv 1) (pg_tup rfl (pgs_cons (pg_name (i := 2) S.nd rfl (by first | exact .inl rfl | exact .inr rfl)) (pgs_cons (pg_name (i := 3) S.nd rfl (by first | exact .inl rfl | exact .inr rfl)) pgs_nil))))
      (pss_cons (ps_set (i := 4) S.nd rfl (by first | exact .inl rfl | exact .inr rfl) (pe_lst pa_nil))
      (pss_cons (ps_set (i := 5) S.nd rfl (by first | exact .inl rfl | exact .inr rfl) pe_int)
      (pss_cons (ps_for PassesOwn.never rfl (RT.pi_revA (by rfl) T.n_reversed (pe_slice sl_list (pv 0) (po_some pe_int) po_none)) (pg_name (i := 6) S.nd rfl (by first | exact .inl rfl | exact .inr rfl)) (pss_cons (ps_set (i := 5) S.nd rfl (by first | exact .inl rfl | exact .inr rfl) (pe_op op_fdivW (pe_op op_addU (pv 6) (pe_op op_mulU (pv 2) (pv 5))) (pv 3)))
      (pss_one (ps_expr (pe_bm PySem.F.plainAttrs_list PySem.F.slot_list_append PySem.F.type_list_append mt_append (pv 4) (pa_cons (pv 5) pa_nil))))))
      (pss_one (ps_ret (pe_lstRev rfl (by rfl) T.n_list (by rfl) T.n_reversed (pv 4)))))))), ?_⟩
    walk_at "mf"
    refine g_tupG (tupU hp) rfl ?_
    walk_at "mf"
    refine g_newL (by show 0 ≤ sizeLine; decide) fun pq Hq nq sq eq => ?_
    walk_at "mf"
    refine g_forRA ?_
    walk_at "mf"
    refine g_slL (seqU (sq _ _ hl)) fun pd Hd nd sd ed => ?_
    rw [cut_lo1] at ed
    have lxs : (List.drop 1 ((tf (r.num, (r.den : Int)) R).map V.int)).length = R.length := by rw [List.length_drop, List.length_map, len_tf]; omega
    refine ⟨pd, _, rfl, .inl ⟨seqU ed, ?_⟩⟩
    have eq := sd _ _ eq
    have npq : pd ≠ pq := fun z => by
      rw [z] at nd
      have := sq
      rw [show Hq pq = some (.lst []) from by assumption] at nd
      cases nd
    refine RT.for_Itv (xs := List.drop 1 ((tf (r.num, (r.den : Int)) R).map V.int)) (fun i σ' H' => (∃ s6, σ' = [some (.ref l), some (.ref p), some (.int r.num), some (.int (r.den : Int)), some (.ref pq), some (.int (ic R (R.length - i))), s6]) ∧ (∀ b o, b ≠ pq → Hd b = some o → H' b = some o) ∧ H' pq = some (.lst ((R.drop (R.length - i)).reverse.map V.int)))
      ⟨⟨none, ?_⟩, fun b o _ e => e, ?_⟩ (fun i σ' H' h => seqU (h.2.1 _ _ npq ed)) (fun i x σ' H' hi hx h => ?_) (fun σ' H' h => ?_)
    · rw [Nat.sub_zero, ic_ge (Nat.le_refl _)]
      rfl
    · rw [Nat.sub_zero, List.drop_length]
      exact eq
    · obtain ⟨⟨s6, rfl⟩, hk, hq⟩ := h
      rw [lxs] at hi hx
      obtain ⟨j, hj⟩ : ∃ j, R.length - i = j + 1 := ⟨R.length - i - 1, by omega⟩
      have ex : x = .int (ic (tf (r.num, (r.den : Int)) R) (j + 1)) := by
        rw [List.getElem?_drop, List.getElem?_map] at hx
        obtain ⟨y, hy, rfl⟩ := Option.map_eq_some_iff.mp hx
        rw [show 1 + (R.length - 1 - i) = j + 1 by omega] at hy
        rw [ic_some hy]
      subst ex
      rw [hj] at hq ⊢
      walk_at "mf"
      refine g_mulU (br.1.cm (bm (j + 1)) (by omega)) ?_
      walk_at "mf"
      refine g_div (by have := den1 r; omega) (br.2.log (by omega)) ?_
      walk_at "mf"
      have td := tf_div (r.num, (r.den : Int)) R (by have := den1 r; show (r.den : Int) ≠ 0; omega) j
      have td : (ic (tf (r.num, (r.den : Int)) R) (j + 1) + r.num * ic R (j + 1)) / (r.den : Int) = ic R j := td
      rw [td]
      refine g_bm2 ?_
      walk_at "mf"
      refine ⟨.inl ⟨rfl, _, seqU hq⟩, ?_⟩
      walk_at "mf"
      refine ⟨pq, _, _, rfl, rfl, hq, small1000 (by rw [List.length_map, List.length_reverse, List.length_drop]; omega), ?_⟩
      walk_at "mf"
      have hj2 : R.length - (i + 1) = j := by omega
      refine ⟨⟨_, by rw [hj2]; rfl⟩, fun b o hb e => ?_, ?_⟩
      · rw [upd_ne hb]
        exact hk b o hb e
      · rw [upd_same, hj2]
        have hjl : j < R.length := by omega
        rw [List.drop_eq_getElem_cons hjl, List.reverse_cons, List.map_append]
        rw [show ic R j = R[j] from ic_some (List.getElem?_eq_getElem hjl)]
        rfl
    · obtain ⟨⟨s6, rfl⟩, hk, hq⟩ := h
      rw [lxs, Nat.sub_self, List.drop_zero] at hq
      walk_at "mf"
      refine g_lstRev ?_
      walk_at "mf"
      refine ⟨pq, _, rfl, seqU hq, fun pr nr => ?_⟩
      rw [← List.map_reverse, List.reverse_reverse]
      have sA : ∀ b o, H b = some o → H' b = some o := fun b o e => hk b o (fun z => by rw [z] at e; rw [nq] at e; cases e) (sd _ _ (sq _ _ e))
      refine k pr _ (fun b o e => ?_) ?_ upd_same
      · have hb := sA b o e
        rw [upd_ne (fun z => by rw [z, nr] at hb; cases hb)]
        exact hb
      · cases z : H pr with
        | none => rfl
        | some o =>
          have hb := sA pr o z
          rw [nr] at hb
          cases hb
end Mf
namespace Mf
open PySem PySem.Spec PyProof.Rows L2
local macro_rules | `(tactic| walk_at "mf1") => `(tactic| first
  | ((with_reducible apply g_var); exact rfl)
  | with_reducible first
    | refine g_c ?_ | refine g_op ?_ | refine g_un ?_ | refine g_cb ?_ | refine g_cl ?_ | refine g_clk ?_ | refine g_nil ?_ | refine g_cons ?_
    | refine g_tB ?_ | refine g_test ?_ | refine g_bl ?_ | refine g_and ?_ | refine g_or ?_ | refine g_not ?_ | refine g_andV ?_ | refine g_orV ?_ | refine g_notV ?_
    | refine g_if ?_ | refine g_ifS ?_ | refine g_seq ?_ | refine g_next ?_ | refine g_ret ?_ | refine g_drop ?_ | refine g_asg ?_ | refine g_name ?_ | refine g_sub ?_
    | refine g_int ?_ | refine g_intB ?_ | refine g_abs ?_ | refine g_I0 ?_ | refine g_addI ?_ | refine g_U ?_ | refine g_isNn ?_ | refine g_isNi ?_ | refine g_notN ?_ | refine g_notT1 ?_ | refine g_notT2 ?_ | refine g_notT3 ?_ | refine g_notT4 ?_ | refine g_notTb ?_ | refine g_notTi ?_ | refine g_eqI ?_ | refine g_neI ?_ | refine g_neSs ?_ | refine g_neS ?_ | refine g_eqS ?_
    | refine g_iteT ?_ | refine g_iteF ?_ | refine g_iteNT ?_ | refine g_iteNF ?_ | refine g_lst ?_ | refine g_tup ?_ | refine g_seqP ?_ | refine g_sl ?_ | refine g_noPart ?_ | refine g_part ?_ | refine g_yes ?_ | refine g_thenT ?_ | refine g_consG ?_ | refine g_nilG ?_ | refine g_ii ?_ | refine g_par ?_ | refine g_par3 ?_ | refine g_vv ?_ | refine g_vvv ?_ | refine g_reprB ?_ | refine g_lcL ?_ | refine g_lcR ?_
  | ((with_reducible refine g_mod ?_ ?_); (first | omega | decide))
  | ((with_reducible refine g_div ?_ ?_ ?_); (first | omega | decide); (first | assumption | decide))
  | ((with_reducible refine g_mulL ?_ ?_ ?_); (first | omega | decide); (first | omega | decide))
  | ((with_reducible refine g_mulR ?_ ?_ ?_); (first | omega | decide); (first | omega | decide))
  | ((with_reducible refine g_pow ?_ ?_ ?_ ?_); decide; decide; (first | omega | decide))
  | dsimp only)
local macro_rules | `(tactic| walk_at "mf1s") => `(tactic| first
  | ((with_reducible apply g_var); exact rfl)
  | with_reducible first
    | refine g_c ?_ | refine g_op ?_ | refine g_un ?_ | refine g_cb ?_ | refine g_cl ?_ | refine g_clk ?_ | refine g_nil ?_ | refine g_cons ?_
    | refine g_tB ?_ | refine g_test ?_ | refine g_bl ?_ | refine g_and ?_ | refine g_or ?_ | refine g_not ?_ | refine g_andV ?_ | refine g_orV ?_ | refine g_notV ?_
    | refine g_if ?_ | refine g_ifS ?_ | refine g_next ?_ | refine g_ret ?_ | refine g_drop ?_ | refine g_asg ?_ | refine g_name ?_ | refine g_sub ?_
    | refine g_int ?_ | refine g_intB ?_ | refine g_abs ?_ | refine g_I0 ?_ | refine g_addI ?_ | refine g_U ?_ | refine g_isNn ?_ | refine g_isNi ?_ | refine g_notN ?_ | refine g_notT1 ?_ | refine g_notT2 ?_ | refine g_notT3 ?_ | refine g_notT4 ?_ | refine g_notTb ?_ | refine g_notTi ?_ | refine g_eqI ?_ | refine g_neI ?_ | refine g_neSs ?_ | refine g_neS ?_ | refine g_eqS ?_
    | refine g_iteT ?_ | refine g_iteF ?_ | refine g_iteNT ?_ | refine g_iteNF ?_ | refine g_lst ?_ | refine g_tup ?_ | refine g_seqP ?_ | refine g_sl ?_ | refine g_noPart ?_ | refine g_part ?_ | refine g_yes ?_ | refine g_thenT ?_ | refine g_consG ?_ | refine g_nilG ?_ | refine g_ii ?_ | refine g_par ?_ | refine g_par3 ?_ | refine g_vv ?_ | refine g_vvv ?_ | refine g_reprB ?_ | refine g_lcL ?_ | refine g_lcR ?_
  | ((with_reducible refine g_mod ?_ ?_); (first | omega | decide))
  | ((with_reducible refine g_div ?_ ?_ ?_); (first | omega | decide); (first | assumption | decide))
  | ((with_reducible refine g_mulL ?_ ?_ ?_); (first | omega | decide); (first | omega | decide))
  | ((with_reducible refine g_mulR ?_ ?_ ?_); (first | omega | decide); (first | omega | decide))
  | ((with_reducible refine g_pow ?_ ?_ ?_ ?_); decide; decide; (first | omega | decide))
  | dsimp only)
local macro_rules | `(tactic| walk_at "mfs") => `(tactic| repeat walk_at "mf1s")
local macro_rules | `(tactic| walk_at "mf") => `(tactic| repeat walk_at "mf1")
local macro_rules | `(tactic| walk_at "ed") => `(tactic| repeat (first
  | with_reducible first
    | exact eds_nil | apply eds_cons | exact ed_int | exact ed_bl | exact ed_non | apply ed_neg
  | ((with_reducible apply ed_str); decide)
  | ((with_reducible apply ed_var); (exact rfl); (first | assumption | exact Dq.int _))
  | ((with_reducible apply ed_dict0); assumption)
  | ((with_reducible apply ed_dict2); assumption)
  | ((with_reducible apply ed_tup); assumption)
  | ((with_reducible apply ed_lst); assumption)
  | (with_reducible apply ed_pow)
  | (with_reducible apply ed_mul)
  | assumption
  | (exact Dq.int _)
  | (exact ⟨by decide, by decide, by decide⟩)
  | (show List.length _ ≤ 1000; simp only [List.length_cons, List.length_nil]; decide)))
theorem ok_share_at (c : Cn) (T : Tx c) : Cl c 6 "share_at" s_share_at ["pairs", "k"] (sp_share c.K) := by
  obtain ⟨P, w, K, mg, base⟩ := c
  have C_divided := ok_divided _ T
  refine De.cl (N := ["pairs", "k", "up", "down", "top", "bottom", "other", "below", "_"]) T.d_share_at sc_share_at (fun vs H Q E h => ?_) (fun f0 cdv A outer s H vs Q E hA hr h => ?_)
  · obtain ⟨a, ws, rs, k, r, v, A, B, rfl, _⟩ := h; rfl
  · have S := sc_share_at
    obtain ⟨a, ws, rs, kk, r, v, A, B, rfl, ha, tp, hk, l40, bA, bB, A1, B1, hAB, hne, k⟩ := h
    refine ⟨_, (pss_cons (ps_asg (pe_ix ix_seq (pv 0) (pv 1) (fun _ _ => rfl)) (pg_tup rfl (pgs_cons (pg_tup rfl (pgs_cons (pg_name (i := 2) S.nd rfl (by first | exact .inl rfl | exact .inr rfl)) (pgs_cons (pg_name (i := 3) S.nd rfl (by first | exact .inl rfl | exact .inr rfl)) pgs_nil))) (pgs_cons (pg_tup rfl (pgs_cons (pg_name (i := 4) S.nd rfl (by first | exact .inl rfl | exact .inr rfl)) (pgs_cons (pg_name (i := 5) S.nd rfl (by first | exact .inl rfl | exact .inr rfl)) pgs_nil))) pgs_nil))))
      (pss_cons (ps_for PassesOwn.never rfl (pi_list (pe_lst (StX.pa_star (pe_slice sl_list (pv 0) po_none (po_some (pv 1))) (StX.pa_star (pe_slice sl_list (pv 0) (po_some (pe_op op_addU (pv 1) pe_int)) po_none) pa_nil)))) (pg_tup rfl (pgs_cons (pg_tup rfl (pgs_cons (pg_name (i := 6) S.nd rfl (by first | exact .inl rfl | exact .inr rfl)) (pgs_cons (pg_name (i := 7) S.nd rfl (by first | exact .inl rfl | exact .inr rfl)) pgs_nil))) (pgs_cons (pg_name (i := 8) S.nd rfl (by first | exact .inl rfl | exact .inr rfl)) pgs_nil))) (pss_cons (ps_aug (i := 4) S.nd rfl (by first | exact .inl rfl | exact .inr rfl) (pv 3) ip_mulB)
      (pss_one (ps_aug (i := 5) S.nd rfl (by first | exact .inl rfl | exact .inr rfl) (pe_op op_sub (pe_op op_mulU (pv 7) (pv 2)) (pe_op op_mulU (pv 6) (pv 3))) ip_mulB))))
      (pss_one (ps_ret (pe_f C_divided hA hr (by decide) pl_divided (by rfl) (pa_cons (pv 4) (pa_cons (pv 5) pa_nil))))))), ?_⟩
    have lw := tp.len
    have hkl := (List.getElem?_eq_some_iff.mp hk).1
    obtain ⟨c, p1, p2, r0, e0, er0, ec, ep1, ep2⟩ := tp.get (i := kk) (v := ws[kk]) (List.getElem?_eq_getElem (by omega))
    obtain rfl : r0 = (r, v) := Option.some.inj (er0.symm.trans hk)
    have bR : Rb A r := bA _ (List.mem_of_getElem? hk)
    walk_at "mf"
    refine g_ix (.inl (seqU ha)) (v := .ref c) (at_of (j := kk) (by omega) (by rw [List.getElem?_eq_getElem (by omega), e0])) ?_
    refine g_tupG (tupU ec) rfl ?_
    walk_at "mf"
    refine g_tupG (tupU ep1) rfl ?_
    walk_at "mf"
    refine g_tupG (tupU ep2) rfl ?_
    walk_at "mf"
    refine g_forLE ?_
    walk_at "mf"
    refine g_star ?_
    walk_at "mf"
    refine g_slL (seqU ha) fun q1 H1 n1 s1 e1 => ?_
    rw [cut_hi (by omega)] at e1
    refine ⟨q1, _, rfl, .inr (seqU e1), ?_⟩
    refine g_star ?_
    walk_at "mf"
    refine g_slL (seqU (s1 _ _ ha)) fun q2 H2 n2 s2 e2 => ?_
    rw [show (some ((kk : Int) + 1) : Option Int) = some ((kk + 1 : Nat) : Int) from by congr 1, cut_lo (by omega)] at e2
    refine ⟨q2, _, rfl, .inr (seqU e2), ?_⟩
    walk_at "mf"
    rw [List.append_nil]
    refine g_newL (Nat.le_of_lt (small1000 (by rw [List.length_append, List.length_take, List.length_drop]; omega))) fun q3 H3 n3 s3 e3 => ?_
    refine ⟨q3, rfl, ⟨_, seqU e3⟩, ?_⟩
    have sA := (s1.trans s2).trans s3
    have to : PP H3 (ws.take kk ++ ws.drop (kk + 1)) (oth rs kk) := ((tp.take kk).app (tp.drop (kk + 1))).go (Same.kt sA)
    have lo := to.len
    have lo40 : (oth rs kk).length ≤ 40 := by unfold oth; rw [List.length_append, List.length_take, List.length_drop]; omega
    have boA : ∀ s ∈ (oth rs kk).map (·.1), Rb A s := fun s hs => by
      obtain ⟨z, hz, rfl⟩ := List.mem_map.mp hs
      refine bA z ?_
      unfold oth at hz
      rcases List.mem_append.mp hz with h | h
      · exact List.mem_of_mem_take h
      · exact List.mem_of_mem_drop h
    generalize hO : (oth rs kk).map (·.1) = O at *
    have lO : O.length = (oth rs kk).length := by rw [← hO, List.length_map]
    have iA : ∀ i, i ≤ O.length → i * A ≤ 40 * A := fun i hi => Nat.mul_le_mul_right _ (by omega)
    have iB : ∀ i, i ≤ O.length → i * (A + A + 1) ≤ 40 * (A + A + 1) := fun i hi => Nat.mul_le_mul_right _ (by omega)
    have bt : ∀ i, i ≤ O.length → Bt (B + 40 * A) (shT r (O.take i) v.num) := fun i hi => (shT_bt bR bB.1).mono (by rw [List.length_take]; have := iA (min i O.length) (by omega); omega)
    have bb : ∀ i, i ≤ O.length → Bt (B + 40 * (A + A + 1)) (shB r (O.take i) (v.den : Int)) := fun i hi => (shB_bt bR (fun s hs => boA s (List.mem_of_mem_take hs)) bB.2).mono (by rw [List.length_take]; have := iB (min i O.length) (by omega); omega)
    refine forgo_list (xs := ws.take kk ++ ws.drop (kk + 1)) (fun i σ' H' => Same H3 H' ∧ ∃ s6 s7 s8, σ' = [some (.ref a), some (.int (kk : Int)), some (.int r.num), some (.int (r.den : Int)), some (.int (shT r (O.take i) v.num)), some (.int (shB r (O.take i) (v.den : Int))), s6, s7, s8]) ⟨Same.refl _, _, _, _, rfl⟩ (fun i σ' H' h => seqU (h.1 _ _ e3)) (fun i x σ' H' hx h => ?_) (fun σ' H' h => ?_)
    · obtain ⟨sH, s6, s7, s8, rfl⟩ := h
      have hi := (List.getElem?_eq_some_iff.mp hx).1
      have hi : i < O.length := by rw [lO, ← lo]; exact hi
      obtain ⟨d, b1, b2, s, rfl, hs, ed, eb1, eb2⟩ := (to.go (Same.kt sH)).get hx
      have eo : O[i]? = some s.1 := by rw [← hO, List.getElem?_map, hs]; rfl
      have bs : Rb A s.1 := boA _ (List.mem_of_getElem? eo)
      refine g_tupG (tupU ed) rfl ?_
      walk_at "mf"
      refine g_tupG (tupU eb1) rfl ?_
      walk_at "mf"
      refine ⟨_, rfl, ?_⟩
      walk_at "mf"
      refine ⟨_, _, _, A, rfl, rfl, bt i (by omega), bR.2, by omega, ?_⟩
      walk_at "mf"
      refine ⟨_, rfl, ?_⟩
      walk_at "mf"
      refine g_mulU (bs.2.cm bR.1 (by omega)) ?_
      walk_at "mf"
      refine g_mulU (bs.1.cm bR.2 (by omega)) ?_
      walk_at "mf"
      refine ⟨_, _, _, A + A + 1, rfl, rfl, bb i (by omega), fac_bt bR bs, by omega, ?_⟩
      walk_at "mf"
      refine ⟨sH, some (.int s.1.num), some (.int (s.1.den : Int)), some (.ref b2), ?_⟩
      rw [take_snoc eo]
      unfold shT shB
      rw [List.foldl_append, List.foldl_append]
      rfl
    · obtain ⟨sH, s6, s7, s8, rfl⟩ := h
      rw [show (ws.take kk ++ ws.drop (kk + 1)).length = O.length from lo.trans lO.symm, List.take_length]
      have bt := bt O.length (Nat.le_refl _)
      have bb := bb O.length (Nat.le_refl _)
      rw [List.take_length] at bt bb
      walk_at "mf"
      have nz : Rat.divInt (shB r O (v.den : Int)) 1 ≠ 0 := fun z => by
        have z2 : Rat.divInt (shB r O (v.den : Int)) 1 = Rat.divInt 0 1 := by rw [z, Rat.zero_divInt]
        have := (Rat.divInt_eq_divInt_iff (by decide) (by decide)).mp z2
        exact shB_ne (z := (v.den : Int)) (by have := den1 v; omega) hne (by omega)
      refine ⟨0, _, _, _, _, B + 40 * A, B + 40 * (A + A + 1), rfl, Fr.int bt (by omega), Fr.int bb (by omega), by omega, nz, ?_⟩
      exact (k.same sA).same sH
end Mf
namespace Mf
open PySem PySem.Spec PyProof.Rows L2
local macro_rules | `(tactic| walk_at "mf1") => `(tactic| first
  | ((with_reducible apply g_var); exact rfl)
  | with_reducible first
    | refine g_c ?_ | refine g_op ?_ | refine g_un ?_ | refine g_cb ?_ | refine g_cl ?_ | refine g_clk ?_ | refine g_nil ?_ | refine g_cons ?_
    | refine g_tB ?_ | refine g_test ?_ | refine g_bl ?_ | refine g_and ?_ | refine g_or ?_ | refine g_not ?_ | refine g_andV ?_ | refine g_orV ?_ | refine g_notV ?_
    | refine g_if ?_ | refine g_ifS ?_ | refine g_seq ?_ | refine g_next ?_ | refine g_ret ?_ | refine g_drop ?_ | refine g_asg ?_ | refine g_name ?_ | refine g_sub ?_
    | refine g_int ?_ | refine g_intB ?_ | refine g_abs ?_ | refine g_I0 ?_ | refine g_addI ?_ | refine g_U ?_ | refine g_isNn ?_ | refine g_isNi ?_ | refine g_notN ?_ | refine g_notT1 ?_ | refine g_notT2 ?_ | refine g_notT3 ?_ | refine g_notT4 ?_ | refine g_notTb ?_ | refine g_notTi ?_ | refine g_eqI ?_ | refine g_neI ?_ | refine g_neSs ?_ | refine g_neS ?_ | refine g_eqS ?_
    | refine g_iteT ?_ | refine g_iteF ?_ | refine g_iteNT ?_ | refine g_iteNF ?_ | refine g_lst ?_ | refine g_tup ?_ | refine g_seqP ?_ | refine g_sl ?_ | refine g_noPart ?_ | refine g_part ?_ | refine g_yes ?_ | refine g_thenT ?_ | refine g_consG ?_ | refine g_nilG ?_ | refine g_ii ?_ | refine g_par ?_ | refine g_par3 ?_ | refine g_vv ?_ | refine g_vvv ?_ | refine g_reprB ?_ | refine g_lcL ?_ | refine g_lcR ?_
  | ((with_reducible refine g_mod ?_ ?_); (first | omega | decide))
  | ((with_reducible refine g_div ?_ ?_ ?_); (first | omega | decide); (first | assumption | decide))
  | ((with_reducible refine g_mulL ?_ ?_ ?_); (first | omega | decide); (first | omega | decide))
  | ((with_reducible refine g_mulR ?_ ?_ ?_); (first | omega | decide); (first | omega | decide))
  | ((with_reducible refine g_pow ?_ ?_ ?_ ?_); decide; decide; (first | omega | decide))
  | dsimp only)
local macro_rules | `(tactic| walk_at "mf1s") => `(tactic| first
  | ((with_reducible apply g_var); exact rfl)
  | with_reducible first
    | refine g_c ?_ | refine g_op ?_ | refine g_un ?_ | refine g_cb ?_ | refine g_cl ?_ | refine g_clk ?_ | refine g_nil ?_ | refine g_cons ?_
    | refine g_tB ?_ | refine g_test ?_ | refine g_bl ?_ | refine g_and ?_ | refine g_or ?_ | refine g_not ?_ | refine g_andV ?_ | refine g_orV ?_ | refine g_notV ?_
    | refine g_if ?_ | refine g_ifS ?_ | refine g_next ?_ | refine g_ret ?_ | refine g_drop ?_ | refine g_asg ?_ | refine g_name ?_ | refine g_sub ?_
    | refine g_int ?_ | refine g_intB ?_ | refine g_abs ?_ | refine g_I0 ?_ | refine g_addI ?_ | refine g_U ?_ | refine g_isNn ?_ | refine g_isNi ?_ | refine g_notN ?_ | refine g_notT1 ?_ | refine g_notT2 ?_ | refine g_notT3 ?_ | refine g_notT4 ?_ | refine g_notTb ?_ | refine g_notTi ?_ | refine g_eqI ?_ | refine g_neI ?_ | refine g_neSs ?_ | refine g_neS ?_ | refine g_eqS ?_
    | refine g_iteT ?_ | refine g_iteF ?_ | refine g_iteNT ?_ | refine g_iteNF ?_ | refine g_lst ?_ | refine g_tup ?_ | refine g_seqP ?_ | refine g_sl ?_ | refine g_noPart ?_ | refine g_part ?_ | refine g_yes ?_ | refine g_thenT ?_ | refine g_consG ?_ | refine g_nilG ?_ | refine g_ii ?_ | refine g_par ?_ | refine g_par3 ?_ | refine g_vv ?_ | refine g_vvv ?_ | refine g_reprB ?_ | refine g_lcL ?_ | refine g_lcR ?_
  | ((with_reducible refine g_mod ?_ ?_); (first | omega | decide))
  | ((with_reducible refine g_div ?_ ?_ ?_); (first | omega | decide); (first | assumption | decide))
  | ((with_reducible refine g_mulL ?_ ?_ ?_); (first | omega | decide); (first | omega | decide))
  | ((with_reducible refine g_mulR ?_ ?_ ?_); (first | omega | decide); (first | omega | decide))
  | ((with_reducible refine g_pow ?_ ?_ ?_ ?_); decide; decide; (first | omega | decide))
  | dsimp only)
local macro_rules | `(tactic| walk_at "mfs") => `(tactic| repeat walk_at "mf1s")
local macro_rules | `(tactic| walk_at "mf") => `(tactic| repeat walk_at "mf1")
local macro_rules | `(tactic| walk_at "ed") => `(tactic| repeat (first
  | with_reducible first
    | exact eds_nil | apply eds_cons | exact ed_int | exact ed_bl | exact ed_non | apply ed_neg
  | ((with_reducible apply ed_str); decide)
  | ((with_reducible apply ed_var); (exact rfl); (first | assumption | exact Dq.int _))
  | ((with_reducible apply ed_dict0); assumption)
  | ((with_reducible apply ed_dict2); assumption)
  | ((with_reducible apply ed_tup); assumption)
  | ((with_reducible apply ed_lst); assumption)
  | (with_reducible apply ed_pow)
  | (with_reducible apply ed_mul)
  | assumption
  | (exact Dq.int _)
  | (exact ⟨by decide, by decide, by decide⟩)
  | (show List.length _ ≤ 1000; simp only [List.length_cons, List.length_nil]; decide)))
theorem lcm_take (rs : List Rat) (i : Nat) : lcmL (rs.take i) ∣ lcmL rs := by
  have h := (dvd_fold (rs.drop i) (lcmL (rs.take i))).1
  have e : (rs.drop i).foldl (fun d r => Nat.lcm d r.den) (lcmL (rs.take i)) = lcmL rs := by
    unfold lcmL
    rw [← List.foldl_append, List.take_append_drop]
  rw [e] at h
  exact h
def RetOL (rs : List Rat) (n M : Nat) (H : Hp) (Q : VK) : Prop := ∀ (p : Addr) (H' : Hp) (L : Addr) (us : List Int), Same H H' → H p = none → H' p = some (.tup [.ref L, .int (lcmL rs : Int)]) → H' L = some (.lst (us.map V.int)) → us.length = rs.length →
  (∀ i, i < rs.length → ∃ u, us[i]? = some u ∧ Rat.divInt u (lcmL rs : Int) = co rs i ∧ Bt (n + M) u) → Q (.ref p) H'
def sp_oodL (K : PySem.W.Frag) : Sp := fun vs H Q _ => ∃ a xs rs n M, vs = [.ref a] ∧ H a = some (.lst xs) ∧ TL H xs rs ∧ RbL n rs ∧ rs.length ≤ 100 ∧ 1 ≤ n ∧ n ≤ 4900 ∧ M ≤ 4900 ∧ Bt M (lcmL rs : Int) ∧ RetOL rs n M H Q
theorem ok_over_one_down (c : Cn) (T : Tx c) : Cl c 1 "over_one_down" s_over_one_down ["some"] (sp_oodL c.K) := by
  obtain ⟨P, w, K, mg, base⟩ := c
  refine De.cl (N := ["some", "down", "_", "below", "up"]) T.d_over_one_down sc_over_one_down (fun vs H Q E h => ?_) (fun f0 cdv A outer s H vs Q E hA hr h => ?_)
  · obtain ⟨a, xs, rs, n, M, rfl, _⟩ := h; rfl
  · have S := sc_over_one_down
    obtain ⟨a, xs, rs, n, M, rfl, ea, tl, bl, hl, hn, hn2, hM, hbM, k⟩ := h
    refine ⟨_, (pss_cons (ps_set (i := 1) S.nd rfl (by first | exact .inl rfl | exact .inr rfl) pe_int)
      (pss_cons (ps_for PassesOwn.never rfl (pi_list (pv 0)) (pg_tup rfl (pgs_cons (pg_name (i := 2) S.nd rfl (by first | exact .inl rfl | exact .inr rfl)) (pgs_cons (pg_name (i := 3) S.nd rfl (by first | exact .inl rfl | exact .inr rfl)) pgs_nil))) (pss_one (ps_set (i := 1) S.nd rfl (by first | exact .inl rfl | exact .inr rfl) (pe_callBfun cr_lcm (by rfl) T.m_lcm (pa_cons (pv 1) (pa_cons (pv 3) pa_nil))))))
      (pss_one (ps_ret (pe_tup (pa_cons (pe_lc (own := [("up", 4), ("below", 3)]) (g := g2 K 4 3) (tt := tYes) rfl S.nd (pi_list (pv 0)) (blkOk_by (N := ["some", "down", "_", "below", "up"]) (sc := defScope s_over_one_down) (by decide +kernel)) (fun _ _ _ _ _ => pg_tup rfl (pgs_cons (pg_name (i := 4) S.nd rfl (Or.inl rfl)) (pgs_cons (pg_name (i := 3) S.nd rfl (Or.inl rfl)) pgs_nil))) (fun _ _ _ _ _ => pts_nil) (fun _ _ _ _ _ => (pe_op op_mulU (pv 4) (pe_op op_fdivW (pv 1) (pv 3))))) (pa_cons (pv 1) pa_nil))))))), ?_⟩
    have hlen := tl.len
    have hpos := lcmL_pos rs
    have bt : ∀ i, Bt M (lcmL (rs.take i) : Int) := fun i => by
      have h := Nat.le_of_dvd hpos (lcm_take rs i)
      show ((lcmL (rs.take i) : Nat) : Int).natAbs < 2 ^ M
      have h2 : ((lcmL rs : Nat) : Int).natAbs < 2 ^ M := hbM
      rw [Int.natAbs_natCast] at *
      omega
    walk_at "mf"
    refine g_forLE ?_
    walk_at "mf"
    refine ⟨a, rfl, ⟨_, seqU ea⟩, ?_⟩
    refine forgo_list (xs := xs) (fun i σ' H' => H' = H ∧ ∃ s2 s3, σ' = [some (.ref a), some (.int (lcmL (rs.take i) : Int)), s2, s3, none]) ⟨rfl, _, _, rfl⟩ (fun i σ' H' h => by rw [h.1]; exact seqU ea) (fun i x σ' H' hx h => ?_) (fun σ' H' h => ?_)
    · obtain ⟨rfl, s2, s3, rfl⟩ := h
      obtain ⟨b, rfl, eb, gi⟩ := tl.get hx
      refine g_pair (tupU eb) ?_
      walk_at "mf"
      refine g_lcm ((bt i).mono (by omega)) ((bl.co hn i).2.mono (by omega)) ?_
      walk_at "mf"
      refine ⟨rfl, some (.int (co rs i).num), some (.int ((co rs i).den : Int)), ?_⟩
      rw [take_snoc gi, lcmL_snoc, Int.natAbs_natCast, Int.natAbs_natCast]
      rfl
    · obtain ⟨rfl, s2, s3, rfl⟩ := h
      rw [hlen, List.take_length]
      have dv := (dvd_fold rs 1).2
      generalize hD : lcmL rs = D at *
      have dv : ∀ r ∈ rs, r.den ∣ D := by rw [← hD]; exact dv
      walk_at "mf"
      refine ⟨a, rfl, ⟨_, seqU ea⟩, ?_⟩
      refine lcgo_listP (xs := xs) (fun L i H2 => Same H' H2 ∧ ∃ us : List Int, H2 L = some (.lst (us.map V.int)) ∧ us.length = i ∧ ∀ j, j < i → ∃ u, us[j]? = some u ∧ Rat.divInt u (D : Int) = co rs j ∧ Bt (n + M) u) (fun x y => rfl)
        (fun L hL => ⟨same_new hL, [], upd_same, rfl, fun j hj => absurd hj (Nat.not_lt_zero _)⟩) (fun L i H2 _ h => seqU (h.1 _ _ ea)) (fun L i x H2 hL hx h => ?_) (fun L H2 hL h => ?_)
      · obtain ⟨h1, us, h2, h3, h4⟩ := h
        obtain ⟨b, rfl, eb, gi⟩ := (tl.go (Same.kt h1)).get hx
        have hi := (List.getElem?_eq_some_iff.mp gi).1
        refine ⟨b, _, _, rfl, tupU eb, ?_⟩
        have br := bl.co hn i
        have hdv : (co rs i).den ∣ D := dv _ (List.mem_of_getElem? gi)
        have bq : Bt M ((D : Int) / ((co rs i).den : Int)) := by
          refine Nat.lt_of_le_of_lt (Int.natAbs_ediv_le_natAbs _ _) hbM
        walk_at "mf"
        refine g_div (by have := den1 (co rs i); omega) (br.2.log (by omega)) ?_
        walk_at "mf"
        refine g_mulU (br.1.cm bq (by omega)) ?_
        walk_at "mf"
        refine ⟨_, h2, small1000 (by rw [List.length_map]; omega), ?_, us ++ [(co rs i).num * ((D : Int) / ((co rs i).den : Int))], ?_, by rw [List.length_append, h3]; rfl, fun j hj => ?_⟩
        · intro c o e
          rw [upd_ne (ne_of_none e hL)]
          exact h1 _ _ e
        · rw [upd_same, List.map_append]
          rfl
        · by_cases z : j < i
          · obtain ⟨u, e1, e2⟩ := h4 j z
            exact ⟨u, by rw [List.getElem?_append_left (by omega)]; exact e1, e2⟩
          · have e : j = i := by omega
            subst e
            refine ⟨_, ?_, one_down hpos hdv, br.1.mul bq⟩
            rw [List.getElem?_append_right (by omega), h3, Nat.sub_self]
            rfl
      · obtain ⟨h1, us, h2, h3, h4⟩ := h
        rw [hlen] at h3 h4
        walk_at "mf"
        refine g_newT (by show 2 ≤ sizeLine; decide) fun p H3 np s3 e3 => ?_
        rw [← hD] at e3 h4
        exact k p H3 L us (h1.trans s3) (h1.free np) e3 (s3 _ _ h2) h3 h4
end Mf
namespace Mf
open PySem PySem.Spec PyProof.Rows L2
local macro_rules | `(tactic| walk_at "mf1") => `(tactic| first
  | ((with_reducible apply g_var); exact rfl)
  | with_reducible first
    | refine g_c ?_ | refine g_op ?_ | refine g_un ?_ | refine g_cb ?_ | refine g_cl ?_ | refine g_clk ?_ | refine g_nil ?_ | refine g_cons ?_
    | refine g_tB ?_ | refine g_test ?_ | refine g_bl ?_ | refine g_and ?_ | refine g_or ?_ | refine g_not ?_ | refine g_andV ?_ | refine g_orV ?_ | refine g_notV ?_
    | refine g_if ?_ | refine g_ifS ?_ | refine g_seq ?_ | refine g_next ?_ | refine g_ret ?_ | refine g_drop ?_ | refine g_asg ?_ | refine g_name ?_ | refine g_sub ?_
    | refine g_int ?_ | refine g_intB ?_ | refine g_abs ?_ | refine g_I0 ?_ | refine g_addI ?_ | refine g_U ?_ | refine g_isNn ?_ | refine g_isNi ?_ | refine g_notN ?_ | refine g_notT1 ?_ | refine g_notT2 ?_ | refine g_notT3 ?_ | refine g_notT4 ?_ | refine g_notTb ?_ | refine g_notTi ?_ | refine g_eqI ?_ | refine g_neI ?_ | refine g_neSs ?_ | refine g_neS ?_ | refine g_eqS ?_
    | refine g_iteT ?_ | refine g_iteF ?_ | refine g_iteNT ?_ | refine g_iteNF ?_ | refine g_lst ?_ | refine g_tup ?_ | refine g_seqP ?_ | refine g_sl ?_ | refine g_noPart ?_ | refine g_part ?_ | refine g_yes ?_ | refine g_thenT ?_ | refine g_consG ?_ | refine g_nilG ?_ | refine g_ii ?_ | refine g_par ?_ | refine g_par3 ?_ | refine g_vv ?_ | refine g_vvv ?_ | refine g_reprB ?_ | refine g_lcL ?_ | refine g_lcR ?_
  | ((with_reducible refine g_mod ?_ ?_); (first | omega | decide))
  | ((with_reducible refine g_div ?_ ?_ ?_); (first | omega | decide); (first | assumption | decide))
  | ((with_reducible refine g_mulL ?_ ?_ ?_); (first | omega | decide); (first | omega | decide))
  | ((with_reducible refine g_mulR ?_ ?_ ?_); (first | omega | decide); (first | omega | decide))
  | ((with_reducible refine g_pow ?_ ?_ ?_ ?_); decide; decide; (first | omega | decide))
  | dsimp only)
local macro_rules | `(tactic| walk_at "mf1s") => `(tactic| first
  | ((with_reducible apply g_var); exact rfl)
  | with_reducible first
    | refine g_c ?_ | refine g_op ?_ | refine g_un ?_ | refine g_cb ?_ | refine g_cl ?_ | refine g_clk ?_ | refine g_nil ?_ | refine g_cons ?_
    | refine g_tB ?_ | refine g_test ?_ | refine g_bl ?_ | refine g_and ?_ | refine g_or ?_ | refine g_not ?_ | refine g_andV ?_ | refine g_orV ?_ | refine g_notV ?_
    | refine g_if ?_ | refine g_ifS ?_ | refine g_next ?_ | refine g_ret ?_ | refine g_drop ?_ | refine g_asg ?_ | refine g_name ?_ | refine g_sub ?_
    | refine g_int ?_ | refine g_intB ?_ | refine g_abs ?_ | refine g_I0 ?_ | refine g_addI ?_ | refine g_U ?_ | refine g_isNn ?_ | refine g_isNi ?_ | refine g_notN ?_ | refine g_notT1 ?_ | refine g_notT2 ?_ | refine g_notT3 ?_ | refine g_notT4 ?_ | refine g_notTb ?_ | refine g_notTi ?_ | refine g_eqI ?_ | refine g_neI ?_ | refine g_neSs ?_ | refine g_neS ?_ | refine g_eqS ?_
    | refine g_iteT ?_ | refine g_iteF ?_ | refine g_iteNT ?_ | refine g_iteNF ?_ | refine g_lst ?_ | refine g_tup ?_ | refine g_seqP ?_ | refine g_sl ?_ | refine g_noPart ?_ | refine g_part ?_ | refine g_yes ?_ | refine g_thenT ?_ | refine g_consG ?_ | refine g_nilG ?_ | refine g_ii ?_ | refine g_par ?_ | refine g_par3 ?_ | refine g_vv ?_ | refine g_vvv ?_ | refine g_reprB ?_ | refine g_lcL ?_ | refine g_lcR ?_
  | ((with_reducible refine g_mod ?_ ?_); (first | omega | decide))
  | ((with_reducible refine g_div ?_ ?_ ?_); (first | omega | decide); (first | assumption | decide))
  | ((with_reducible refine g_mulL ?_ ?_ ?_); (first | omega | decide); (first | omega | decide))
  | ((with_reducible refine g_mulR ?_ ?_ ?_); (first | omega | decide); (first | omega | decide))
  | ((with_reducible refine g_pow ?_ ?_ ?_ ?_); decide; decide; (first | omega | decide))
  | dsimp only)
local macro_rules | `(tactic| walk_at "mfs") => `(tactic| repeat walk_at "mf1s")
local macro_rules | `(tactic| walk_at "mf") => `(tactic| repeat walk_at "mf1")
local macro_rules | `(tactic| walk_at "ed") => `(tactic| repeat (first
  | with_reducible first
    | exact eds_nil | apply eds_cons | exact ed_int | exact ed_bl | exact ed_non | apply ed_neg
  | ((with_reducible apply ed_str); decide)
  | ((with_reducible apply ed_var); (exact rfl); (first | assumption | exact Dq.int _))
  | ((with_reducible apply ed_dict0); assumption)
  | ((with_reducible apply ed_dict2); assumption)
  | ((with_reducible apply ed_tup); assumption)
  | ((with_reducible apply ed_lst); assumption)
  | (with_reducible apply ed_pow)
  | (with_reducible apply ed_mul)
  | assumption
  | (exact Dq.int _)
  | (exact ⟨by decide, by decide, by decide⟩)
  | (show List.length _ ≤ 1000; simp only [List.length_cons, List.length_nil]; decide)))
theorem ok_trimmed (c : Cn) (T : Tx c) : Cl c 1 "trimmed" s_trimmed ["numbers"] (sp_trim c.K) := by
  obtain ⟨P, w, K, mg, base⟩ := c
  refine De.cl (N := ["numbers", "length"]) T.d_trimmed sc_trimmed (fun vs H Q E h => ?_) (fun f0 cdv A outer s H vs Q E hA hr h => ?_)
  · obtain ⟨a, xs, rs, rfl, _⟩ := h; rfl
  · have S := sc_trimmed
    obtain ⟨a, xs, rs, rfl, hS, hT, hl, k⟩ := h
    refine ⟨_, (pss_cons (ps_set (i := 1) S.nd rfl (by first | exact .inl rfl | exact .inr rfl) (pe_callB call_lenU (by rfl) T.n_len PySem.boot_len (pa_cons (pv 0) pa_nil)))
      (pss_cons (ps_while PassesOwn.never (PW.pt (pw_and (pt_cmpR op_gt (pv 1) pe_int (nomark _)) (pw_and1 (pt_cmpR (show OpR _ (compareOp .Eq) (rEqU K) from op_eqU (by exact hr.units)) (pe_ix ix_seq (pv 0) (pe_op op_sub (pv 1) pe_int) (fun _ _ => rfl)) (pe_tup (pa_cons pe_int (pa_cons pe_int pa_nil))) (nomark _))))) (pss_one (ps_aug (i := 1) S.nd rfl (by first | exact .inl rfl | exact .inr rfl) pe_int ip_sub)))
      (pss_one (ps_ret (pe_tupleOf (by rfl) T.n_tuple (pe_slice sl_list (pv 0) po_none (po_some (pv 1)))))))), ?_⟩
    have hlen := hT.len
    walk_at "mf"
    refine g_len (.inl hS) ?_
    walk_at "mf"
    refine ⟨fun m σ' H' => ∃ n : Nat, σ' = [some (.ref a), some (.int (n : Nat))] ∧ n ≤ rs.length ∧ tlen rs n = tlen rs rs.length ∧ m = n ∧ Same H H', ⟨xs.length, xs.length, rfl, by omega, by rw [hlen], rfl, Same.refl _⟩, ?_⟩
    intro m σ' H' hW
    obtain ⟨n, rfl, hn, htl, rfl, sW⟩ := hW
    have last : ∀ H2, Same H H2 → tlen rs m = m → ∀ p H3, H2 p = none → Same H2 H3 → H3 p = some (.tup (xs.take m)) → Q (.ref p) H3 := fun H2 s2 e p H3 np s3 e3 => by
      refine k p H3 _ (s2.trans s3) (s2.free np) e3 ?_
      unfold trimR
      rw [← htl, e]
      exact (hT.go (Same.kt (s2.trans s3))).take m
    walk_at "mf"
    refine g_ite (fun h => ?_) (fun h => ?_)
    · have h := of_decide_eq_true h
      obtain ⟨n, rfl⟩ : ∃ n, m = n + 1 := ⟨m - 1, by omega⟩
      obtain ⟨pa, hx, ea⟩ := hT.at (i := n) (by omega)
      walk_at "mf"
      refine g_ix (.inl (sW.seq hS)) (at_of (j := n) (by omega) hx) ?_
      walk_at "mf"
      refine g_newT (by show 2 ≤ sizeLine; decide) fun pz Hz nz sz ez => ?_
      walk_at "mf"
      refine g_eqZ (tupU (sz _ _ (sW _ _ ea))) (tupU ez) ?_
      walk_at "mf"
      refine g_ite (fun hz => ?_) (fun hz => ?_)
      · have hz := of_decide_eq_true hz
        refine ⟨fun σ2 H2 => σ2 = [some (.ref a), some (.int (n : Nat))] ∧ Same H H2, ?_, ?_⟩
        · intro σ2 H2 hN
          obtain ⟨rfl, s2⟩ := hN
          refine ⟨n, by omega, n, rfl, by omega, ?_, rfl, s2⟩
          rw [← htl]
          show _ = (if co rs n = 0 then tlen rs n else n + 1)
          rw [if_pos hz]
        · walk_at "mf"
          refine ⟨_, rfl, ?_⟩
          walk_at "mf"
          refine ⟨_, _, rfl, rfl, ?_⟩
          exact ⟨by show [some (V.ref a), some (V.int (((n + 1 : Nat) : Int) - 1))] = _; rw [show ((n + 1 : Nat) : Int) - 1 = (n : Int) by omega], sW.trans sz⟩
      · have hz := of_decide_eq_false hz
        walk_at "mf"
        refine g_slL (((sW.trans sz) : Same H _).seq hS) fun p2 H2 n2 s2 e2 => ?_
        rw [cut_hi (by omega)] at e2
        walk_at "mf"
        refine g_tupOf (seqU e2) fun p3 H3 n3 s3 e3 => ?_
        exact last _ (((sW.trans sz) : Same H _).trans s2) (by show (if co rs n = 0 then tlen rs n else n + 1) = _; rw [if_neg hz]) p3 H3 n3 s3 e3
    · have h := of_decide_eq_false h
      obtain rfl : m = 0 := by omega
      walk_at "mf"
      refine g_slL (sW.seq hS) fun p2 H2 n2 s2 e2 => ?_
      rw [cut_hi (by omega)] at e2
      walk_at "mf"
      refine g_tupOf (seqU e2) fun p3 H3 n3 s3 e3 => ?_
      exact last _ (sW.trans s2) rfl p3 H3 n3 s3 e3
theorem ok__law_trimmed (c : Cn) (T : Tx c) : Cl c 1 "_law_trimmed" s__law_trimmed ["row"] (sp_trim c.K) := by
  obtain ⟨P, w, K, mg, base⟩ := c
  refine De.cl (N := ["row", "many"]) T.d__law_trimmed sc__law_trimmed (fun vs H Q E h => ?_) (fun f0 cdv A outer s H vs Q E hA hr h => ?_)
  · obtain ⟨a, xs, rs, rfl, _⟩ := h; rfl
  · have S := sc__law_trimmed
    obtain ⟨a, xs, rs, rfl, hS, hT, hl, k⟩ := h
    refine ⟨_, (pss_cons (ps_set (i := 1) S.nd rfl (by first | exact .inl rfl | exact .inr rfl) (pe_callB call_lenU (by rfl) T.n_len PySem.boot_len (pa_cons (pv 0) pa_nil)))
      (pss_cons (ps_while PassesOwn.never (PW.pt (pw_and (pt_cmpR op_gt (pv 1) pe_int (nomark _)) (pw_and1 (pt_cmpR (show OpR _ (compareOp .Eq) (rEqU K) from op_eqU (by exact hr.units)) (pe_ix ix_seq (pe_ix ix_seq (pv 0) (pe_op op_sub (pv 1) pe_int) (fun _ _ => rfl)) pe_int (fun _ _ => rfl)) pe_int (nomark _))))) (pss_one (ps_set (i := 1) S.nd rfl (by first | exact .inl rfl | exact .inr rfl) (pe_op op_sub (pv 1) pe_int))))
      (pss_one (ps_ret (pe_tupleOf (by rfl) T.n_tuple (pe_slice sl_list (pv 0) po_none (po_some (pv 1)))))))), ?_⟩
    have hlen := hT.len
    walk_at "mf"
    refine g_len (.inl hS) ?_
    walk_at "mf"
    refine ⟨fun m σ' H' => ∃ n : Nat, σ' = [some (.ref a), some (.int (n : Nat))] ∧ n ≤ rs.length ∧ tlen rs n = tlen rs rs.length ∧ m = n ∧ Same H H', ⟨xs.length, xs.length, rfl, by omega, by rw [hlen], rfl, Same.refl _⟩, ?_⟩
    intro m σ' H' hW
    obtain ⟨n, rfl, hn, htl, rfl, sW⟩ := hW
    have last : ∀ H2, Same H H2 → tlen rs m = m → ∀ p H3, H2 p = none → Same H2 H3 → H3 p = some (.tup (xs.take m)) → Q (.ref p) H3 := fun H2 s2 e p H3 np s3 e3 => by
      refine k p H3 _ (s2.trans s3) (s2.free np) e3 ?_
      unfold trimR
      rw [← htl, e]
      exact (hT.go (Same.kt (s2.trans s3))).take m
    walk_at "mf"
    refine g_ite (fun h => ?_) (fun h => ?_)
    · have h := of_decide_eq_true h
      obtain ⟨n, rfl⟩ : ∃ n, m = n + 1 := ⟨m - 1, by omega⟩
      obtain ⟨pa, hx, ea⟩ := hT.at (i := n) (by omega)
      walk_at "mf"
      refine g_ix (.inl (sW.seq hS)) (at_of (j := n) (by omega) hx) ?_
      walk_at "mf"
      refine g_ix (.inr (tupU (sW _ _ ea))) (v := .int (co rs n).num) rfl ?_
      walk_at "mf"
      rw [show decide ((co rs n).num = 0) = decide (co rs n = 0) from decide_eq_decide.mpr Rat.num_eq_zero]
      refine g_ite (fun hz => ?_) (fun hz => ?_)
      · have hz := of_decide_eq_true hz
        refine ⟨fun σ2 H2 => σ2 = [some (.ref a), some (.int (n : Nat))] ∧ Same H H2, ?_, ?_⟩
        · intro σ2 H2 hN
          obtain ⟨rfl, s2⟩ := hN
          refine ⟨n, by omega, n, rfl, by omega, ?_, rfl, s2⟩
          rw [← htl]
          show _ = (if co rs n = 0 then tlen rs n else n + 1)
          rw [if_pos hz]
        · walk_at "mf"
          skip
          exact ⟨by show [some (V.ref a), some (V.int (((n + 1 : Nat) : Int) - 1))] = _; rw [show ((n + 1 : Nat) : Int) - 1 = (n : Int) by omega], sW⟩
      · have hz := of_decide_eq_false hz
        walk_at "mf"
        refine g_slL (((sW) : Same H _).seq hS) fun p2 H2 n2 s2 e2 => ?_
        rw [cut_hi (by omega)] at e2
        walk_at "mf"
        refine g_tupOf (seqU e2) fun p3 H3 n3 s3 e3 => ?_
        exact last _ (((sW) : Same H _).trans s2) (by show (if co rs n = 0 then tlen rs n else n + 1) = _; rw [if_neg hz]) p3 H3 n3 s3 e3
    · have h := of_decide_eq_false h
      obtain rfl : m = 0 := by omega
      walk_at "mf"
      refine g_slL (sW.seq hS) fun p2 H2 n2 s2 e2 => ?_
      rw [cut_hi (by omega)] at e2
      walk_at "mf"
      refine g_tupOf (seqU e2) fun p3 H3 n3 s3 e3 => ?_
      exact last _ (sW.trans s2) rfl p3 H3 n3 s3 e3
end Mf
namespace Mf
open PySem PySem.Spec PyProof.Rows L2
local macro_rules | `(tactic| walk_at "mf1") => `(tactic| first
  | ((with_reducible apply g_var); exact rfl)
  | with_reducible first
    | refine g_c ?_ | refine g_op ?_ | refine g_un ?_ | refine g_cb ?_ | refine g_cl ?_ | refine g_clk ?_ | refine g_nil ?_ | refine g_cons ?_
    | refine g_tB ?_ | refine g_test ?_ | refine g_bl ?_ | refine g_and ?_ | refine g_or ?_ | refine g_not ?_ | refine g_andV ?_ | refine g_orV ?_ | refine g_notV ?_
    | refine g_if ?_ | refine g_ifS ?_ | refine g_seq ?_ | refine g_next ?_ | refine g_ret ?_ | refine g_drop ?_ | refine g_asg ?_ | refine g_name ?_ | refine g_sub ?_
    | refine g_int ?_ | refine g_intB ?_ | refine g_abs ?_ | refine g_I0 ?_ | refine g_addI ?_ | refine g_U ?_ | refine g_isNn ?_ | refine g_isNi ?_ | refine g_notN ?_ | refine g_notT1 ?_ | refine g_notT2 ?_ | refine g_notT3 ?_ | refine g_notT4 ?_ | refine g_notTb ?_ | refine g_notTi ?_ | refine g_eqI ?_ | refine g_neI ?_ | refine g_neSs ?_ | refine g_neS ?_ | refine g_eqS ?_
    | refine g_iteT ?_ | refine g_iteF ?_ | refine g_iteNT ?_ | refine g_iteNF ?_ | refine g_lst ?_ | refine g_tup ?_ | refine g_seqP ?_ | refine g_sl ?_ | refine g_noPart ?_ | refine g_part ?_ | refine g_yes ?_ | refine g_thenT ?_ | refine g_consG ?_ | refine g_nilG ?_ | refine g_ii ?_ | refine g_par ?_ | refine g_par3 ?_ | refine g_vv ?_ | refine g_vvv ?_ | refine g_reprB ?_ | refine g_lcL ?_ | refine g_lcR ?_
  | ((with_reducible refine g_mod ?_ ?_); (first | omega | decide))
  | ((with_reducible refine g_div ?_ ?_ ?_); (first | omega | decide); (first | assumption | decide))
  | ((with_reducible refine g_mulL ?_ ?_ ?_); (first | omega | decide); (first | omega | decide))
  | ((with_reducible refine g_mulR ?_ ?_ ?_); (first | omega | decide); (first | omega | decide))
  | ((with_reducible refine g_pow ?_ ?_ ?_ ?_); decide; decide; (first | omega | decide))
  | dsimp only)
local macro_rules | `(tactic| walk_at "mf1s") => `(tactic| first
  | ((with_reducible apply g_var); exact rfl)
  | with_reducible first
    | refine g_c ?_ | refine g_op ?_ | refine g_un ?_ | refine g_cb ?_ | refine g_cl ?_ | refine g_clk ?_ | refine g_nil ?_ | refine g_cons ?_
    | refine g_tB ?_ | refine g_test ?_ | refine g_bl ?_ | refine g_and ?_ | refine g_or ?_ | refine g_not ?_ | refine g_andV ?_ | refine g_orV ?_ | refine g_notV ?_
    | refine g_if ?_ | refine g_ifS ?_ | refine g_next ?_ | refine g_ret ?_ | refine g_drop ?_ | refine g_asg ?_ | refine g_name ?_ | refine g_sub ?_
    | refine g_int ?_ | refine g_intB ?_ | refine g_abs ?_ | refine g_I0 ?_ | refine g_addI ?_ | refine g_U ?_ | refine g_isNn ?_ | refine g_isNi ?_ | refine g_notN ?_ | refine g_notT1 ?_ | refine g_notT2 ?_ | refine g_notT3 ?_ | refine g_notT4 ?_ | refine g_notTb ?_ | refine g_notTi ?_ | refine g_eqI ?_ | refine g_neI ?_ | refine g_neSs ?_ | refine g_neS ?_ | refine g_eqS ?_
    | refine g_iteT ?_ | refine g_iteF ?_ | refine g_iteNT ?_ | refine g_iteNF ?_ | refine g_lst ?_ | refine g_tup ?_ | refine g_seqP ?_ | refine g_sl ?_ | refine g_noPart ?_ | refine g_part ?_ | refine g_yes ?_ | refine g_thenT ?_ | refine g_consG ?_ | refine g_nilG ?_ | refine g_ii ?_ | refine g_par ?_ | refine g_par3 ?_ | refine g_vv ?_ | refine g_vvv ?_ | refine g_reprB ?_ | refine g_lcL ?_ | refine g_lcR ?_
  | ((with_reducible refine g_mod ?_ ?_); (first | omega | decide))
  | ((with_reducible refine g_div ?_ ?_ ?_); (first | omega | decide); (first | assumption | decide))
  | ((with_reducible refine g_mulL ?_ ?_ ?_); (first | omega | decide); (first | omega | decide))
  | ((with_reducible refine g_mulR ?_ ?_ ?_); (first | omega | decide); (first | omega | decide))
  | ((with_reducible refine g_pow ?_ ?_ ?_ ?_); decide; decide; (first | omega | decide))
  | dsimp only)
local macro_rules | `(tactic| walk_at "mfs") => `(tactic| repeat walk_at "mf1s")
local macro_rules | `(tactic| walk_at "mf") => `(tactic| repeat walk_at "mf1")
local macro_rules | `(tactic| walk_at "ed") => `(tactic| repeat (first
  | with_reducible first
    | exact eds_nil | apply eds_cons | exact ed_int | exact ed_bl | exact ed_non | apply ed_neg
  | ((with_reducible apply ed_str); decide)
  | ((with_reducible apply ed_var); (exact rfl); (first | assumption | exact Dq.int _))
  | ((with_reducible apply ed_dict0); assumption)
  | ((with_reducible apply ed_dict2); assumption)
  | ((with_reducible apply ed_tup); assumption)
  | ((with_reducible apply ed_lst); assumption)
  | (with_reducible apply ed_pow)
  | (with_reducible apply ed_mul)
  | assumption
  | (exact Dq.int _)
  | (exact ⟨by decide, by decide, by decide⟩)
  | (show List.length _ ≤ 1000; simp only [List.length_cons, List.length_nil]; decide)))
theorem prod_prt {rs : List (Rat × Rat)} {k : Nat} (hk : k < rs.length) : prodF ((rs.map (·.1)).map fac) = tf ((at1 rs k).1.num, ((at1 rs k).1.den : Int)) (prt rs k) := by
  have e := at1_get hk
  have sp : rs = rs.take k ++ at1 rs k :: rs.drop (k + 1) := by
    have h1 : rs.drop k = at1 rs k :: rs.drop (k + 1) := by
      rw [List.drop_eq_getElem_cons hk]
      congr 1
      rw [List.getElem?_eq_getElem hk] at e
      exact Option.some.inj e
    rw [← h1, List.take_append_drop]
  have g : prodF ((rs.map (·.1)).map fac) = prodF (((rs.take k).map (·.1)).map fac ++ fac (at1 rs k).1 :: ((rs.drop (k + 1)).map (·.1)).map fac) := by
    conv => lhs; rw [sp]
    rw [List.map_append, List.map_cons, List.map_append, List.map_cons]
  rw [g, prod_out]
  unfold prt oth1 oth
  rw [List.map_append, List.map_append]
  rfl
theorem at1_of {rs : List (Rat × Rat)} {k : Nat} {z : Rat × Rat} (h : rs[k]? = some z) : at1 rs k = z := by
  have hk := (List.getElem?_eq_some_iff.mp h).1
  have e := at1_get hk
  rw [h] at e
  exact (Option.some.inj e).symm
theorem range_snoc {α : Type} (f : Nat → α) (i : Nat) : (List.range (i + 1)).map f = (List.range i).map f ++ [f i] := by
  rw [List.range_succ, List.map_append]
  rfl
theorem ok_poly_through (c : Cn) (T : Tx c) : Cl c 7 "poly_through" s_poly_through ["points"] (sp_thru c.K) := by
  obtain ⟨P, w, K, mg, base⟩ := c
  have C_over_one_down := ok_over_one_down _ T
  have C_read_points := ok_read_points _ T
  have C_reduced := ok_reduced _ T
  have C_share_at := ok_share_at _ T
  have C_times_factor := ok_times_factor _ T
  have C_trimmed := ok_trimmed _ T
  have C_without_factor := ok_without_factor _ T
  refine De.cl (N := ["points", "pairs", "product", "at", "_", "ups", "down", "parts", "total", "k", "up", "part"]) T.d_poly_through sc_poly_through (fun vs H Q E h => ?_) (fun f0 cdv A outer s H vs Q E hA hr h => ?_)
  · obtain ⟨q, a, xs, ds, n, A, B, M, rfl, _⟩ := h; rfl
  · have S := sc_poly_through
    obtain ⟨q, a, xs, ds, n, A, B, M, rfl, na, hs, hall, hok, hn, hl, nd, hXA, hXB, A1, A8, B1, hAB, hM, hbM, k⟩ := h
    refine ⟨_, (pss_cons (ps_set (i := 1) S.nd rfl (by first | exact .inl rfl | exact .inr rfl) (pe_f C_read_points hA hr (by decide) pl_read_points (by rfl) (pa_cons (pv 0) pa_nil)))
      (pss_cons (ps_set (i := 2) S.nd rfl (by first | exact .inl rfl | exact .inr rfl) (pe_lst (pa_cons pe_int pa_nil)))
      (pss_cons (ps_for PassesOwn.never rfl (pi_list (pv 1)) (pg_tup rfl (pgs_cons (pg_name (i := 3) S.nd rfl (by first | exact .inl rfl | exact .inr rfl)) (pgs_cons (pg_name (i := 4) S.nd rfl (by first | exact .inl rfl | exact .inr rfl)) pgs_nil))) (pss_one (ps_set (i := 2) S.nd rfl (by first | exact .inl rfl | exact .inr rfl) (pe_f C_times_factor hA hr (by decide) pl_times_factor (by rfl) (pa_cons (pv 2) (pa_cons (pv 3) pa_nil))))))
      (pss_cons (ps_asg (pe_f C_over_one_down hA hr (by decide) pl_over_one_down (by rfl) (pa_cons (pe_lc (own := [("k", 9)]) (g := gName 9) (tt := tYes) rfl S.nd (pi_range1 rfl T.n_range (pa_cons (pe_callB call_lenU (by rfl) T.n_len PySem.boot_len (pa_cons (pv 1) pa_nil)) pa_nil)) (blkOk_by (N := ["points", "pairs", "product", "at", "_", "ups", "down", "parts", "total", "k", "up", "part"]) (sc := defScope s_poly_through) (by decide +kernel)) (fun _ _ _ _ _ => pg_name (i := 9) S.nd rfl (Or.inl rfl)) (fun _ _ _ _ _ => pts_nil) (fun _ _ _ _ _ => (pe_f C_share_at hA hr (by decide) pl_share_at (by rfl) (pa_cons (pv 1) (pa_cons (pv 9) pa_nil))))) pa_nil)) (pg_tup rfl (pgs_cons (pg_name (i := 5) S.nd rfl (by first | exact .inl rfl | exact .inr rfl)) (pgs_cons (pg_name (i := 6) S.nd rfl (by first | exact .inl rfl | exact .inr rfl)) pgs_nil))))
      (pss_cons (ps_setLc (i := 7) (own := [("at", 3), ("_", 4)]) (g := g2 K 3 4) (tt := tYes) rfl S.nd rfl rfl (sw_true rfl rfl rfl (by decide +kernel)) (pi_list (pv 1)) (blkOk_by (N := ["points", "pairs", "product", "at", "_", "ups", "down", "parts", "total", "k", "up", "part"]) (sc := defScope s_poly_through) (by decide +kernel)) (fun _ _ _ _ _ => pg_tup rfl (pgs_cons (pg_name (i := 3) S.nd rfl (Or.inl rfl)) (pgs_cons (pg_name (i := 4) S.nd rfl (Or.inl rfl)) pgs_nil))) (fun _ _ _ _ _ => pts_nil) (fun _ _ _ _ _ => (pe_f C_without_factor hA hr (by decide) pl_without_factor (by rfl) (pa_cons (pv 2) (pa_cons (pv 3) pa_nil)))))
      (pss_cons (ps_set (i := 8) S.nd rfl (by first | exact .inl rfl | exact .inr rfl) (pe_lst pa_nil))
      (pss_cons (ps_for PassesOwn.never rfl (pi_range1 rfl T.n_range (pa_cons (pe_callB call_lenU (by rfl) T.n_len PySem.boot_len (pa_cons (pv 1) pa_nil)) pa_nil)) (pg_name (i := 9) S.nd rfl (by first | exact .inl rfl | exact .inr rfl)) (pss_one (ps_expr (pe_bm PySem.F.plainAttrs_list PySem.F.slot_list_append PySem.F.type_list_append mt_append (pv 8) (pa_cons (pe_f C_reduced hA hr (by decide) pl_reduced (by rfl) (pa_cons (pe_callB (cr_sum rfl) (by rfl) T.n_sum (show bootBuiltins "sum" = some (.builtin "sum") by decide +kernel) (pa_cons (pe_lc (own := [("up", 10), ("part", 11)]) (g := g2 K 10 11) (tt := tYes) rfl S.nd (pi_zip (by rfl) T.n_zip (pa_cons (pv 5) (pa_cons (pv 7) pa_nil))) (blkOk_by (N := ["points", "pairs", "product", "at", "_", "ups", "down", "parts", "total", "k", "up", "part"]) (sc := defScope s_poly_through) (by decide +kernel)) (fun _ _ _ _ _ => pg_tup rfl (pgs_cons (pg_name (i := 10) S.nd rfl (Or.inl rfl)) (pgs_cons (pg_name (i := 11) S.nd rfl (Or.inl rfl)) pgs_nil))) (fun _ _ _ _ _ => pts_nil) (fun _ _ _ _ _ => (pe_op op_mulU (pv 10) (pe_ix (show IxR _ (rIx K) from ix_seq) (pv 11) (pv 9) (fun _ _ => rfl))))) pa_nil)) (pa_cons (pv 6) pa_nil))) pa_nil)))))
      (pss_one (ps_ret (pe_f C_trimmed hA hr (by decide) pl_trimmed (by rfl) (pa_cons (pv 8) pa_nil))))))))))), ?_⟩
    have rA : ∀ z ∈ ds.map xy, Rb A z.1 := fun z hz => by
      obtain ⟨d, hd, rfl⟩ := List.mem_map.mp hz
      exact hXA d hd
    have rB : ∀ z ∈ ds.map xy, Rb B z.2 := fun z hz => by
      obtain ⟨d, hd, rfl⟩ := List.mem_map.mp hz
      exact hXB d hd
    have nd1 : ((ds.map xy).map (·.1)).Nodup := by rw [List.map_map]; exact nd
    have lrs : (ds.map xy).length = ds.length := List.length_map ..
    have vk : (∀ r : List Rat, (∀ m, m < (ds.map xy).length → val r (at1 (ds.map xy) m).1 = (at1 (ds.map xy) m).2) → ∀ d ∈ ds, val r (xy d).1 = (xy d).2) := fun r h d hd => by
      obtain ⟨i, hi, e⟩ := List.getElem_of_mem hd
      have e1 : (ds.map xy)[i]? = some (xy d) := by rw [List.getElem?_map, List.getElem?_eq_getElem hi, e]; rfl
      have := h i (by omega)
      rw [at1_of e1] at this
      exact this
    walk_at "mf"
    refine ⟨q, a, xs, ds, n, rfl, na, hs, hall, hok, hn, hl, nd, fun L1 H1 vs s1 n1 e1 t1 => ?_⟩
    clear hs hall hok nd hXA hXB
    generalize ds.map xy = rs at *
    have lvs := t1.len
    have oA : ∀ k, ∀ s ∈ oth1 rs k, Rb A s := fun k s hs => by
      unfold oth1 oth at hs
      obtain ⟨z, hz, rfl⟩ := List.mem_map.mp hs
      refine rA z ?_
      rcases List.mem_append.mp hz with h | h
      · exact List.mem_of_mem_take h
      · exact List.mem_of_mem_drop h
    have lo : ∀ {k}, k < rs.length → (oth1 rs k).length ≤ ds.length := fun h => by have := len_oth h; omega
    have mulL : ∀ {x : Nat}, x ≤ ds.length → x * (A + 1) ≤ ds.length * (A + 1) := fun h => Nat.mul_le_mul_right _ h
    have mul40 : ds.length * (A + 1) ≤ 40 * (A + 1) := Nat.mul_le_mul_right _ hl
    have mulS : ∀ {x : Nat}, x ≤ ds.length → x * (3 * A + 1) ≤ ds.length * (3 * A + 1) := fun h => Nat.mul_le_mul_right _ h
    have mulS40 : ds.length * (3 * A + 1) ≤ 40 * (3 * A + 1) := Nat.mul_le_mul_right _ hl
    have bprt : ∀ {k}, k < rs.length → ∀ i, Bt (1 + ds.length * (A + 1)) (ic (prt rs k) i) := fun h i => (bt_prt (oA _) i).mono (by have := mulL (lo h); omega)
    have bsh : ∀ {k}, k < rs.length → Rb (2 * B + ds.length * (3 * A + 1)) (shr rs k) := fun {k} h => by
      have e := at1_get h
      have m := List.mem_of_getElem? e
      exact (rb_share (rA _ m) (rB _ m) (oA k) (oth_ne nd1 h) B1).mono (by have := mulS (lo h); omega)
    refine g_seq ?_
    walk_at "mfs"
    refine g_newL (by show 1 ≤ sizeLine; decide) fun P0 H2 n2 s2 e2 => ?_
    have e1 := s2 _ _ e1
    have t1 := t1.go (Same.kt s2)
    walk_at "mfs"
    -- the product
    refine g_seq ?_
    refine g_forLE ?_
    walk_at "mfs"
    refine ⟨L1, rfl, ⟨_, seqU e1⟩, ?_⟩
    refine forgo_list (xs := vs) (fun i σ' H' => Same H2 H' ∧ ∃ pr s3 s4, σ' = [some (.ref a), some (.ref L1), some (.ref pr), s3, s4, none, none, none, none, none, none, none] ∧ IL H' pr (prodF (((rs.take i).map (·.1)).map fac))) ⟨Same.refl _, P0, none, none, rfl, e2⟩ (fun i σ' H' h => seqU (h.1 _ _ e1)) (fun i x σ' H' hx h => ?_) (fun σ' H3 h => ?_)
    · obtain ⟨sH, pr, s3, s4, rfl, il⟩ := h
      obtain ⟨c, p1, p2, r, rfl, hr, ec, ep1, ep2⟩ := (t1.go (Same.kt sH)).get hx
      have hi := (List.getElem?_eq_some_iff.mp hr).1
      refine g_pair (tupU ec) ?_
      walk_at "mfs"
      have bf : ∀ j, Bt (1 + 40 * (A + 1)) (ic (prodF (((rs.take i).map (·.1)).map fac)) j) := fun j => (bt_fold (L := (rs.take i).map (·.1)) (fun s hs => by
        obtain ⟨z, hz, rfl⟩ := List.mem_map.mp hs
        exact rA z (List.mem_of_mem_take hz)) bt_one j).mono (by
          rw [List.length_map, List.length_take]
          have : min i rs.length * (A + 1) ≤ 40 * (A + 1) := Nat.mul_le_mul_right _ (by omega)
          omega)
      refine ⟨pr, p1, _, r.1, 1 + 40 * (A + 1), A, rfl, il, ep1, rA _ (List.mem_of_getElem? hr), bf, by omega, ?_, fun pn Hn sn nn iln => ?_⟩
      · unfold prodF
        rw [len_prod, List.length_map, List.length_map, List.length_take]
        show 1 + _ ≤ 200
        omega
      walk_at "mfs"
      refine ⟨sH.trans sn, pn, _, _, rfl, ?_⟩
      rw [take_snoc hr, List.map_append, List.map_append]
      unfold prodF at iln ⊢
      rw [List.foldl_append]
      exact iln
    obtain ⟨sH, pr, s3, s4, rfl, il⟩ := h
    rw [lvs, List.take_length] at il
    have e1 := sH _ _ e1
    have t1 := t1.go (Same.kt sH)
    have sX := (s1.trans s2).trans sH
    clear e2 s1 s2 sH n1 n2
    walk_at "mfs"
    -- ups, down
    refine g_seq ?_
    walk_at "mfs"
    refine g_len (.inl (seqU e1)) ?_
    walk_at "mfs"
    refine ⟨_, rfl, by omega, by omega, ?_⟩
    rw [show ((vs.length : Nat) : Int).toNat = rs.length by rw [Int.toNat_natCast]; exact lvs]
    refine lcgo_range (n := rs.length) (fun D i H' => Same H3 H' ∧ ∃ us, H' D = some (.lst us) ∧ us.length = i ∧ TL H' us ((List.range i).map (shr rs))) (fun z => rfl) (fun D hD => ⟨same_new hD, [], upd_same, rfl, .nil⟩) (fun D i H' hD hi h => ?_) (fun D H4 hD h => ?_)
    · obtain ⟨h1, us, h2, h3, h4⟩ := h
      walk_at "mfs"
      rw [Int.zero_add]
      have ei := at1_get hi
      have mi := List.mem_of_getElem? ei
      refine ⟨L1, vs, rs, i, (at1 rs i).1, (at1 rs i).2, A, B, rfl, h1 _ _ e1, t1.go (Same.kt h1), ei, by omega, rA, rB _ mi, A1, B1, by omega, oth_ne nd1 hi, fun p5 H5 s5 n5 e5 => ?_⟩
      have eD := s5 _ _ h2
      have kt := upd_kt (o := .lst (us ++ [.ref p5])) eD
      refine ⟨us, eD, small1000 (by omega), ?_, us ++ [.ref p5], upd_same, by rw [List.length_append, h3]; rfl, ?_⟩
      · intro b o e
        rw [upd_ne (ne_of_none e hD)]
        exact s5 _ _ (h1 _ _ e)
      · rw [range_snoc]
        exact ((h4.go (Same.kt s5)).go kt).snoc (kt _ _ e5)
    obtain ⟨s4', us0, h2, h3, h4⟩ := h
    have e1 := s4' _ _ e1
    have t1 := t1.go (Same.kt s4')
    have il := s4' _ _ il
    walk_at "mfs"
    refine ⟨D, us0, (List.range rs.length).map (shr rs), 2 * B + ds.length * (3 * A + 1), M, rfl, h2, h4, ?_, by rw [List.length_map, List.length_range]; omega, by omega, by omega, hM, by rw [lrs]; exact hbM, fun p5 H5 LU us s5 n5 e5 eLU lus hus => ?_⟩
    · intro r hr
      obtain ⟨i, hi, rfl⟩ := List.mem_map.mp hr
      exact bsh (List.mem_range.mp hi)
    rw [List.length_map, List.length_range] at lus hus
    have hus : ∀ i, i < rs.length → us[i]? = some (ic us i) ∧ Rat.divInt (ic us i) (lcmL ((List.range rs.length).map (shr rs)) : Int) = shr rs i ∧ Bt (2 * B + ds.length * (3 * A + 1) + M) (ic us i) := fun i hi => by
      obtain ⟨u, h1, h2, h3⟩ := hus i hi
      rw [ic_some h1]
      refine ⟨h1, ?_, h3⟩
      rw [h2]
      exact co_map hi
    have hpos := lcmL_pos ((List.range rs.length).map (shr rs))
    rw [← lrs] at hbM
    generalize lcmL ((List.range rs.length).map (shr rs)) = DD at *
    refine g_tupG (tupU e5) rfl ?_
    walk_at "mfs"
    have e1 := s5 _ _ e1
    have t1 := t1.go (Same.kt s5)
    have il := s5 _ _ il
    have sX := (sX.trans s4').trans s5
    clear h2 h4 s4' s5 e5 n5 hD
    -- parts
    refine g_seq ?_
    walk_at "mfs"
    refine ⟨L1, rfl, ⟨_, seqU e1⟩, ?_⟩
    refine lcgo_listP (xs := vs) (fun D i H' => Same H5 H' ∧ ∃ pl : List Addr, H' D = some (.lst (pl.map V.ref)) ∧ pl.length = i ∧ ∀ j, j < i → ∃ b, pl[j]? = some b ∧ b ≠ D ∧ IL H' b (prt rs j)) (fun x y => rfl) (fun D hD => ⟨same_new hD, [], upd_same, rfl, fun j hj => absurd hj (Nat.not_lt_zero _)⟩) (fun D i H' _ h => seqU (h.1 _ _ e1)) (fun D i x H' hD hx h => ?_) (fun DP H6 hDP h => ?_)
    · obtain ⟨h1, pl, h2, h3, h4⟩ := h
      obtain ⟨c, p1, p2, r, rfl, hr, ec, ep1, ep2⟩ := (t1.go (Same.kt h1)).get hx
      have hi := (List.getElem?_eq_some_iff.mp hr).1
      refine ⟨c, _, _, rfl, tupU ec, ?_⟩
      walk_at "mfs"
      have il' : IL H' pr (tf (r.1.num, (r.1.den : Int)) (prt rs i)) := by
        have e := prod_prt (rs := rs) hi
        rw [at1_of hr] at e
        rw [← e]
        exact h1 _ _ il
      refine ⟨pr, p1, prt rs i, r.1, 1 + ds.length * (A + 1), A, rfl, il', ep1, rA _ (List.mem_of_getElem? hr), A8, bprt hi, by omega, by rw [len_prt hi]; omega, fun pn Hn sn nn iln => ?_⟩
      have eD := sn _ _ h2
      refine ⟨_, eD, small1000 (by rw [List.length_map]; omega), ?_, pl ++ [pn], by rw [upd_same, List.map_append]; rfl, by rw [List.length_append, h3]; rfl, fun j hj => ?_⟩
      · intro b o e
        rw [upd_ne (ne_of_none e hD)]
        exact sn _ _ (h1 _ _ e)
      · by_cases z : j < i
        · obtain ⟨b, b1, b2, b3⟩ := h4 j z
          refine ⟨b, by rw [List.getElem?_append_left (by omega)]; exact b1, b2, ?_⟩
          show upd Hn D _ b = _
          rw [upd_ne b2]
          exact sn _ _ b3
        · have e : j = i := by omega
          subst e
          have nD : pn ≠ D := fun z => by
            rw [z, h2] at nn
            cases nn
          refine ⟨pn, by rw [List.getElem?_append_right (by omega), h3, Nat.sub_self]; rfl, nD, ?_⟩
          show upd Hn D _ pn = _
          rw [upd_ne nD]
          exact iln
    obtain ⟨s6, pl, h2, h3, h4⟩ := h
    rw [lvs] at h3 h4
    have eLU := s6 _ _ eLU
    have e1 := s6 _ _ e1
    have sX := sX.trans s6
    walk_at "mfs"
    refine g_seq ?_
    walk_at "mfs"
    refine g_newL (by show 0 ≤ sizeLine; decide) fun T H7 nT s7 eT => ?_
    have neT : ∀ {b o}, H6 b = some o → b ≠ T := fun e z => by rw [z, nT] at e; cases e
    have eLU7 := s7 _ _ eLU
    have e17 := s7 _ _ e1
    have eP7 := s7 _ _ h2
    walk_at "mfs"
    refine g_seq ?_
    refine g_forRK (K := K) ?_
    walk_at "mfs"
    refine g_len (.inl (seqU e17)) ?_
    walk_at "mfs"
    refine ⟨_, rfl, by omega, by omega, ?_⟩
    rw [show ((vs.length : Nat) : Int).toNat = rs.length by rw [Int.toNat_natCast]; exact lvs]
    refine for_range (lo := 0) (n := rs.length) (fun i σ' H' => (∃ s9 s10 s11, σ' = [some (.ref a), some (.ref L1), some (.ref pr), s3, s4, some (.ref LU), some (.int (DD : Int)), some (.ref DP), some (.ref T), s9, s10, s11]) ∧ (∀ b o, b ≠ T → H7 b = some o → H' b = some o) ∧ ∃ ws, H' T = some (.lst ws) ∧ ws.length = i ∧ TL H' ws ((thru rs).take i)) ⟨⟨_, _, _, rfl⟩, fun b o _ e => e, [], eT, rfl, .nil⟩ (fun i σ' H' hi h => ?_) (fun σ' H8 h => ?_)
    · obtain ⟨⟨s9, s10, s11, rfl⟩, hk, ws, eT', lws, tws⟩ := h
      walk_at "mfs"
      refine g_bm2 ?_
      walk_at "mfs"
      refine ⟨.inl ⟨rfl, _, seqU eT'⟩, ?_⟩
      walk_at "mfs"
      refine g_lcZ ?_
      walk_at "mfs"
      have eLU' := hk _ _ (neT eLU) eLU7
      have eP' := hk _ _ (neT h2) eP7
      refine ⟨LU, DP, _, _, rfl, seqU eLU', seqU eP', ?_⟩
      refine lcgo_zip (xs := us.map V.int) (ys := pl.map V.ref) (fun D j H2 => Same H' H2 ∧ H2 D = some (.lst (((List.range j).map fun j => ic us j * ic (prt rs j) i).map V.int))) (by rw [List.length_map, List.length_map]; omega) (fun x y => rfl) (fun D hD => ⟨same_new hD, upd_same⟩) (fun D j H2 _ h => ⟨seqU (h.1 _ _ eLU'), seqU (h.1 _ _ eP')⟩) (fun D j x y T2 H2 hD hx hy h nT2 => ?_) (fun D H9 hD h => ?_)
      · obtain ⟨g1, g2⟩ := h
        rw [List.getElem?_map] at hx hy
        obtain ⟨u, hu, rfl⟩ := Option.map_eq_some_iff.mp hx
        obtain ⟨b, hb, rfl⟩ := Option.map_eq_some_iff.mp hy
        have hj : j < rs.length := by have := (List.getElem?_eq_some_iff.mp hu).1; omega
        obtain ⟨hu1, hu2, hu3⟩ := hus j hj
        obtain rfl : ic us j = u := Option.some.inj (hu1.symm.trans hu)
        obtain ⟨b', hb1, hb2, hb3⟩ := h4 j hj
        obtain rfl : b' = b := Option.some.inj (hb1.symm.trans hb)
        have sT : Same H2 (upd H2 T2 (.tup [.int (ic us j), .ref b'])) := same_new nT2
        generalize upd H2 T2 (.tup [.int (ic us j), .ref b']) = Ht at *
        have ib : Ht b' = some (.lst ((prt rs j).map V.int)) := sT _ _ (g1 _ _ (hk _ _ (neT hb3) (s7 _ _ hb3)))
        walk_at "mfs"
        rw [Int.zero_add]
        refine g_ix (.inl (seqU ib)) (v := .int (ic (prt rs j) i)) (at_of (j := i) (by omega) (by rw [List.getElem?_map, ic_get (by rw [len_prt hj]; exact hi)]; rfl)) ?_
        walk_at "mfs"
        refine g_mulU (hu3.cm (bprt hj i) (by omega)) ?_
        walk_at "mfs"
        refine ⟨_, sT _ _ g2, small1000 (by rw [List.length_map, List.length_map, List.length_range]; omega), ?_, ?_⟩
        · intro c o e
          rw [upd_ne (ne_of_none e hD)]
          exact sT _ _ (g1 _ _ e)
        · rw [upd_same, range_snoc, List.map_append]
          rfl
      obtain ⟨g1, g2⟩ := h
      rw [List.length_map, lus] at g2
      walk_at "mfs"
      refine ⟨D, _, rfl, seqU g2, ?_⟩
      rw [sums_list (fun j => ic us j) (fun j => ic (prt rs j) i) rs.length]
      walk_at "mfs"
      refine ⟨_, _, rfl, by omega, hbM.mono (by omega), fun p10 H10 s10' n10 e10 => ?_⟩
      rw [sums_div (by omega), sm_congr (g := fun k => shr rs k * (ic (prt rs k) i : Rat)) (fun j hj => by rw [(hus j hj).2.1])] at e10
      have eT10 := s10' _ _ (g1 _ _ eT')
      have kt := upd_kt (o := .lst (ws ++ [.ref p10])) eT10
      walk_at "mfs"
      refine ⟨T, ws, .ref p10, rfl, rfl, eT10, small1000 (by omega), ?_⟩
      walk_at "mfs"
      refine ⟨⟨_, _, _, rfl⟩, fun b o hb e => ?_, _, upd_same, by rw [List.length_append, lws]; rfl, ?_⟩
      · rw [upd_ne hb]
        exact s10' _ _ (g1 _ _ (hk b o hb e))
      · have eq1 : (thru rs)[i]? = some (sm (fun k => shr rs k * (ic (prt rs k) i : Rat)) rs.length) := by
          unfold thru
          rw [List.getElem?_map, List.getElem?_range hi]
          rfl
        rw [take_snoc eq1]
        exact (((tws.go (Same.kt g1)).go (Same.kt s10')).go kt).snoc (kt _ _ e10)
    obtain ⟨⟨s9, s10, s11, rfl⟩, hk, ws, eT', lws, tws⟩ := h
    rw [← len_thru rs, List.take_length] at tws
    walk_at "mfs"
    refine ⟨T, ws, _, rfl, seqU eT', tws, by omega, fun p H' zs s n e t => ?_⟩
    have sAll : Same H H8 := fun b o eb => hk b o (neT (sX _ _ eb)) (s7 _ _ (sX _ _ eb))
    have lt := len_trim_le (thru rs)
    rw [len_thru] at lt
    refine k p H' zs _ (sAll.trans s) (sAll.free n) e t (tr_trim _) (by omega) (vk _ fun m hm => by rw [val_trim]; exact val_thru nd1 hm) ?_
    refine RbL.trim (RbL.of_co fun i hi => ?_)
    rw [len_thru] at hi
    have e : co (thru rs) i = Rat.divInt (sums (fun j => ic us j) (fun j => ic (prt rs j) i) rs.length) (DD : Int) := by
      rw [sums_div (by omega), sm_congr (g := fun k => shr rs k * (ic (prt rs k) i : Rat)) (fun j hj => by rw [(hus j hj).2.1])]
      unfold thru
      exact co_map hi
    rw [e]
    refine Rb.of (by omega) ((sums_bt rs.length fun j hj => ⟨(hus j hj).2.2, bprt hj i⟩).mono (by omega)) (hbM.mono (by omega))
end Mf
namespace Mf
open PySem PySem.Spec PyProof.Rows L2
local macro_rules | `(tactic| walk_at "mf1") => `(tactic| first
  | ((with_reducible apply g_var); exact rfl)
  | with_reducible first
    | refine g_c ?_ | refine g_op ?_ | refine g_un ?_ | refine g_cb ?_ | refine g_cl ?_ | refine g_clk ?_ | refine g_nil ?_ | refine g_cons ?_
    | refine g_tB ?_ | refine g_test ?_ | refine g_bl ?_ | refine g_and ?_ | refine g_or ?_ | refine g_not ?_ | refine g_andV ?_ | refine g_orV ?_ | refine g_notV ?_
    | refine g_if ?_ | refine g_ifS ?_ | refine g_seq ?_ | refine g_next ?_ | refine g_ret ?_ | refine g_drop ?_ | refine g_asg ?_ | refine g_name ?_ | refine g_sub ?_
    | refine g_int ?_ | refine g_intB ?_ | refine g_abs ?_ | refine g_I0 ?_ | refine g_addI ?_ | refine g_U ?_ | refine g_isNn ?_ | refine g_isNi ?_ | refine g_notN ?_ | refine g_notT1 ?_ | refine g_notT2 ?_ | refine g_notT3 ?_ | refine g_notT4 ?_ | refine g_notTb ?_ | refine g_notTi ?_ | refine g_eqI ?_ | refine g_neI ?_ | refine g_neSs ?_ | refine g_neS ?_ | refine g_eqS ?_
    | refine g_iteT ?_ | refine g_iteF ?_ | refine g_iteNT ?_ | refine g_iteNF ?_ | refine g_lst ?_ | refine g_tup ?_ | refine g_seqP ?_ | refine g_sl ?_ | refine g_noPart ?_ | refine g_part ?_ | refine g_yes ?_ | refine g_thenT ?_ | refine g_consG ?_ | refine g_nilG ?_ | refine g_ii ?_ | refine g_par ?_ | refine g_par3 ?_ | refine g_vv ?_ | refine g_vvv ?_ | refine g_reprB ?_ | refine g_lcL ?_ | refine g_lcR ?_
  | ((with_reducible refine g_mod ?_ ?_); (first | omega | decide))
  | ((with_reducible refine g_div ?_ ?_ ?_); (first | omega | decide); (first | assumption | decide))
  | ((with_reducible refine g_mulL ?_ ?_ ?_); (first | omega | decide); (first | omega | decide))
  | ((with_reducible refine g_mulR ?_ ?_ ?_); (first | omega | decide); (first | omega | decide))
  | ((with_reducible refine g_pow ?_ ?_ ?_ ?_); decide; decide; (first | omega | decide))
  | dsimp only)
local macro_rules | `(tactic| walk_at "mf1s") => `(tactic| first
  | ((with_reducible apply g_var); exact rfl)
  | with_reducible first
    | refine g_c ?_ | refine g_op ?_ | refine g_un ?_ | refine g_cb ?_ | refine g_cl ?_ | refine g_clk ?_ | refine g_nil ?_ | refine g_cons ?_
    | refine g_tB ?_ | refine g_test ?_ | refine g_bl ?_ | refine g_and ?_ | refine g_or ?_ | refine g_not ?_ | refine g_andV ?_ | refine g_orV ?_ | refine g_notV ?_
    | refine g_if ?_ | refine g_ifS ?_ | refine g_next ?_ | refine g_ret ?_ | refine g_drop ?_ | refine g_asg ?_ | refine g_name ?_ | refine g_sub ?_
    | refine g_int ?_ | refine g_intB ?_ | refine g_abs ?_ | refine g_I0 ?_ | refine g_addI ?_ | refine g_U ?_ | refine g_isNn ?_ | refine g_isNi ?_ | refine g_notN ?_ | refine g_notT1 ?_ | refine g_notT2 ?_ | refine g_notT3 ?_ | refine g_notT4 ?_ | refine g_notTb ?_ | refine g_notTi ?_ | refine g_eqI ?_ | refine g_neI ?_ | refine g_neSs ?_ | refine g_neS ?_ | refine g_eqS ?_
    | refine g_iteT ?_ | refine g_iteF ?_ | refine g_iteNT ?_ | refine g_iteNF ?_ | refine g_lst ?_ | refine g_tup ?_ | refine g_seqP ?_ | refine g_sl ?_ | refine g_noPart ?_ | refine g_part ?_ | refine g_yes ?_ | refine g_thenT ?_ | refine g_consG ?_ | refine g_nilG ?_ | refine g_ii ?_ | refine g_par ?_ | refine g_par3 ?_ | refine g_vv ?_ | refine g_vvv ?_ | refine g_reprB ?_ | refine g_lcL ?_ | refine g_lcR ?_
  | ((with_reducible refine g_mod ?_ ?_); (first | omega | decide))
  | ((with_reducible refine g_div ?_ ?_ ?_); (first | omega | decide); (first | assumption | decide))
  | ((with_reducible refine g_mulL ?_ ?_ ?_); (first | omega | decide); (first | omega | decide))
  | ((with_reducible refine g_mulR ?_ ?_ ?_); (first | omega | decide); (first | omega | decide))
  | ((with_reducible refine g_pow ?_ ?_ ?_ ?_); decide; decide; (first | omega | decide))
  | dsimp only)
local macro_rules | `(tactic| walk_at "mfs") => `(tactic| repeat walk_at "mf1s")
local macro_rules | `(tactic| walk_at "mf") => `(tactic| repeat walk_at "mf1")
local macro_rules | `(tactic| walk_at "ed") => `(tactic| repeat (first
  | with_reducible first
    | exact eds_nil | apply eds_cons | exact ed_int | exact ed_bl | exact ed_non | apply ed_neg
  | ((with_reducible apply ed_str); decide)
  | ((with_reducible apply ed_var); (exact rfl); (first | assumption | exact Dq.int _))
  | ((with_reducible apply ed_dict0); assumption)
  | ((with_reducible apply ed_dict2); assumption)
  | ((with_reducible apply ed_tup); assumption)
  | ((with_reducible apply ed_lst); assumption)
  | (with_reducible apply ed_pow)
  | (with_reducible apply ed_mul)
  | assumption
  | (exact Dq.int _)
  | (exact ⟨by decide, by decide, by decide⟩)
  | (show List.length _ ≤ 1000; simp only [List.length_cons, List.length_nil]; decide)))
theorem ok__law_low (c : Cn) (T : Tx c) : Cl c 1 "_law_low" s__law_low ["up", "down"] (sp_low c.K) := by
  obtain ⟨P, w, K, mg, base⟩ := c
  refine De.cl (N := ["up", "down", "one", "other", "part"]) T.d__law_low sc__law_low (fun vs H Q E h => ?_) (fun f0 cdv A outer s H vs Q E hA hr h => ?_)
  · obtain ⟨u, d, rfl, _⟩ := h; rfl
  · have S := sc__law_low
    obtain ⟨u, d, rfl, hd, hb, k⟩ := h
    refine ⟨_, (pss_cons (ps_par (i := 2) (j := 3) (by rfl) S.nd rfl rfl (by decide) rfl rfl (pa_cons (pe_callB call_absU (by rfl) T.n_abs (show bootBuiltins "abs" = some (.builtin "abs") by decide +kernel) (pa_cons (pv 0) pa_nil)) (pa_cons (pe_callB call_absU (by rfl) T.n_abs (show bootBuiltins "abs" = some (.builtin "abs") by decide +kernel) (pa_cons (pv 1) pa_nil)) pa_nil)) (by rfl))
      (pss_cons (ps_while PassesOwn.never (pt_cmpR op_gt (pv 3) pe_int (nomark _)) (pss_one (ps_par (i := 2) (j := 3) (by rfl) S.nd rfl rfl (by decide) rfl rfl (pa_cons (pv 3) (pa_cons (pe_op op_mod (pe_callTy call_intU (by rfl) T.n_int PyProof.Rows.boot_int (pa_cons (pv 2) pa_nil)) (pv 3)) pa_nil)) (by rfl))))
      (pss_cons (ps_set (i := 4) S.nd rfl (by first | exact .inl rfl | exact .inr rfl) (pe_ifExp (pt_cmpR op_gt (pv 1) pe_int (nomark _)) (pv 2) (pe_un un_neg (pv 2))))
      (pss_one (ps_ret (pe_tup (pa_cons (pe_op op_fdivW (pv 0) (pv 4)) (pa_cons (pe_op op_fdivW (pv 1) (pv 4)) pa_nil)))))))), ?_⟩
    have hcpos : 0 < Nat.gcd u.natAbs d.natAbs := Nat.gcd_pos_of_pos_right u.natAbs (show 0 < d.natAbs by omega)
    have hlog0 : ((Nat.gcd u.natAbs d.natAbs : Nat) : Int).natAbs.log2 < 9000 := by
      refine Bt.log (n := 8000) ?_ (by decide)
      show ((Nat.gcd u.natAbs d.natAbs : Nat) : Int).natAbs < _
      rw [Int.natAbs_natCast]
      exact Nat.lt_of_le_of_lt (Nat.gcd_le_right _ (by omega)) hb
    walk_at "mf"
    refine ⟨fun m σ' H' => ∃ x y : Int, σ' = [some (.int u), some (.int d), some (.int x), some (.int y), none] ∧ 0 ≤ x ∧ 0 ≤ y ∧ Nat.gcd x.natAbs y.natAbs = Nat.gcd u.natAbs d.natAbs ∧ m = y.toNat ∧ H' = H,
      ⟨_, _, _, rfl, by split <;> omega, by split <;> omega, ?_, rfl, rfl⟩, ?_⟩
    · have e1 : (if u < 0 then -u else u).natAbs = u.natAbs := by split <;> omega
      have e2 : (if d < 0 then -d else d).natAbs = d.natAbs := by split <;> omega
      rw [e1, e2]
    · intro m σ' H' hW
      obtain ⟨x, y, rfl, x0, y0, hg, rfl, rfl⟩ := hW
      walk_at "mf"
      refine g_ite (fun h => ?_) (fun h => ?_)
      · have h := of_decide_eq_true h
        refine ⟨fun σ2 H2 => ∃ x' y' : Int, σ2 = [some (.int u), some (.int d), some (.int x'), some (.int y'), none] ∧ 0 ≤ x' ∧ 0 ≤ y' ∧ Nat.gcd x'.natAbs y'.natAbs = Nat.gcd u.natAbs d.natAbs ∧ y'.toNat < y.toNat ∧ H2 = H', ?_, ?_⟩
        · intro σ2 H2 hN
          obtain ⟨x', y', rfl, a1, a2, a3, a4, rfl⟩ := hN
          exact ⟨_, a4, x', y', rfl, a1, a2, a3, rfl, rfl⟩
        · walk_at "mf"
          have b1 := Int.emod_nonneg x (show y ≠ 0 by omega)
          have b2 := Int.emod_lt_of_pos x h
          have b3 : (x % y).toNat < y.toNat := by
            generalize x % y = z at b1 b2 ⊢
            omega
          refine ⟨y, x % y, rfl, y0, b1, ?_, b3, rfl⟩
          rw [show (x % y).natAbs = x.natAbs % y.natAbs by
            obtain ⟨a, rfl⟩ := Int.eq_ofNat_of_zero_le x0
            obtain ⟨b, rfl⟩ := Int.eq_ofNat_of_zero_le y0
            rw [← Int.natCast_emod]
            simp only [Int.natAbs_natCast]]
          rw [Nat.gcd_comm, ← Nat.gcd_rec, Nat.gcd_comm]
          exact hg
      · have h := of_decide_eq_false h
        have hy : y = 0 := by omega
        subst hy
        rw [show (0 : Int).natAbs = 0 from rfl, Nat.gcd_zero_right] at hg
        have hx : x = ((Nat.gcd u.natAbs d.natAbs : Nat) : Int) := by omega
        subst hx
        have hpos : 0 < ((Nat.gcd u.natAbs d.natAbs : Nat) : Int) := by omega
        walk_at "mf"
        rw [decide_eq_true (show 0 < d by omega)]
        refine g_iteT ?_
        walk_at "mf"
        refine g_newT (by show 2 ≤ sizeLine; decide) fun p H1 hp s1 e1 => ?_
        rw [red_num u d hd, red_den u d hd] at e1
        exact k p H1 s1 hp e1
theorem ok__law_plus (c : Cn) (T : Tx c) : Cl c 2 "_law_plus" s__law_plus ["one", "other"] (sp_lbin (· + ·) c.K) := by
  obtain ⟨P, w, K, mg, base⟩ := c
  have C__law_low := ok__law_low _ T
  refine De.cl (N := ["one", "other"]) T.d__law_plus sc__law_plus (fun vs H Q E h => ?_) (fun f0 cdv A outer s H vs Q E hA hr h => ?_)
  · obtain ⟨a, b, r, s, m, n, rfl, _⟩ := h; rfl
  · have S := sc__law_plus
    obtain ⟨a, b, r, s, m, n, rfl, ea, eb, br, bs, hmn, k⟩ := h
    refine ⟨_, (pss_one (ps_ret (pe_f C__law_low hA hr (by decide) pl__law_low (by rfl) (pa_cons (pe_op op_addU (pe_op op_mulU (pe_ix ix_seq (pv 0) pe_int (fun _ _ => rfl)) (pe_ix ix_seq (pv 1) pe_int (fun _ _ => rfl))) (pe_op op_mulU (pe_ix ix_seq (pv 1) pe_int (fun _ _ => rfl)) (pe_ix ix_seq (pv 0) pe_int (fun _ _ => rfl)))) (pa_cons (pe_op op_mulU (pe_ix ix_seq (pv 0) pe_int (fun _ _ => rfl)) (pe_ix ix_seq (pv 1) pe_int (fun _ _ => rfl))) pa_nil))))), ?_⟩
    walk_at "mf"
    refine g_ix (.inr (tupU ea)) (v := .int r.num) rfl ?_
    walk_at "mf"
    refine g_ix (.inr (tupU eb)) (v := .int s.den) rfl ?_
    walk_at "mf"
    refine g_mulU (br.1.cm bs.2 (by omega)) ?_
    walk_at "mf"
    refine g_ix (.inr (tupU eb)) (v := .int s.num) rfl ?_
    walk_at "mf"
    refine g_ix (.inr (tupU ea)) (v := .int r.den) rfl ?_
    walk_at "mf"
    refine g_mulU (bs.1.cm br.2 (by omega)) ?_
    walk_at "mf"
    refine g_ix (.inr (tupU ea)) (v := .int r.den) rfl ?_
    walk_at "mf"
    refine g_ix (.inr (tupU eb)) (v := .int s.den) rfl ?_
    walk_at "mf"
    refine g_mulU (br.2.cm bs.2 (by omega)) ?_
    walk_at "mf"
    refine ⟨_, _, rfl, dd1 r s, (br.2.mul bs.2).mono (by omega), ?_⟩
    rw [add_div]
    exact k
theorem ok__law_times (c : Cn) (T : Tx c) : Cl c 2 "_law_times" s__law_times ["one", "other"] (sp_lbin (· * ·) c.K) := by
  obtain ⟨P, w, K, mg, base⟩ := c
  have C__law_low := ok__law_low _ T
  refine De.cl (N := ["one", "other"]) T.d__law_times sc__law_times (fun vs H Q E h => ?_) (fun f0 cdv A outer s H vs Q E hA hr h => ?_)
  · obtain ⟨a, b, r, s, m, n, rfl, _⟩ := h; rfl
  · have S := sc__law_times
    obtain ⟨a, b, r, s, m, n, rfl, ea, eb, br, bs, hmn, k⟩ := h
    refine ⟨_, (pss_one (ps_ret (pe_f C__law_low hA hr (by decide) pl__law_low (by rfl) (pa_cons (pe_op op_mulU (pe_ix ix_seq (pv 0) pe_int (fun _ _ => rfl)) (pe_ix ix_seq (pv 1) pe_int (fun _ _ => rfl))) (pa_cons (pe_op op_mulU (pe_ix ix_seq (pv 0) pe_int (fun _ _ => rfl)) (pe_ix ix_seq (pv 1) pe_int (fun _ _ => rfl))) pa_nil))))), ?_⟩
    walk_at "mf"
    refine g_ix (.inr (tupU ea)) (v := .int r.num) rfl ?_
    walk_at "mf"
    refine g_ix (.inr (tupU eb)) (v := .int s.num) rfl ?_
    walk_at "mf"
    refine g_mulU (br.1.cm bs.1 (by omega)) ?_
    walk_at "mf"
    refine g_ix (.inr (tupU ea)) (v := .int r.den) rfl ?_
    walk_at "mf"
    refine g_ix (.inr (tupU eb)) (v := .int s.den) rfl ?_
    walk_at "mf"
    refine g_mulU (br.2.cm bs.2 (by omega)) ?_
    walk_at "mf"
    refine ⟨_, _, rfl, dd1 r s, (br.2.mul bs.2).mono (by omega), ?_⟩
    rw [mul_div]
    exact k
end Mf
namespace Mf
open PySem PySem.Spec PyProof.Rows L2
local macro_rules | `(tactic| walk_at "mf1") => `(tactic| first
  | ((with_reducible apply g_var); exact rfl)
  | with_reducible first
    | refine g_c ?_ | refine g_op ?_ | refine g_un ?_ | refine g_cb ?_ | refine g_cl ?_ | refine g_clk ?_ | refine g_nil ?_ | refine g_cons ?_
    | refine g_tB ?_ | refine g_test ?_ | refine g_bl ?_ | refine g_and ?_ | refine g_or ?_ | refine g_not ?_ | refine g_andV ?_ | refine g_orV ?_ | refine g_notV ?_
    | refine g_if ?_ | refine g_ifS ?_ | refine g_seq ?_ | refine g_next ?_ | refine g_ret ?_ | refine g_drop ?_ | refine g_asg ?_ | refine g_name ?_ | refine g_sub ?_
    | refine g_int ?_ | refine g_intB ?_ | refine g_abs ?_ | refine g_I0 ?_ | refine g_addI ?_ | refine g_U ?_ | refine g_isNn ?_ | refine g_isNi ?_ | refine g_notN ?_ | refine g_notT1 ?_ | refine g_notT2 ?_ | refine g_notT3 ?_ | refine g_notT4 ?_ | refine g_notTb ?_ | refine g_notTi ?_ | refine g_eqI ?_ | refine g_neI ?_ | refine g_neSs ?_ | refine g_neS ?_ | refine g_eqS ?_
    | refine g_iteT ?_ | refine g_iteF ?_ | refine g_iteNT ?_ | refine g_iteNF ?_ | refine g_lst ?_ | refine g_tup ?_ | refine g_seqP ?_ | refine g_sl ?_ | refine g_noPart ?_ | refine g_part ?_ | refine g_yes ?_ | refine g_thenT ?_ | refine g_consG ?_ | refine g_nilG ?_ | refine g_ii ?_ | refine g_par ?_ | refine g_par3 ?_ | refine g_vv ?_ | refine g_vvv ?_ | refine g_reprB ?_ | refine g_lcL ?_ | refine g_lcR ?_
  | ((with_reducible refine g_mod ?_ ?_); (first | omega | decide))
  | ((with_reducible refine g_div ?_ ?_ ?_); (first | omega | decide); (first | assumption | decide))
  | ((with_reducible refine g_mulL ?_ ?_ ?_); (first | omega | decide); (first | omega | decide))
  | ((with_reducible refine g_mulR ?_ ?_ ?_); (first | omega | decide); (first | omega | decide))
  | ((with_reducible refine g_pow ?_ ?_ ?_ ?_); decide; decide; (first | omega | decide))
  | dsimp only)
local macro_rules | `(tactic| walk_at "mf1s") => `(tactic| first
  | ((with_reducible apply g_var); exact rfl)
  | with_reducible first
    | refine g_c ?_ | refine g_op ?_ | refine g_un ?_ | refine g_cb ?_ | refine g_cl ?_ | refine g_clk ?_ | refine g_nil ?_ | refine g_cons ?_
    | refine g_tB ?_ | refine g_test ?_ | refine g_bl ?_ | refine g_and ?_ | refine g_or ?_ | refine g_not ?_ | refine g_andV ?_ | refine g_orV ?_ | refine g_notV ?_
    | refine g_if ?_ | refine g_ifS ?_ | refine g_next ?_ | refine g_ret ?_ | refine g_drop ?_ | refine g_asg ?_ | refine g_name ?_ | refine g_sub ?_
    | refine g_int ?_ | refine g_intB ?_ | refine g_abs ?_ | refine g_I0 ?_ | refine g_addI ?_ | refine g_U ?_ | refine g_isNn ?_ | refine g_isNi ?_ | refine g_notN ?_ | refine g_notT1 ?_ | refine g_notT2 ?_ | refine g_notT3 ?_ | refine g_notT4 ?_ | refine g_notTb ?_ | refine g_notTi ?_ | refine g_eqI ?_ | refine g_neI ?_ | refine g_neSs ?_ | refine g_neS ?_ | refine g_eqS ?_
    | refine g_iteT ?_ | refine g_iteF ?_ | refine g_iteNT ?_ | refine g_iteNF ?_ | refine g_lst ?_ | refine g_tup ?_ | refine g_seqP ?_ | refine g_sl ?_ | refine g_noPart ?_ | refine g_part ?_ | refine g_yes ?_ | refine g_thenT ?_ | refine g_consG ?_ | refine g_nilG ?_ | refine g_ii ?_ | refine g_par ?_ | refine g_par3 ?_ | refine g_vv ?_ | refine g_vvv ?_ | refine g_reprB ?_ | refine g_lcL ?_ | refine g_lcR ?_
  | ((with_reducible refine g_mod ?_ ?_); (first | omega | decide))
  | ((with_reducible refine g_div ?_ ?_ ?_); (first | omega | decide); (first | assumption | decide))
  | ((with_reducible refine g_mulL ?_ ?_ ?_); (first | omega | decide); (first | omega | decide))
  | ((with_reducible refine g_mulR ?_ ?_ ?_); (first | omega | decide); (first | omega | decide))
  | ((with_reducible refine g_pow ?_ ?_ ?_ ?_); decide; decide; (first | omega | decide))
  | dsimp only)
local macro_rules | `(tactic| walk_at "mfs") => `(tactic| repeat walk_at "mf1s")
local macro_rules | `(tactic| walk_at "mf") => `(tactic| repeat walk_at "mf1")
local macro_rules | `(tactic| walk_at "ed") => `(tactic| repeat (first
  | with_reducible first
    | exact eds_nil | apply eds_cons | exact ed_int | exact ed_bl | exact ed_non | apply ed_neg
  | ((with_reducible apply ed_str); decide)
  | ((with_reducible apply ed_var); (exact rfl); (first | assumption | exact Dq.int _))
  | ((with_reducible apply ed_dict0); assumption)
  | ((with_reducible apply ed_dict2); assumption)
  | ((with_reducible apply ed_tup); assumption)
  | ((with_reducible apply ed_lst); assumption)
  | (with_reducible apply ed_pow)
  | (with_reducible apply ed_mul)
  | assumption
  | (exact Dq.int _)
  | (exact ⟨by decide, by decide, by decide⟩)
  | (show List.length _ ≤ 1000; simp only [List.length_cons, List.length_nil]; decide)))
theorem ok__law_fraction (c : Cn) (T : Tx c) : Cl c 3 "_law_fraction" s__law_fraction ["ropewalk"] (sp_lrat c.K) := by
  obtain ⟨P, w, K, mg, base⟩ := c
  have C__law_knot := ok__law_knot _ T
  have C__law_low := ok__law_low _ T
  have C__law_pick := ok__law_pick _ T
  refine De.cl (N := ["ropewalk", "up", "down"]) T.d__law_fraction sc__law_fraction (fun vs H Q E h => ?_) (fun f0 cdv A outer s H vs Q E hA hr h => ?_)
  · obtain ⟨q, t, rfl, _⟩ := h; rfl
  · have S := sc__law_fraction
    obtain ⟨q, t, rfl, hq, ht, k⟩ := h
    refine ⟨_, (pss_cons (ps_par (i := 1) (j := 2) (by rfl) S.nd rfl rfl (by decide) rfl rfl (pa_cons (pe_f C__law_pick hA hr (by decide) pl__law_pick (by rfl) (pa_cons (pv 0) (pa_cons (pe_lst (pa_cons pe_int (pa_cons pe_int (pa_cons (pe_un un_neg pe_int) (pa_cons pe_int (pa_cons (pe_un un_neg pe_int) (pa_cons (pe_op op_sub (pe_f C__law_knot hA hr (by decide) pl__law_knot (by rfl) (pa_cons (pv 0) (pa_cons pe_int pa_nil))) pe_int) (pa_cons (pe_op op_sub (pe_f C__law_knot hA hr (by decide) pl__law_knot (by rfl) (pa_cons (pv 0) (pa_cons pe_int pa_nil))) pe_int) pa_nil)))))))) pa_nil))) (pa_cons (pe_f C__law_pick hA hr (by decide) pl__law_pick (by rfl) (pa_cons (pv 0) (pa_cons (pe_lst (pa_cons pe_int (pa_cons pe_int (pa_cons pe_int (pa_cons pe_int (pa_cons (pe_op op_addU pe_int (pe_f C__law_knot hA hr (by decide) pl__law_knot (by rfl) (pa_cons (pv 0) (pa_cons pe_int pa_nil)))) (pa_cons pe_int pa_nil))))))) pa_nil))) pa_nil)) (by rfl))
      (pss_one (ps_ret (pe_f C__law_low hA hr (by decide) pl__law_low (by rfl) (pa_cons (pv 1) (pa_cons (pv 2) pa_nil)))))), ?_⟩
    walk_at "mf"
    refine ⟨q, t, _, rfl, hq, by omega, by decide, by decide, fun t1 H1 i sx1 hq1 l1 u1 i0 i1 => ?_⟩
    walk_at "mf"
    refine ⟨q, t1, _, rfl, hq1, by omega, by decide, by decide, fun t2 H2 j sx2 hq2 l2 u2 j0 j1 => ?_⟩
    walk_at "mf"
    refine g_newL (by show 7 ≤ sizeLine; decide) fun p3 H3 hp3 s3 e3 => ?_
    walk_at "mf"
    refine ⟨q, p3, t2, _, rfl, hq2.same s3, by omega, hq2.ne hp3, .inl (seqU e3), by simp, by simp only [List.length_cons, List.length_nil]; decide, fun t4 H4 z sx4 hq4 l4 u4 m4 => ?_⟩
    obtain ⟨U, rfl, hU⟩ : ∃ y : Int, z = .int y ∧ Bt 11 y := by
      simp only [List.mem_cons, List.not_mem_nil, or_false] at m4
      rcases m4 with rfl | rfl | rfl | rfl | rfl | rfl | rfl <;> refine ⟨_, rfl, ?_⟩
      · show (0 : Int).natAbs < 2 ^ 11; decide
      · show (1 : Int).natAbs < 2 ^ 11; decide
      · show (-1 : Int).natAbs < 2 ^ 11; decide
      · show (2 : Int).natAbs < 2 ^ 11; decide
      · show (-3 : Int).natAbs < 2 ^ 11; decide
      · show (i - 20).natAbs < 2 ^ 11; omega
      · show (j - 2000).natAbs < 2 ^ 11; omega
    walk_at "mf"
    refine ⟨q, t4, _, rfl, hq4, by omega, by decide, by decide, fun t5 H5 l sx5 hq5 l5 u5 k0 k1 => ?_⟩
    walk_at "mf"
    refine g_newL (by show 6 ≤ sizeLine; decide) fun p6 H6 hp6 s6 e6 => ?_
    walk_at "mf"
    refine ⟨q, p6, t5, _, rfl, hq5.same s6, by omega, hq5.ne hp6, .inl (seqU e6), by simp, by simp only [List.length_cons, List.length_nil]; decide, fun t7 H7 z sx7 hq7 l7 u7 m7 => ?_⟩
    obtain ⟨D, rfl, hD, hD1⟩ : ∃ y : Int, z = .int y ∧ Bt 11 y ∧ 1 ≤ y := by
      simp only [List.mem_cons, List.not_mem_nil, or_false] at m7
      rcases m7 with rfl | rfl | rfl | rfl | rfl | rfl <;> refine ⟨_, rfl, ?_, ?_⟩
      · show (1 : Int).natAbs < 2 ^ 11; decide
      · decide
      · show (1 : Int).natAbs < 2 ^ 11; decide
      · decide
      · show (2 : Int).natAbs < 2 ^ 11; decide
      · decide
      · show (3 : Int).natAbs < 2 ^ 11; decide
      · decide
      · show (1 + l).natAbs < 2 ^ 11; omega
      · omega
      · show (720 : Int).natAbs < 2 ^ 11; decide
      · decide
    have sx : SameX q H H7 := ((((sx1.trans sx2).trans (Same.x s3)).trans sx4).trans (sx5.trans (Same.x s6))).trans sx7
    walk_at "mf"
    refine ⟨U, D, rfl, hD1, hD.mono (by decide), fun p H' s n e => ?_⟩
    have np : H p = none := by
      cases z : H p with
      | none => rfl
      | some o => exact absurd (show H p ≠ none by rw [z]; exact Option.some_ne_none _) (fresh_x sx hq7.at n)
    exact k t7 H' p _ (sx.trans (Same.x s)) (hq7.same s) (by omega) (by omega) np e ((Rb.of hD1 hU hD).mono (by decide))
theorem ok__law_as (c : Cn) (T : Tx c) : Cl c 3 "_law_as" s__law_as ["ropewalk", "number"] (sp_las2 c.K) := by
  obtain ⟨P, w, K, mg, base⟩ := c
  have C__law_knot := ok__law_knot _ T
  have C__law_pick := ok__law_pick _ T
  refine De.cl (N := ["ropewalk", "number", "by"]) T.d__law_as sc__law_as (fun vs H Q E h => ?_) (fun f0 cdv A outer s H vs Q E hA hr h => ?_)
  · obtain ⟨q, p, t, r, rfl, _⟩ := h; rfl
  · have S := sc__law_as
    obtain ⟨q, p, t, r, rfl, hq, ht, ep, br, k⟩ := h
    refine ⟨_, (pss_cons (ps_set (i := 2) S.nd rfl (by first | exact .inl rfl | exact .inr rfl) (pe_op op_addU pe_int (pe_f C__law_knot hA hr (by decide) pl__law_knot (by rfl) (pa_cons (pv 0) (pa_cons pe_int pa_nil)))))
      (pss_one (ps_ret (pe_f C__law_pick hA hr (by decide) pl__law_pick (by rfl) (pa_cons (pv 0) (pa_cons (pe_op op_addU (pe_lst (pa_cons (pv 1) (pa_cons (pe_lst (pa_cons (pe_op op_mulU (pe_ix ix_seq (pv 1) pe_int (fun _ _ => rfl)) (pv 2)) (pa_cons (pe_op op_mulU (pe_ix ix_seq (pv 1) pe_int (fun _ _ => rfl)) (pv 2)) pa_nil))) (pa_cons (pe_tup (pa_cons (pe_op op_mulU (pe_ix ix_seq (pv 1) pe_int (fun _ _ => rfl)) (pv 2)) (pa_cons (pe_op op_mulU (pe_ix ix_seq (pv 1) pe_int (fun _ _ => rfl)) (pv 2)) pa_nil))) pa_nil)))) (pe_op op_mulU (pe_lst (pa_cons (pe_ix ix_seq (pv 1) pe_int (fun _ _ => rfl)) pa_nil)) (pe_callTy call_intU (by rfl) T.n_int PyProof.Rows.boot_int (pa_cons (pe_cmpR (show OpR _ (compareOp .Eq) (rEqU K) from op_eqU (by exact hr.units)) (pe_ix ix_seq (pv 1) pe_int (fun _ _ => rfl)) pe_int (nomark _)) pa_nil)))) pa_nil)))))), ?_⟩
    have npq : p ≠ q := fun z => by
      obtain ⟨c, ns, w, h1, _⟩ := hq
      rw [z, h1] at ep
      cases ep
    walk_at "mf"
    refine ⟨q, t, _, rfl, hq, by omega, by decide, by decide, fun t1 H1 i sx1 hq1 l1 u1 i0 i1 => ?_⟩
    have ep1 := sx1 _ _ npq ep
    have bb : Bt 3 (1 + i) := by show (1 + i).natAbs < 2 ^ 3; omega
    have b1 : Bt 203 (r.num * (1 + i)) := br.1.mul bb
    have b2 : Bt 203 ((r.den : Int) * (1 + i)) := br.2.mul bb
    have d2 : 1 ≤ (r.den : Int) * (1 + i) := mul_ge1 (den1 r) (by omega)
    have c1 := br.1.cm bb (by decide)
    have c2 := br.2.cm bb (by decide)
    walk_at "mf"
    refine g_ix (.inr (tupU ep1)) (v := .int r.num) rfl ?_
    walk_at "mf"
    refine g_ix (.inr (tupU ep1)) (v := .int r.den) rfl ?_
    walk_at "mf"
    refine g_newL (by show 2 ≤ sizeLine; decide) fun pa Ha na sa ea => ?_
    have epa := sa _ _ ep1
    walk_at "mf"
    refine g_ix (.inr (tupU epa)) (v := .int r.num) rfl ?_
    walk_at "mf"
    refine g_ix (.inr (tupU epa)) (v := .int r.den) rfl ?_
    walk_at "mf"
    refine g_newT (by show 2 ≤ sizeLine; decide) fun pb Hb nb sb eb => ?_
    walk_at "mf"
    refine g_newL (by show 3 ≤ sizeLine; decide) fun pc Hc nc sc ec => ?_
    have epc := sc _ _ (sb _ _ epa)
    walk_at "mf"
    refine g_ix (.inr (tupU epc)) (v := .int r.num) rfl ?_
    walk_at "mf"
    refine g_newL (by show 1 ≤ sizeLine; decide) fun pd Hd nd sd ed => ?_
    walk_at "mf"
    refine g_ix (.inr (tupU (sd _ _ epc))) (v := .int r.den) rfl ?_
    walk_at "mf"
    refine g_rep ed (by split <;> decide) (by split <;> decide) (by show 1 * _ ≤ sizeLine; split <;> decide) fun pe He ne se ee => ?_
    walk_at "mf"
    refine g_cat (se _ _ (sd _ _ ec)) ee ?_ fun pf Hf nf sf ef => ?_
    · show 3 + _ ≤ sizeLine
      by_cases z : (r.den : Int) = 1
      · rw [decide_eq_true z]
        show 4 ≤ sizeLine
        decide
      · rw [decide_eq_false z]
        show 3 ≤ sizeLine
        decide
    walk_at "mf"
    have sA : Same H1 Hf := ((((sa.trans sb).trans sc).trans sd).trans se).trans sf
    have hqf := hq1.same sA
    have nq : pf ≠ q := (hq1.same ((((sa.trans sb).trans sc).trans sd).trans se)).ne nf
    refine ⟨q, pf, t1, _, rfl, hqf, by omega, nq, .inl (seqU ef), by simp, ?_, fun t7 H7 x sx7 hq7 l7 u7 mx => ?_⟩
    · by_cases z : (r.den : Int) = 1
      · rw [decide_eq_true z]
        show 4 ≤ 1000
        decide
      · rw [decide_eq_false z]
        show 3 ≤ 1000
        decide
    have fin : SameX q H H7 := (sx1.trans (Same.x sA)).trans sx7
    have kk : ∀ x' y', Fz (isL H) H7 x x' y' → 1 ≤ y' → Rat.divInt x' y' = r → Bt 240 x' → Bt 240 y' → Q x H7 := fun x' y' => k t7 H7 x x' y' fin hq7 (by omega) (by omega)
    have nlf : ∀ {a : Addr}, H a = none → ¬ isL H a := fun h z => by
      obtain ⟨acc, z⟩ := z
      rw [h] at z
      cases z
    have n0 : ∀ {a : Addr} {Hz : Hp}, SameX q H Hz → (∃ o, Hz q = some o) → Hz a = none → H a = none := fun {a Hz} s hz n => by
      cases z : H a with
      | none => rfl
      | some o => exact absurd (show H a ≠ none by rw [z]; exact Option.some_ne_none _) (fresh_x s hz n)
    have er : Rat.divInt (r.num * (1 + i)) ((r.den : Int) * (1 + i)) = r := by
      rw [Rat.divInt_mul_right (by omega), Rat.num_divInt_den]
    have mx' : (x = .ref p ∨ x = .ref pa ∨ x = .ref pb) ∨ (x = .int r.num ∧ (r.den : Int) = 1) := by
      rcases List.mem_append.mp mx with mx | mx
      · simp only [List.mem_cons, List.not_mem_nil, or_false] at mx
        exact .inl mx
      · by_cases z : (r.den : Int) = 1
        · rw [decide_eq_true z] at mx
          have mx : x ∈ [V.int r.num] := mx
          exact .inr ⟨List.mem_singleton.mp mx, z⟩
        · rw [decide_eq_false z] at mx
          have mx : x ∈ ([] : List V) := mx
          exact absurd mx List.not_mem_nil
    rcases mx' with (rfl | rfl | rfl) | ⟨rfl, z⟩
    · refine kk r.num r.den (.inr ⟨p, rfl, fun z => ?_, .inl (fin _ _ npq ep)⟩) (den1 r) (Rat.num_divInt_den r) (br.1.mono (by decide)) (br.2.mono (by decide))
      obtain ⟨acc, z⟩ := z
      rw [ep] at z
      cases z
    · have n1 := n0 sx1 hq1.at na
      exact kk _ _ (.inr ⟨pa, rfl, nlf n1, .inr (sx7 _ _ (hq1.ne na) (sf _ _ (se _ _ (sd _ _ (sc _ _ (sb _ _ ea))))))⟩) d2 er (b1.mono (by decide)) (b2.mono (by decide))
    · have n1 := n0 (sx1.trans (Same.x sa)) (hq1.same sa).at nb
      exact kk _ _ (.inr ⟨pb, rfl, nlf n1, .inl (sx7 _ _ ((hq1.same sa).ne nb) (sf _ _ (se _ _ (sd _ _ (sc _ _ eb)))))⟩) d2 er (b1.mono (by decide)) (b2.mono (by decide))
    · refine kk r.num 1 (.inl ⟨rfl, rfl⟩) (by decide) ?_ (br.1.mono (by decide)) (by show (1 : Int).natAbs < 2 ^ 240; decide)
      have := Rat.num_divInt_den r
      rw [z] at this
      exact this
end Mf
namespace Mf
open PySem PySem.Spec PyProof.Rows L2
local macro_rules | `(tactic| walk_at "mf1") => `(tactic| first
  | ((with_reducible apply g_var); exact rfl)
  | with_reducible first
    | refine g_c ?_ | refine g_op ?_ | refine g_un ?_ | refine g_cb ?_ | refine g_cl ?_ | refine g_clk ?_ | refine g_nil ?_ | refine g_cons ?_
    | refine g_tB ?_ | refine g_test ?_ | refine g_bl ?_ | refine g_and ?_ | refine g_or ?_ | refine g_not ?_ | refine g_andV ?_ | refine g_orV ?_ | refine g_notV ?_
    | refine g_if ?_ | refine g_ifS ?_ | refine g_seq ?_ | refine g_next ?_ | refine g_ret ?_ | refine g_drop ?_ | refine g_asg ?_ | refine g_name ?_ | refine g_sub ?_
    | refine g_int ?_ | refine g_intB ?_ | refine g_abs ?_ | refine g_I0 ?_ | refine g_addI ?_ | refine g_U ?_ | refine g_isNn ?_ | refine g_isNi ?_ | refine g_notN ?_ | refine g_notT1 ?_ | refine g_notT2 ?_ | refine g_notT3 ?_ | refine g_notT4 ?_ | refine g_notTb ?_ | refine g_notTi ?_ | refine g_eqI ?_ | refine g_neI ?_ | refine g_neSs ?_ | refine g_neS ?_ | refine g_eqS ?_
    | refine g_iteT ?_ | refine g_iteF ?_ | refine g_iteNT ?_ | refine g_iteNF ?_ | refine g_lst ?_ | refine g_tup ?_ | refine g_seqP ?_ | refine g_sl ?_ | refine g_noPart ?_ | refine g_part ?_ | refine g_yes ?_ | refine g_thenT ?_ | refine g_consG ?_ | refine g_nilG ?_ | refine g_ii ?_ | refine g_par ?_ | refine g_par3 ?_ | refine g_vv ?_ | refine g_vvv ?_ | refine g_reprB ?_ | refine g_lcL ?_ | refine g_lcR ?_
  | ((with_reducible refine g_mod ?_ ?_); (first | omega | decide))
  | ((with_reducible refine g_div ?_ ?_ ?_); (first | omega | decide); (first | assumption | decide))
  | ((with_reducible refine g_mulL ?_ ?_ ?_); (first | omega | decide); (first | omega | decide))
  | ((with_reducible refine g_mulR ?_ ?_ ?_); (first | omega | decide); (first | omega | decide))
  | ((with_reducible refine g_pow ?_ ?_ ?_ ?_); decide; decide; (first | omega | decide))
  | dsimp only)
local macro_rules | `(tactic| walk_at "mf1s") => `(tactic| first
  | ((with_reducible apply g_var); exact rfl)
  | with_reducible first
    | refine g_c ?_ | refine g_op ?_ | refine g_un ?_ | refine g_cb ?_ | refine g_cl ?_ | refine g_clk ?_ | refine g_nil ?_ | refine g_cons ?_
    | refine g_tB ?_ | refine g_test ?_ | refine g_bl ?_ | refine g_and ?_ | refine g_or ?_ | refine g_not ?_ | refine g_andV ?_ | refine g_orV ?_ | refine g_notV ?_
    | refine g_if ?_ | refine g_ifS ?_ | refine g_next ?_ | refine g_ret ?_ | refine g_drop ?_ | refine g_asg ?_ | refine g_name ?_ | refine g_sub ?_
    | refine g_int ?_ | refine g_intB ?_ | refine g_abs ?_ | refine g_I0 ?_ | refine g_addI ?_ | refine g_U ?_ | refine g_isNn ?_ | refine g_isNi ?_ | refine g_notN ?_ | refine g_notT1 ?_ | refine g_notT2 ?_ | refine g_notT3 ?_ | refine g_notT4 ?_ | refine g_notTb ?_ | refine g_notTi ?_ | refine g_eqI ?_ | refine g_neI ?_ | refine g_neSs ?_ | refine g_neS ?_ | refine g_eqS ?_
    | refine g_iteT ?_ | refine g_iteF ?_ | refine g_iteNT ?_ | refine g_iteNF ?_ | refine g_lst ?_ | refine g_tup ?_ | refine g_seqP ?_ | refine g_sl ?_ | refine g_noPart ?_ | refine g_part ?_ | refine g_yes ?_ | refine g_thenT ?_ | refine g_consG ?_ | refine g_nilG ?_ | refine g_ii ?_ | refine g_par ?_ | refine g_par3 ?_ | refine g_vv ?_ | refine g_vvv ?_ | refine g_reprB ?_ | refine g_lcL ?_ | refine g_lcR ?_
  | ((with_reducible refine g_mod ?_ ?_); (first | omega | decide))
  | ((with_reducible refine g_div ?_ ?_ ?_); (first | omega | decide); (first | assumption | decide))
  | ((with_reducible refine g_mulL ?_ ?_ ?_); (first | omega | decide); (first | omega | decide))
  | ((with_reducible refine g_mulR ?_ ?_ ?_); (first | omega | decide); (first | omega | decide))
  | ((with_reducible refine g_pow ?_ ?_ ?_ ?_); decide; decide; (first | omega | decide))
  | dsimp only)
local macro_rules | `(tactic| walk_at "mfs") => `(tactic| repeat walk_at "mf1s")
local macro_rules | `(tactic| walk_at "mf") => `(tactic| repeat walk_at "mf1")
local macro_rules | `(tactic| walk_at "ed") => `(tactic| repeat (first
  | with_reducible first
    | exact eds_nil | apply eds_cons | exact ed_int | exact ed_bl | exact ed_non | apply ed_neg
  | ((with_reducible apply ed_str); decide)
  | ((with_reducible apply ed_var); (exact rfl); (first | assumption | exact Dq.int _))
  | ((with_reducible apply ed_dict0); assumption)
  | ((with_reducible apply ed_dict2); assumption)
  | ((with_reducible apply ed_tup); assumption)
  | ((with_reducible apply ed_lst); assumption)
  | (with_reducible apply ed_pow)
  | (with_reducible apply ed_mul)
  | assumption
  | (exact Dq.int _)
  | (exact ⟨by decide, by decide, by decide⟩)
  | (show List.length _ ≤ 1000; simp only [List.length_cons, List.length_nil]; decide)))
theorem ok__law_row (c : Cn) (T : Tx c) : Cl c 4 "_law_row" s__law_row ["ropewalk", "most"] (sp_row c.K) := by
  obtain ⟨P, w, K, mg, base⟩ := c
  have C__law_fraction := ok__law_fraction _ T
  have C__law_knot := ok__law_knot _ T
  refine De.cl (N := ["ropewalk", "most", "at"]) T.d__law_row sc__law_row (fun vs H Q E h => ?_) (fun f0 cdv A outer s H vs Q E hA hr h => ?_)
  · obtain ⟨q, t, m, rfl, _⟩ := h; rfl
  · have S := sc__law_row
    obtain ⟨q, t, m, rfl, hq, ht, m0, m1, k⟩ := h
    refine ⟨_, (pss_one (ps_ret (pe_lc (own := [("at", 2)]) (g := gName 2) (tt := tYes) rfl S.nd (pi_range1 rfl T.n_range (pa_cons (pe_f C__law_knot hA hr (by decide) pl__law_knot (by rfl) (pa_cons (pv 0) (pa_cons (pe_op op_addU (pv 1) pe_int) pa_nil))) pa_nil)) (blkOk_by (N := ["ropewalk", "most", "at"]) (sc := defScope s__law_row) (by decide +kernel)) (fun _ _ _ _ _ => pg_name (i := 2) S.nd rfl (Or.inl rfl)) (fun _ _ _ _ _ => pts_nil) (fun _ _ _ _ _ => (pe_f C__law_fraction hA hr (by decide) pl__law_fraction (by rfl) (pa_cons (pv 0) pa_nil)))))), ?_⟩
    walk_at "mf"
    refine ⟨q, t, _, rfl, hq, by omega, by omega, Bt.log (n := 20) (by show (m + 1).natAbs < 2 ^ 20; omega) (by decide), fun t1 H1 i sx1 hq1 l1 u1 i0 i1 => ?_⟩
    walk_at "mf"
    refine ⟨_, rfl, by omega, by omega, ?_⟩
    have nH : ∀ {D}, H1 D = none → H D = none := fun {D} hD => by
      cases z : H D with
      | none => rfl
      | some o => exact absurd (show H D ≠ none by rw [z]; exact Option.some_ne_none _) (fresh_x sx1 hq1.at hD)
    refine lcgo_range (n := i.toNat) (fun D j H' => ∃ t' vs rs, Qy K q t' H' ∧ t1 ≤ t' ∧ t' ≤ t1 + 5 * (j : Int) ∧ Qn q D H' ∧ SameX q H H' ∧ H' D = some (.lst vs) ∧ vs.length = j ∧ TL H' vs rs ∧ RbL 12 rs) (fun z => rfl)
      (fun D hD => ⟨t1, [], [], hq1.upd (Qn.new hq1 hD) (hq1.ne hD), by omega, by omega, Qn.upd hq1 (Qn.new hq1 hD) (hq1.ne hD), sx1.trans (Same.x (same_new hD)), upd_same, rfl, .nil, fun r hr => absurd hr List.not_mem_nil⟩) (fun D j H' hD hj h => ?_) (fun D H' hD h => ?_)
    · obtain ⟨t', vs, rs, hq', lt', ut', hn', sx', eD, lv, tl, br⟩ := h
      have nD : D ≠ q := hq1.ne hD
      walk_at "mf"
      refine ⟨q, t', rfl, hq', by omega, fun t6 H6 p r sx6 hq6 l6 u6 np ep bp => ?_⟩
      have hn6 := hn'.go hq' sx6
      have eD6 := sx6 _ _ nD eD
      have kt := upd_kt (o := .lst (vs ++ [.ref p])) eD6
      refine ⟨vs, eD6, small1000 (by omega), t6, vs ++ [.ref p], rs ++ [r], hq6.upd hn6 nD, by omega, by omega, Qn.upd hq6 hn6 nD, ?_, upd_same, by rw [List.length_append, lv]; rfl, ((tl.go (sx6.kt hq')).go kt).snoc (kt _ _ ep), ?_⟩
      · refine ⟨fun b o nb e => ?_, fun c w z e => ?_⟩
        · rw [upd_ne (ne_of_none e (nH hD))]
          exact (sx'.trans sx6).kept b o nb e
        · obtain ⟨w', z', e'⟩ := (sx'.trans sx6).cell c w z e
          exact ⟨w', z', by rw [upd_ne nD.symm]; exact e'⟩
      · intro x hx
        rcases List.mem_append.mp hx with hx | hx
        · exact br x hx
        · rw [List.mem_singleton.mp hx]
          exact bp
    · obtain ⟨t6, vs, rs, hq, l6, u6, hn6, sx6, eD, lv, tl, br⟩ := h
      exact k t6 H' D vs rs sx6 hq (by omega) (by omega) (nH hD) hn6 eD tl br (by rw [← tl.len, lv]; omega)
end Mf
namespace Mf
open PySem PySem.Spec PyProof.Rows L2
local macro_rules | `(tactic| walk_at "mf1") => `(tactic| first
  | ((with_reducible apply g_var); exact rfl)
  | with_reducible first
    | refine g_c ?_ | refine g_op ?_ | refine g_un ?_ | refine g_cb ?_ | refine g_cl ?_ | refine g_clk ?_ | refine g_nil ?_ | refine g_cons ?_
    | refine g_tB ?_ | refine g_test ?_ | refine g_bl ?_ | refine g_and ?_ | refine g_or ?_ | refine g_not ?_ | refine g_andV ?_ | refine g_orV ?_ | refine g_notV ?_
    | refine g_if ?_ | refine g_ifS ?_ | refine g_seq ?_ | refine g_next ?_ | refine g_ret ?_ | refine g_drop ?_ | refine g_asg ?_ | refine g_name ?_ | refine g_sub ?_
    | refine g_int ?_ | refine g_intB ?_ | refine g_abs ?_ | refine g_I0 ?_ | refine g_addI ?_ | refine g_U ?_ | refine g_isNn ?_ | refine g_isNi ?_ | refine g_notN ?_ | refine g_notT1 ?_ | refine g_notT2 ?_ | refine g_notT3 ?_ | refine g_notT4 ?_ | refine g_notTb ?_ | refine g_notTi ?_ | refine g_eqI ?_ | refine g_neI ?_ | refine g_neSs ?_ | refine g_neS ?_ | refine g_eqS ?_
    | refine g_iteT ?_ | refine g_iteF ?_ | refine g_iteNT ?_ | refine g_iteNF ?_ | refine g_lst ?_ | refine g_tup ?_ | refine g_seqP ?_ | refine g_sl ?_ | refine g_noPart ?_ | refine g_part ?_ | refine g_yes ?_ | refine g_thenT ?_ | refine g_consG ?_ | refine g_nilG ?_ | refine g_ii ?_ | refine g_par ?_ | refine g_par3 ?_ | refine g_vv ?_ | refine g_vvv ?_ | refine g_reprB ?_ | refine g_lcL ?_ | refine g_lcR ?_
  | ((with_reducible refine g_mod ?_ ?_); (first | omega | decide))
  | ((with_reducible refine g_div ?_ ?_ ?_); (first | omega | decide); (first | assumption | decide))
  | ((with_reducible refine g_mulL ?_ ?_ ?_); (first | omega | decide); (first | omega | decide))
  | ((with_reducible refine g_mulR ?_ ?_ ?_); (first | omega | decide); (first | omega | decide))
  | ((with_reducible refine g_pow ?_ ?_ ?_ ?_); decide; decide; (first | omega | decide))
  | dsimp only)
local macro_rules | `(tactic| walk_at "mf1s") => `(tactic| first
  | ((with_reducible apply g_var); exact rfl)
  | with_reducible first
    | refine g_c ?_ | refine g_op ?_ | refine g_un ?_ | refine g_cb ?_ | refine g_cl ?_ | refine g_clk ?_ | refine g_nil ?_ | refine g_cons ?_
    | refine g_tB ?_ | refine g_test ?_ | refine g_bl ?_ | refine g_and ?_ | refine g_or ?_ | refine g_not ?_ | refine g_andV ?_ | refine g_orV ?_ | refine g_notV ?_
    | refine g_if ?_ | refine g_ifS ?_ | refine g_next ?_ | refine g_ret ?_ | refine g_drop ?_ | refine g_asg ?_ | refine g_name ?_ | refine g_sub ?_
    | refine g_int ?_ | refine g_intB ?_ | refine g_abs ?_ | refine g_I0 ?_ | refine g_addI ?_ | refine g_U ?_ | refine g_isNn ?_ | refine g_isNi ?_ | refine g_notN ?_ | refine g_notT1 ?_ | refine g_notT2 ?_ | refine g_notT3 ?_ | refine g_notT4 ?_ | refine g_notTb ?_ | refine g_notTi ?_ | refine g_eqI ?_ | refine g_neI ?_ | refine g_neSs ?_ | refine g_neS ?_ | refine g_eqS ?_
    | refine g_iteT ?_ | refine g_iteF ?_ | refine g_iteNT ?_ | refine g_iteNF ?_ | refine g_lst ?_ | refine g_tup ?_ | refine g_seqP ?_ | refine g_sl ?_ | refine g_noPart ?_ | refine g_part ?_ | refine g_yes ?_ | refine g_thenT ?_ | refine g_consG ?_ | refine g_nilG ?_ | refine g_ii ?_ | refine g_par ?_ | refine g_par3 ?_ | refine g_vv ?_ | refine g_vvv ?_ | refine g_reprB ?_ | refine g_lcL ?_ | refine g_lcR ?_
  | ((with_reducible refine g_mod ?_ ?_); (first | omega | decide))
  | ((with_reducible refine g_div ?_ ?_ ?_); (first | omega | decide); (first | assumption | decide))
  | ((with_reducible refine g_mulL ?_ ?_ ?_); (first | omega | decide); (first | omega | decide))
  | ((with_reducible refine g_mulR ?_ ?_ ?_); (first | omega | decide); (first | omega | decide))
  | ((with_reducible refine g_pow ?_ ?_ ?_ ?_); decide; decide; (first | omega | decide))
  | dsimp only)
local macro_rules | `(tactic| walk_at "mfs") => `(tactic| repeat walk_at "mf1s")
local macro_rules | `(tactic| walk_at "mf") => `(tactic| repeat walk_at "mf1")
local macro_rules | `(tactic| walk_at "ed") => `(tactic| repeat (first
  | with_reducible first
    | exact eds_nil | apply eds_cons | exact ed_int | exact ed_bl | exact ed_non | apply ed_neg
  | ((with_reducible apply ed_str); decide)
  | ((with_reducible apply ed_var); (exact rfl); (first | assumption | exact Dq.int _))
  | ((with_reducible apply ed_dict0); assumption)
  | ((with_reducible apply ed_dict2); assumption)
  | ((with_reducible apply ed_tup); assumption)
  | ((with_reducible apply ed_lst); assumption)
  | (with_reducible apply ed_pow)
  | (with_reducible apply ed_mul)
  | assumption
  | (exact Dq.int _)
  | (exact ⟨by decide, by decide, by decide⟩)
  | (show List.length _ ≤ 1000; simp only [List.length_cons, List.length_nil]; decide)))
theorem ok__law_ats (c : Cn) (T : Tx c) : Cl c 3 "_law_ats" s__law_ats ["ropewalk", "many"] (sp_ats c.K) := by
  obtain ⟨P, w, K, mg, base⟩ := c
  have C__law_knot := ok__law_knot _ T
  have C__law_low := ok__law_low _ T
  have C__law_pick := ok__law_pick _ T
  refine De.cl (N := ["ropewalk", "many", "found", "turn", "at"]) T.d__law_ats sc__law_ats (fun vs H Q E h => ?_) (fun f0 cdv A outer s H vs Q E hA hr h => ?_)
  · obtain ⟨q, t, m, rfl, _⟩ := h; rfl
  · have S := sc__law_ats
    obtain ⟨q, t, m, rfl, hq, ht, m0, m7, k⟩ := h
    refine ⟨_, (pss_cons (ps_set (i := 2) S.nd rfl (by first | exact .inl rfl | exact .inr rfl) (pe_lst pa_nil))
      (pss_cons (ps_for PassesOwn.never rfl (pi_range1 rfl T.n_range (pa_cons (pe_op op_mulU pe_int (pv 1)) pa_nil)) (pg_name (i := 3) S.nd rfl (by first | exact .inl rfl | exact .inr rfl)) (pss_cons (ps_set (i := 4) S.nd rfl (by first | exact .inl rfl | exact .inr rfl) (pe_f C__law_low hA hr (by decide) pl__law_low (by rfl) (pa_cons (pe_op op_sub (pe_f C__law_knot hA hr (by decide) pl__law_knot (by rfl) (pa_cons (pv 0) (pa_cons pe_int pa_nil))) pe_int) (pa_cons (pe_f C__law_pick hA hr (by decide) pl__law_pick (by rfl) (pa_cons (pv 0) (pa_cons (pe_lst (pa_cons pe_int (pa_cons pe_int (pa_cons pe_int (pa_cons pe_int pa_nil))))) pa_nil))) pa_nil))))
      (pss_one (ps_set (i := 2) S.nd rfl (by first | exact .inl rfl | exact .inr rfl) (pe_op op_addU (pv 2) (pe_op op_mulU (pe_lst (pa_cons (pv 4) pa_nil)) (pe_callTy call_intU (by rfl) T.n_int PyProof.Rows.boot_int (pa_cons (pe_and (pe_cmpR (op_notInD (by exact hr.u65)) (pv 4) (pv 2) (by rfl)) (pe_one (pe_cmpR op_lt (pe_callB call_lenU (by rfl) T.n_len PySem.boot_len (pa_cons (pv 2) pa_nil)) (pv 1) (nomark _)))) pa_nil))))))))
      (pss_one (ps_ret (pv 2))))), ?_⟩
    walk_at "mfs"
    refine g_seq (g_asg ?_)
    walk_at "mfs"
    refine g_newL (by show 0 ≤ sizeLine; decide) fun p0 H1 n0 s1 e0 => ?_
    have np0 := hq.ne n0
    have hq1 := hq.same s1
    walk_at "mfs"
    refine g_seq ?_
    refine g_forRK (K := K) ?_
    walk_at "mfs"
    refine ⟨_, rfl, by omega, by omega, ?_⟩
    refine for_range (lo := 0) (n := (40 * m).toNat) (fun i σ' H' => ∃ t' f vs rs s4, σ' = [some (.ref q), some (.int m), some (.ref f), (if i = 0 then none else some (.int (0 + ((i - 1 : Nat) : Int)))), s4] ∧ Qy K q t' H' ∧ t ≤ t' ∧ t' ≤ t + 2 * (i : Int) ∧ SameX q H H' ∧ f ≠ q ∧ H f = none ∧ H' f = some (.lst vs) ∧ TL H' vs rs ∧ RbL 6 rs ∧ rs.Nodup ∧ (rs.length : Int) ≤ m)
      ⟨t, p0, [], [], none, rfl, hq1, by omega, by omega, Same.x s1, np0, n0, e0, .nil, fun r hr => absurd hr List.not_mem_nil, List.nodup_nil, by show (0 : Int) ≤ m; omega⟩ (fun i σ' H' hi h => ?_) (fun σ' H' h => ?_)
    · obtain ⟨t', f, vs, rs, s4, rfl, hq', l', u', sx', nf, nH, ef, tf, bf, nd, lm⟩ := h
      walk_at "mfs"
      refine g_seq ?_
      walk_at "mfs"
      refine ⟨q, t', 41, rfl, hq', by omega, by decide, by decide, fun t2 H2 x sx2 hq2 l2 u2 x0 x1 => ?_⟩
      walk_at "mfs"
      refine g_newL (by show 4 ≤ sizeLine; decide) fun p3 H3 n3 s3 e3 => ?_
      have hq3 := hq2.same s3
      walk_at "mfs"
      refine ⟨q, p3, t2, _, rfl, hq3, by omega, hq2.ne n3, .inl (seqU e3), by simp, by simp only [List.length_cons, List.length_nil]; decide, fun t4 H4 y sx4 hq4 l4 u4 my => ?_⟩
      obtain ⟨d, rfl, d1, d5⟩ : ∃ d : Int, y = .int d ∧ 1 ≤ d ∧ d ≤ 5 := by
        simp only [List.mem_cons, List.not_mem_nil, or_false] at my
        rcases my with rfl | rfl | rfl | rfl <;> exact ⟨_, rfl, by decide, by decide⟩
      walk_at "mfs"
      refine ⟨x - 20, d, rfl, d1, by show d.natAbs < 2 ^ 8000; exact Nat.lt_of_lt_of_le (show d.natAbs < 2 ^ 3 by omega) (Nat.pow_le_pow_right (by decide) (by decide)), fun p5 H5 s5 n5 e5 => ?_⟩
      have br : Rb 6 (Rat.divInt (x - 20) d) := Rb.of d1 (by show (x - 20).natAbs < 2 ^ 6; omega) (by show d.natAbs < 2 ^ 6; omega)
      generalize Rat.divInt (x - 20) d = r at *
      have sxa := ((sx2.trans (Same.x s3)).trans sx4).trans (Same.x s5)
      have ef5 := sxa _ _ nf ef
      have tf5 := tf.go (sxa.kt hq')
      have hq5 := hq4.same s5
      walk_at "mfs"
      refine g_newL (by show 1 ≤ sizeLine; decide) fun p6 H6 n6 s6 e6 => ?_
      have ef6 := s6 _ _ ef5
      have tf6 := tf5.go (Same.kt s6)
      walk_at "mfs"
      refine g_notInR (s6 _ _ e5) ef6 tf6 ?_
      have fin : ∀ (kk : Int), 0 ≤ kk → kk ≤ 1 → (kk = 1 → r ∉ rs ∧ (rs.length : Int) < m) → ∀ {Q' : VK}, (∀ p H', H6 p = none → Same H6 H' → (∃ vs' rs', H' p = some (.lst vs') ∧ TL H' vs' rs' ∧ RbL 6 rs' ∧ rs'.Nodup ∧ (rs'.length : Int) ≤ m) → Q' (.ref p) H') → rMulU (.ref p6) (.int kk) H6 fun y H7 => rAddU (.ref f) y H7 Q' := fun kk k0 k1 hk Q' kq => by
        refine g_rep e6 k0 (by omega) (Nat.le_of_lt (small1000 (show 1 * kk.toNat ≤ 1000 by omega))) fun p7 H7 n7 s7 e7 => ?_
        have hk1 : kk = 0 ∨ kk = 1 := by omega
        rcases hk1 with rfl | rfl
        · have e7 : H7 p7 = some (.lst []) := e7
          refine g_cat (s7 _ _ ef6) e7 (Nat.le_of_lt (small1000 (by rw [tf6.len]; show rs.length + 0 ≤ 1000; omega))) fun p8 H8 n8 s8 e8 => ?_
          rw [List.append_nil] at e8
          exact kq p8 H8 (s7.free n8) (s7.trans s8) ⟨vs, rs, e8, (tf6.go (Same.kt s7)).go (Same.kt s8), bf, nd, lm⟩
        · have e7 : H7 p7 = some (.lst [.ref p5]) := e7
          obtain ⟨h1, h2⟩ := hk rfl
          refine g_cat (s7 _ _ ef6) e7 (Nat.le_of_lt (small1000 (by rw [tf6.len]; show rs.length + 1 ≤ 1000; omega))) fun p8 H8 n8 s8 e8 => ?_
          refine kq p8 H8 (s7.free n8) (s7.trans s8) ⟨vs ++ [.ref p5], rs ++ [r], e8, ((tf6.go (Same.kt s7)).go (Same.kt s8)).snoc (s8 _ _ (s7 _ _ (s6 _ _ e5))), ?_, ?_, by rw [List.length_append]; show ((rs.length + 1 : Nat) : Int) ≤ m; omega⟩
          · intro z hz
            rcases List.mem_append.mp hz with hz | hz
            · exact bf z hz
            · rw [List.mem_singleton.mp hz]
              exact br
          · rw [List.nodup_append]
            refine ⟨nd, by simp, fun a ha b hb => ?_⟩
            rw [List.mem_singleton.mp hb]
            exact fun z => h1 (by rw [← z]; exact ha)
      have sx6 := sx'.trans (sxa.trans (Same.x s6))
      have hq6 := hq5.same s6
      have done : ∀ p H', H6 p = none → Same H6 H' → (∃ vs' rs', H' p = some (.lst vs') ∧ TL H' vs' rs' ∧ RbL 6 rs' ∧ rs'.Nodup ∧ (rs'.length : Int) ≤ m) → ∃ t' f vs rs s4, [some (V.ref q), some (.int m), some (.ref p), some (.int (0 + (i : Int))), some (.ref p5)] = [some (.ref q), some (.int m), some (.ref f), (if i + 1 = 0 then none else some (.int (0 + ((i + 1 - 1 : Nat) : Int)))), s4] ∧ Qy K q t' H' ∧ t ≤ t' ∧ t' ≤ t + 2 * ((i + 1 : Nat) : Int) ∧ SameX q H H' ∧ f ≠ q ∧ H f = none ∧ H' f = some (.lst vs) ∧ TL H' vs rs ∧ RbL 6 rs ∧ rs.Nodup ∧ (rs.length : Int) ≤ m := fun p H' np sp ⟨vs', rs', h1, h2, h3, h4, h5⟩ =>
        ⟨t4, p, vs', rs', some (.ref p5), by (rw [if_neg (by omega)] <;> rfl), hq6.same sp, by omega, by omega, sx6.trans (Same.x sp), hq6.ne np, by
          cases z : H p with
          | none => rfl
          | some o => exact absurd (show H p ≠ none by rw [z]; exact Option.some_ne_none _) (fresh_x sx6 hq6.at np), h1, h2, h3, h4, h5⟩
      by_cases hr : r ∈ rs
      · rw [decide_eq_true hr]
        walk_at "mfs"
        refine fin 0 (by decide) (by decide) (fun z => by cases z) fun p H' np sp h => ?_
        walk_at "mfs"
        exact done p H' np sp h
      · rw [decide_eq_false hr]
        walk_at "mfs"
        refine g_len (.inl (seqU ef6)) ?_
        walk_at "mfs"
        by_cases hl : (rs.length : Int) < m
        · rw [decide_eq_true (show ((vs.length : Nat) : Int) < m by rw [tf6.len]; exact hl)]
          walk_at "mfs"
          refine fin 1 (by decide) (by decide) (fun _ => ⟨hr, hl⟩) fun p H' np sp h => ?_
          walk_at "mfs"
          exact done p H' np sp h
        · rw [decide_eq_false (show ¬ ((vs.length : Nat) : Int) < m by rw [tf6.len]; exact hl)]
          walk_at "mfs"
          refine fin 0 (by decide) (by decide) (fun z => by cases z) fun p H' np sp h => ?_
          walk_at "mfs"
          exact done p H' np sp h
    · obtain ⟨t', f, vs, rs, s4, rfl, hq', l', u', sx', nf, nH, ef, tf, bf, nd, lm⟩ := h
      walk_at "mfs"
      exact k t' H' f vs rs sx' hq' l' (by omega) nH ef tf bf nd lm
end Mf
namespace Mf
open PySem PySem.Spec PyProof.Rows L2
local macro_rules | `(tactic| walk_at "mf1") => `(tactic| first
  | ((with_reducible apply g_var); exact rfl)
  | with_reducible first
    | refine g_c ?_ | refine g_op ?_ | refine g_un ?_ | refine g_cb ?_ | refine g_cl ?_ | refine g_clk ?_ | refine g_nil ?_ | refine g_cons ?_
    | refine g_tB ?_ | refine g_test ?_ | refine g_bl ?_ | refine g_and ?_ | refine g_or ?_ | refine g_not ?_ | refine g_andV ?_ | refine g_orV ?_ | refine g_notV ?_
    | refine g_if ?_ | refine g_ifS ?_ | refine g_seq ?_ | refine g_next ?_ | refine g_ret ?_ | refine g_drop ?_ | refine g_asg ?_ | refine g_name ?_ | refine g_sub ?_
    | refine g_int ?_ | refine g_intB ?_ | refine g_abs ?_ | refine g_I0 ?_ | refine g_addI ?_ | refine g_U ?_ | refine g_isNn ?_ | refine g_isNi ?_ | refine g_notN ?_ | refine g_notT1 ?_ | refine g_notT2 ?_ | refine g_notT3 ?_ | refine g_notT4 ?_ | refine g_notTb ?_ | refine g_notTi ?_ | refine g_eqI ?_ | refine g_neI ?_ | refine g_neSs ?_ | refine g_neS ?_ | refine g_eqS ?_
    | refine g_iteT ?_ | refine g_iteF ?_ | refine g_iteNT ?_ | refine g_iteNF ?_ | refine g_lst ?_ | refine g_tup ?_ | refine g_seqP ?_ | refine g_sl ?_ | refine g_noPart ?_ | refine g_part ?_ | refine g_yes ?_ | refine g_thenT ?_ | refine g_consG ?_ | refine g_nilG ?_ | refine g_ii ?_ | refine g_par ?_ | refine g_par3 ?_ | refine g_vv ?_ | refine g_vvv ?_ | refine g_reprB ?_ | refine g_lcL ?_ | refine g_lcR ?_
  | ((with_reducible refine g_mod ?_ ?_); (first | omega | decide))
  | ((with_reducible refine g_div ?_ ?_ ?_); (first | omega | decide); (first | assumption | decide))
  | ((with_reducible refine g_mulL ?_ ?_ ?_); (first | omega | decide); (first | omega | decide))
  | ((with_reducible refine g_mulR ?_ ?_ ?_); (first | omega | decide); (first | omega | decide))
  | ((with_reducible refine g_pow ?_ ?_ ?_ ?_); decide; decide; (first | omega | decide))
  | dsimp only)
local macro_rules | `(tactic| walk_at "mf1s") => `(tactic| first
  | ((with_reducible apply g_var); exact rfl)
  | with_reducible first
    | refine g_c ?_ | refine g_op ?_ | refine g_un ?_ | refine g_cb ?_ | refine g_cl ?_ | refine g_clk ?_ | refine g_nil ?_ | refine g_cons ?_
    | refine g_tB ?_ | refine g_test ?_ | refine g_bl ?_ | refine g_and ?_ | refine g_or ?_ | refine g_not ?_ | refine g_andV ?_ | refine g_orV ?_ | refine g_notV ?_
    | refine g_if ?_ | refine g_ifS ?_ | refine g_next ?_ | refine g_ret ?_ | refine g_drop ?_ | refine g_asg ?_ | refine g_name ?_ | refine g_sub ?_
    | refine g_int ?_ | refine g_intB ?_ | refine g_abs ?_ | refine g_I0 ?_ | refine g_addI ?_ | refine g_U ?_ | refine g_isNn ?_ | refine g_isNi ?_ | refine g_notN ?_ | refine g_notT1 ?_ | refine g_notT2 ?_ | refine g_notT3 ?_ | refine g_notT4 ?_ | refine g_notTb ?_ | refine g_notTi ?_ | refine g_eqI ?_ | refine g_neI ?_ | refine g_neSs ?_ | refine g_neS ?_ | refine g_eqS ?_
    | refine g_iteT ?_ | refine g_iteF ?_ | refine g_iteNT ?_ | refine g_iteNF ?_ | refine g_lst ?_ | refine g_tup ?_ | refine g_seqP ?_ | refine g_sl ?_ | refine g_noPart ?_ | refine g_part ?_ | refine g_yes ?_ | refine g_thenT ?_ | refine g_consG ?_ | refine g_nilG ?_ | refine g_ii ?_ | refine g_par ?_ | refine g_par3 ?_ | refine g_vv ?_ | refine g_vvv ?_ | refine g_reprB ?_ | refine g_lcL ?_ | refine g_lcR ?_
  | ((with_reducible refine g_mod ?_ ?_); (first | omega | decide))
  | ((with_reducible refine g_div ?_ ?_ ?_); (first | omega | decide); (first | assumption | decide))
  | ((with_reducible refine g_mulL ?_ ?_ ?_); (first | omega | decide); (first | omega | decide))
  | ((with_reducible refine g_mulR ?_ ?_ ?_); (first | omega | decide); (first | omega | decide))
  | ((with_reducible refine g_pow ?_ ?_ ?_ ?_); decide; decide; (first | omega | decide))
  | dsimp only)
local macro_rules | `(tactic| walk_at "mfs") => `(tactic| repeat walk_at "mf1s")
local macro_rules | `(tactic| walk_at "mf") => `(tactic| repeat walk_at "mf1")
local macro_rules | `(tactic| walk_at "ed") => `(tactic| repeat (first
  | with_reducible first
    | exact eds_nil | apply eds_cons | exact ed_int | exact ed_bl | exact ed_non | apply ed_neg
  | ((with_reducible apply ed_str); decide)
  | ((with_reducible apply ed_var); (exact rfl); (first | assumption | exact Dq.int _))
  | ((with_reducible apply ed_dict0); assumption)
  | ((with_reducible apply ed_dict2); assumption)
  | ((with_reducible apply ed_tup); assumption)
  | ((with_reducible apply ed_lst); assumption)
  | (with_reducible apply ed_pow)
  | (with_reducible apply ed_mul)
  | assumption
  | (exact Dq.int _)
  | (exact ⟨by decide, by decide, by decide⟩)
  | (show List.length _ ≤ 1000; simp only [List.length_cons, List.length_nil]; decide)))
theorem ok__law_sum (c : Cn) (T : Tx c) : Cl c 3 "_law_sum" s__law_sum ["one", "other"] (sp_lsum c.K) := by
  obtain ⟨P, w, K, mg, base⟩ := c
  have C__law_plus := ok__law_plus _ T
  have C__law_trimmed := ok__law_trimmed _ T
  refine De.cl (N := ["one", "other", "found", "at", "its"]) T.d__law_sum sc__law_sum (fun vs H Q E h => ?_) (fun f0 cdv A outer s H vs Q E hA hr h => ?_)
  · obtain ⟨a, b, xs, ys, f, gg, A1, B1, rfl, _⟩ := h; rfl
  · have S := sc__law_sum
    obtain ⟨a, b, xs, ys, f, gg, A1, B1, rfl, ha, hb, tf, tg, bf, bg, hA1, hB1, hAB, lx, ly, k⟩ := h
    refine ⟨_, (pss_cons (ps_set (i := 2) S.nd rfl (by first | exact .inl rfl | exact .inr rfl) (pe_op op_addU (pe_callTy call_lstOf (by rfl) T.n_list PyProof.Rows.boot_list (pa_cons (pv 0) pa_nil)) (pe_op op_mulU (pe_lst (pa_cons (pe_tup (pa_cons pe_int (pa_cons pe_int pa_nil))) pa_nil)) (pe_callB (call_max2R rfl) (by rfl) T.n_max (show bootBuiltins "max" = some (.builtin "max") by decide +kernel) (pa_cons pe_int (pa_cons (pe_op op_sub (pe_callB call_lenU (by rfl) T.n_len PySem.boot_len (pa_cons (pv 1) pa_nil)) (pe_callB call_lenU (by rfl) T.n_len PySem.boot_len (pa_cons (pv 0) pa_nil))) pa_nil))))))
      (pss_cons (ps_for PassesOwn.never rfl (pi_or (pi_enum (by rfl) T.n_enumerate (pa_cons (pv 1) pa_nil)) (pi_enumT (by rfl) T.n_enumerate (pa_cons (pv 1) pa_nil))) (pg_tup rfl (pgs_cons (pg_name (i := 3) S.nd rfl (by first | exact .inl rfl | exact .inr rfl)) (pgs_cons (pg_name (i := 4) S.nd rfl (by first | exact .inl rfl | exact .inr rfl)) pgs_nil))) (pss_one (ps_asg (pe_f C__law_plus hA hr (by decide) pl__law_plus (by rfl) (pa_cons (pe_ix ix_seq (pv 2) (pv 3) (fun _ _ => rfl)) (pa_cons (pv 4) pa_nil))) (pg_sub (pv 2) (pv 3) set_list))))
      (pss_one (ps_ret (pe_f C__law_trimmed hA hr (by decide) pl__law_trimmed (by rfl) (pa_cons (pv 2) pa_nil)))))), ?_⟩
    have lf := tf.len
    have lg := tg.len
    have gA : ∀ {H1 H2 : Hp}, Same H1 H2 → Sq K H1 a xs → Sq K H2 a xs := fun s h => h.go (Same.x (q := a + 1) s) (Nat.ne_of_lt (Nat.lt_succ_self a))
    have gB : ∀ {H1 H2 : Hp}, Same H1 H2 → Sq K H1 b ys → Sq K H2 b ys := fun s h => h.go (Same.x (q := b + 1) s) (Nat.ne_of_lt (Nat.lt_succ_self b))
    walk_at "mf"
    refine g_lstOf ha fun pl Hl nl sl el => ?_
    walk_at "mf"
    refine g_newT (by show 2 ≤ sizeLine; decide) fun p0 H0 n0 s0 e0 => ?_
    walk_at "mf"
    refine g_newL (by show 1 ≤ sizeLine; decide) fun p1 H1 n1 s1 e1 => ?_
    walk_at "mf"
    refine g_len (gB s1 (gB s0 (gB sl hb))) ?_
    walk_at "mf"
    refine g_len (gA s1 (gA s0 (gA sl ha))) ?_
    walk_at "mf"
    refine g_max2 ?_
    walk_at "mf"
    obtain ⟨L, hL, eL⟩ : ∃ L : Nat, (if (ys.length : Int) - (xs.length : Int) > 0 then (ys.length : Int) - (xs.length : Int) else 0) = (L : Int) ∧ f.length + L = max f.length gg.length := by
      refine ⟨max f.length gg.length - f.length, ?_, by omega⟩
      split <;> omega
    rw [hL]
    refine g_rep e1 (by omega) (by omega) (by show 1 * _ ≤ sizeLine; rw [Int.toNat_natCast]; exact Nat.le_of_lt (small1000 (by omega))) fun D HD nD sD eD => ?_
    have eD : HD D = some (.lst (List.replicate L (.ref p0))) := by
      rw [eD, Int.toNat_natCast]
      congr 2
      clear eD hL eL
      induction L with
      | zero => rfl
      | succ L ih => rw [List.replicate_succ, List.flatten_cons, ih, List.replicate_succ] <;> rfl
    have tD : TL HD (List.replicate L (.ref p0)) (List.replicate L 0) := TL.rep (r := 0) (sD _ _ (s1 _ _ e0)) L
    have cz : ∀ n, co (List.replicate L 0) n = 0 := fun n => by
      by_cases z : n < L
      · rw [co_get (by rw [List.length_replicate]; exact z), List.getElem_replicate]
      · exact co_ge (by rw [List.length_replicate]; omega)
    have elD := sD _ _ (s1 _ _ (s0 _ _ el))
    have sHD : Same H HD := ((sl.trans s0).trans s1).trans sD
    clear e1 n1 s1 n0 s0 e0 sD nD hL el nl sl
    walk_at "mf"
    refine g_cat elD eD (by rw [List.length_replicate]; exact Nat.le_of_lt (small1000 (by omega))) fun F HF nF sF eF => ?_
    have tF := (tf.go (Same.kt (sHD.trans sF))).app (tD.go (Same.kt sF))
    have sHF := sHD.trans sF
    have nF0 : H F = none := sHD.free nF
    clear tD eD elD
    walk_at "mf"
    refine g_forE (H0 := H) rfl hb (fun m σ' H' => Same H H' ∧ ∃ o3 o4 vs fl, σ' = [some (.ref a), some (.ref b), some (.ref F), o3, o4] ∧ H' F = some (.lst vs) ∧ TL H' vs fl ∧ fl.length = max f.length gg.length ∧ ∀ j, co fl j = co f j + (if j < m then co gg j else 0))
      ⟨sHF, none, none, _, _, rfl, eF, tF, by rw [List.length_append, List.length_replicate, eL], fun j => ?_⟩ (fun n σ' H' h => h.1) (fun m x σ' H' T0 hx h nT => ?_) (fun σ' H' h => ?_)
    · rw [if_neg (Nat.not_lt_zero _), Rat.add_zero, co_append]
      by_cases z : j < f.length
      · rw [if_pos z]
      · rw [if_neg z, cz, co_ge (by omega)]
    · obtain ⟨s2, o3, o4, vs, fl, rfl, ev, tv, lv, cv⟩ := h
      obtain ⟨ai, rfl, ei, _⟩ := (tg.go (Same.kt s2)).get hx
      have hm : m < gg.length := by have := (List.getElem?_eq_some_iff.mp hx).1; omega
      have sT : Same H' (upd H' T0 (.tup [.int (m : Nat), .ref ai])) := same_new nT
      generalize upd H' T0 (.tup [.int (m : Nat), .ref ai]) = Hs at *
      have s3 := s2.trans sT
      have ev := sT _ _ ev
      have tv := tv.go (Same.kt sT)
      have ei := sT _ _ ei
      have hml : m < fl.length := by omega
      have c0 : co fl m = co f m := by rw [cv, if_neg (Nat.lt_irrefl _), Rat.add_zero]
      obtain ⟨pf, hpf, ef⟩ := tv.at hml
      have hlv : m < vs.length := (List.getElem?_eq_some_iff.mp hpf).1
      walk_at "mf"
      refine g_ix (.inl (seqU ev)) (at_of (j := m) (by omega) hpf) ?_
      walk_at "mf"
      refine ⟨pf, ai, co fl m, co gg m, A1, B1, rfl, ef, ei, by rw [c0]; exact bf.co hA1 m, bg.co hB1 m, by omega, fun p2 Hb sb nb eb => ?_⟩
      walk_at "mf"
      have evb := sb _ _ ev
      have kt := upd_kt (o := .lst (vs.set m (.ref p2))) evb
      refine g_setL evb (j := m) ?_ ?_
      · unfold ixN
        rw [if_pos (by omega), if_pos (by omega)]
        congr 1
      walk_at "mf"
      refine ⟨fun c o e => ?_, _, _, _, fl.set m (co fl m + co gg m), rfl, upd_same, ((tv.go (Same.kt sb)).go kt).set (kt _ _ eb) _, by rw [List.length_set]; exact lv, fun j => ?_⟩
      · rw [upd_ne (ne_of_none e nF0)]
        exact sb _ _ (s3 _ _ e)
      · rw [co_set hml]
        by_cases z : j = m
        · subst z
          rw [if_pos rfl, c0, if_pos (by omega)]
        · rw [if_neg z, cv]
          by_cases z2 : j < m
          · rw [if_pos z2, if_pos (by omega)]
          · rw [if_neg z2, if_neg (by omega)]
    · obtain ⟨sH, o3, o4, vs, fl, rfl, ev, tv, lv, cv⟩ := h
      walk_at "mf"
      refine ⟨F, vs, fl, rfl, seqU ev, tv, by rw [tv.len]; omega, fun p H3 ws s3 n3 e3 t3 => ?_⟩
      have ee : trimR fl = trimR (padd f gg) := trim_eq fun j => by
        rw [cv, co_padd]
        by_cases z : j < ys.length
        · rw [if_pos z]
        · rw [if_neg z, co_ge (l := gg) (by omega)]
      rw [ee] at t3
      exact k p H3 ws (sH.trans s3) (sH.free n3) e3 t3
end Mf
namespace Mf
open PySem PySem.Spec PyProof.Rows L2
local macro_rules | `(tactic| walk_at "mf1") => `(tactic| first
  | ((with_reducible apply g_var); exact rfl)
  | with_reducible first
    | refine g_c ?_ | refine g_op ?_ | refine g_un ?_ | refine g_cb ?_ | refine g_cl ?_ | refine g_clk ?_ | refine g_nil ?_ | refine g_cons ?_
    | refine g_tB ?_ | refine g_test ?_ | refine g_bl ?_ | refine g_and ?_ | refine g_or ?_ | refine g_not ?_ | refine g_andV ?_ | refine g_orV ?_ | refine g_notV ?_
    | refine g_if ?_ | refine g_ifS ?_ | refine g_seq ?_ | refine g_next ?_ | refine g_ret ?_ | refine g_drop ?_ | refine g_asg ?_ | refine g_name ?_ | refine g_sub ?_
    | refine g_int ?_ | refine g_intB ?_ | refine g_abs ?_ | refine g_I0 ?_ | refine g_addI ?_ | refine g_U ?_ | refine g_isNn ?_ | refine g_isNi ?_ | refine g_notN ?_ | refine g_notT1 ?_ | refine g_notT2 ?_ | refine g_notT3 ?_ | refine g_notT4 ?_ | refine g_notTb ?_ | refine g_notTi ?_ | refine g_eqI ?_ | refine g_neI ?_ | refine g_neSs ?_ | refine g_neS ?_ | refine g_eqS ?_
    | refine g_iteT ?_ | refine g_iteF ?_ | refine g_iteNT ?_ | refine g_iteNF ?_ | refine g_lst ?_ | refine g_tup ?_ | refine g_seqP ?_ | refine g_sl ?_ | refine g_noPart ?_ | refine g_part ?_ | refine g_yes ?_ | refine g_thenT ?_ | refine g_consG ?_ | refine g_nilG ?_ | refine g_ii ?_ | refine g_par ?_ | refine g_par3 ?_ | refine g_vv ?_ | refine g_vvv ?_ | refine g_reprB ?_ | refine g_lcL ?_ | refine g_lcR ?_
  | ((with_reducible refine g_mod ?_ ?_); (first | omega | decide))
  | ((with_reducible refine g_div ?_ ?_ ?_); (first | omega | decide); (first | assumption | decide))
  | ((with_reducible refine g_mulL ?_ ?_ ?_); (first | omega | decide); (first | omega | decide))
  | ((with_reducible refine g_mulR ?_ ?_ ?_); (first | omega | decide); (first | omega | decide))
  | ((with_reducible refine g_pow ?_ ?_ ?_ ?_); decide; decide; (first | omega | decide))
  | dsimp only)
local macro_rules | `(tactic| walk_at "mf1s") => `(tactic| first
  | ((with_reducible apply g_var); exact rfl)
  | with_reducible first
    | refine g_c ?_ | refine g_op ?_ | refine g_un ?_ | refine g_cb ?_ | refine g_cl ?_ | refine g_clk ?_ | refine g_nil ?_ | refine g_cons ?_
    | refine g_tB ?_ | refine g_test ?_ | refine g_bl ?_ | refine g_and ?_ | refine g_or ?_ | refine g_not ?_ | refine g_andV ?_ | refine g_orV ?_ | refine g_notV ?_
    | refine g_if ?_ | refine g_ifS ?_ | refine g_next ?_ | refine g_ret ?_ | refine g_drop ?_ | refine g_asg ?_ | refine g_name ?_ | refine g_sub ?_
    | refine g_int ?_ | refine g_intB ?_ | refine g_abs ?_ | refine g_I0 ?_ | refine g_addI ?_ | refine g_U ?_ | refine g_isNn ?_ | refine g_isNi ?_ | refine g_notN ?_ | refine g_notT1 ?_ | refine g_notT2 ?_ | refine g_notT3 ?_ | refine g_notT4 ?_ | refine g_notTb ?_ | refine g_notTi ?_ | refine g_eqI ?_ | refine g_neI ?_ | refine g_neSs ?_ | refine g_neS ?_ | refine g_eqS ?_
    | refine g_iteT ?_ | refine g_iteF ?_ | refine g_iteNT ?_ | refine g_iteNF ?_ | refine g_lst ?_ | refine g_tup ?_ | refine g_seqP ?_ | refine g_sl ?_ | refine g_noPart ?_ | refine g_part ?_ | refine g_yes ?_ | refine g_thenT ?_ | refine g_consG ?_ | refine g_nilG ?_ | refine g_ii ?_ | refine g_par ?_ | refine g_par3 ?_ | refine g_vv ?_ | refine g_vvv ?_ | refine g_reprB ?_ | refine g_lcL ?_ | refine g_lcR ?_
  | ((with_reducible refine g_mod ?_ ?_); (first | omega | decide))
  | ((with_reducible refine g_div ?_ ?_ ?_); (first | omega | decide); (first | assumption | decide))
  | ((with_reducible refine g_mulL ?_ ?_ ?_); (first | omega | decide); (first | omega | decide))
  | ((with_reducible refine g_mulR ?_ ?_ ?_); (first | omega | decide); (first | omega | decide))
  | ((with_reducible refine g_pow ?_ ?_ ?_ ?_); decide; decide; (first | omega | decide))
  | dsimp only)
local macro_rules | `(tactic| walk_at "mfs") => `(tactic| repeat walk_at "mf1s")
local macro_rules | `(tactic| walk_at "mf") => `(tactic| repeat walk_at "mf1")
local macro_rules | `(tactic| walk_at "ed") => `(tactic| repeat (first
  | with_reducible first
    | exact eds_nil | apply eds_cons | exact ed_int | exact ed_bl | exact ed_non | apply ed_neg
  | ((with_reducible apply ed_str); decide)
  | ((with_reducible apply ed_var); (exact rfl); (first | assumption | exact Dq.int _))
  | ((with_reducible apply ed_dict0); assumption)
  | ((with_reducible apply ed_dict2); assumption)
  | ((with_reducible apply ed_tup); assumption)
  | ((with_reducible apply ed_lst); assumption)
  | (with_reducible apply ed_pow)
  | (with_reducible apply ed_mul)
  | assumption
  | (exact Dq.int _)
  | (exact ⟨by decide, by decide, by decide⟩)
  | (show List.length _ ≤ 1000; simp only [List.length_cons, List.length_nil]; decide)))

def itD : PyData → List PyData
  | .list ds | .tuple ds => ds
  | _ => []
def isPyD (d : PyData) : Bool := isSeqD d && (decide ((itD d).length ≤ 80) && ((itD d).map isFrD).all id)
theorem isPyD_no {d : PyData} (e : isSeqD d = false) : isPyD d = false := by unfold isPyD; rw [e]; rfl
theorem isPyD_of {d : PyData} {ds : List PyData} (e : d = .list ds ∨ d = .tuple ds) : isPyD d = (decide (ds.length ≤ 80) && (ds.map isFrD).all id) := by rcases e with rfl | rfl <;> rfl
theorem all_isFr {ds : List PyData} (h : ∀ d ∈ ds, isFrD d = true) : (ds.map isFrD).all id = true := by
  rw [List.all_eq_true]
  intro b hb
  obtain ⟨d, hd, rfl⟩ := List.mem_map.mp hb
  exact h d hd
def sp_isply (K : PySem.W.Frag) : Sp := fun vs H Q _ => ∃ q v d, vs = [v] ∧ Dq q K H v d ∧ (itD d).length ≤ 900 ∧ ∀ H', Same H H' → Q (.bl (isPyD d)) H'
theorem ok_is_poly (c : Cn) (T : Tx c) : Cl c 4 "is_poly" s_is_poly ["value"] (sp_isply c.K) := by
  obtain ⟨P, w, K, mg, base⟩ := c
  have C_is_fraction := ok_is_fraction _ T
  have C_is_list := ok_is_list _ T
  refine De.cl (N := ["value", "number"]) T.d_is_poly sc_is_poly (fun vs H Q E h => ?_) (fun f0 cdv A outer s H vs Q E hA hr h => ?_)
  · obtain ⟨q, v, d, rfl, _⟩ := h; rfl
  · have S := sc_is_poly
    obtain ⟨q, v, d, rfl, hd, hsm, k⟩ := h
    refine ⟨_, (pss_one (ps_ret (pe_and (pe_f C_is_list hA hr (by decide) pl_is_list (by rfl) (pa_cons (pv 0) pa_nil)) (pe_and (pe_cmpR op_le (pe_callB call_lenU (by rfl) T.n_len PySem.boot_len (pa_cons (pv 0) pa_nil)) (pe_globI (i := 80) (by rfl) T.c_MOST_NUMBERS) (nomark _)) (pe_one (pe_callB (cr_all rfl) (by rfl) T.n_all (by decide +kernel) (pa_cons (pe_lc (own := [("number", 1)]) (g := gName 1) (tt := tYes) rfl S.nd (pi_or (pi_list (pv 0)) (pi_tup (pv 0))) (blkOk_by (N := ["value", "number"]) (sc := defScope s_is_poly) (by decide +kernel)) (fun _ _ _ _ _ => pg_name (i := 1) S.nd rfl (Or.inl rfl)) (fun _ _ _ _ _ => pts_nil) (fun _ _ _ _ _ => (pe_f C_is_fraction hA hr (by decide) pl_is_fraction (by rfl) (pa_cons (pv 1) pa_nil)))) pa_nil))))))), ?_⟩
    walk_at "mf"
    refine ⟨q, v, d, rfl, hd, ?_⟩
    walk_at "mf"
    refine g_ite (fun h2 => ?_) (fun h2 => ?_)
    · obtain ⟨a, xs, ds, rfl, na, hs, hall, ed⟩ := hd.seq h2
      have hit : itD d = ds := by rcases ed with rfl | rfl <;> rfl
      rw [hit] at hsm
      have hlen := hall.len
      rw [isPyD_of ed] at k
      walk_at "mf"
      refine g_len hs ?_
      walk_at "mf"
      refine g_ite (fun h3 => ?_) (fun h3 => ?_)
      · walk_at "mf"
        rw [decide_eq_true (show ds.length ≤ 80 by simp at h3; omega), Bool.true_and] at k
        refine cut_lc (fun (H1 : Hp) (D : Addr) => H1 D = some (.lst ((ds.map isFrD).map V.bl))) (fun Q' k' => ?_) (fun H1 D s1 e1 => ?_)
        · rcases hs with hs | hs
          · refine g_lcO1 ?_
            walk_at "mf"
            refine ⟨a, rfl, ⟨_, hs⟩, ?_⟩
            refine lcgo_listF (xs := xs) (fun D i H' => Same H H' ∧ H' D = some (.lst (((ds.map isFrD).take i).map V.bl))) (fun z => rfl) (fun D hD => ⟨same_new hD, upd_same⟩) (fun D i H' _ h => h.1.seq hs) (fun D i z H' hD ez h => ?_) (fun D H' hD h => ?_)
            · obtain ⟨h1, h2⟩ := h
              obtain ⟨d, ed, hd⟩ := hall.get ez
              have hi := (List.getElem?_eq_some_iff.mp ez).1
              walk_at "mf"
              refine ⟨q, z, d, rfl, hd.go (Same.x h1), ?_⟩
              refine ⟨_, h2, ?_, ?_, ?_⟩
              · rw [List.length_map, List.length_take, List.length_map]
                exact small1000 (by omega)
              · intro b o e
                rw [upd_ne (ne_of_none e hD)]
                exact h1 b o e
              · have eq1 : (ds.map isFrD)[i]? = some (isFrD d) := by rw [List.getElem?_map, ed]; rfl
                rw [upd_same, take_snoc eq1, List.map_append]
                rfl
            · obtain ⟨h1, h2⟩ := h
              exact k' H' D h1 (by rw [h2, hall.len, show ds.length = (ds.map isFrD).length by rw [List.length_map], List.take_length])
          · refine g_lcO2 ?_
            walk_at "mf"
            refine ⟨a, rfl, ⟨_, hs⟩, ?_⟩
            refine lcgo_tupF (xs := xs) (fun D i H' => Same H H' ∧ H' D = some (.lst (((ds.map isFrD).take i).map V.bl))) (fun z => rfl) (fun D hD => ⟨same_new hD, upd_same⟩) (fun D i H' _ h => (Same.x (q := q) h.1).tup na hs) (fun D i z H' hD ez h => ?_) (fun D H' hD h => ?_)
            · obtain ⟨h1, h2⟩ := h
              obtain ⟨d, ed, hd⟩ := hall.get ez
              have hi := (List.getElem?_eq_some_iff.mp ez).1
              walk_at "mf"
              refine ⟨q, z, d, rfl, hd.go (Same.x h1), ?_⟩
              refine ⟨_, h2, ?_, ?_, ?_⟩
              · rw [List.length_map, List.length_take, List.length_map]
                exact small1000 (by omega)
              · intro b o e
                rw [upd_ne (ne_of_none e hD)]
                exact h1 b o e
              · have eq1 : (ds.map isFrD)[i]? = some (isFrD d) := by rw [List.getElem?_map, ed]; rfl
                rw [upd_same, take_snoc eq1, List.map_append]
                rfl
            · obtain ⟨h1, h2⟩ := h
              exact k' H' D h1 (by rw [h2, hall.len, show ds.length = (ds.map isFrD).length by rw [List.length_map], List.take_length])
        walk_at "mf"
        exact g_all (seqU e1) (k _ s1)
      · rw [decide_eq_false (show ¬ ds.length ≤ 80 by simp at h3; omega), Bool.false_and] at k
        exact k _ (Same.refl _)
    · rw [isPyD_no h2] at k
      exact k _ (Same.refl _)
theorem ok_read_poly (c : Cn) (T : Tx c) : Cl c 6 "read_poly" s_read_poly ["value", "part"] (sp_rpoly c.K) := by
  obtain ⟨P, w, K, mg, base⟩ := c
  have C_fraction_of := ok_fraction_of _ T
  have C_is_poly := ok_is_poly _ T
  have C_trimmed := ok_trimmed _ T
  refine De.cl (N := ["value", "part", "number"]) T.d_read_poly sc_read_poly (fun vs H Q E h => ?_) (fun f0 cdv A outer s H vs Q E hA hr h => ?_)
  · obtain ⟨q, a, xs, ds, n, part, rfl, _⟩ := h; rfl
  · have S := sc_read_poly
    obtain ⟨q, a, xs, ds, n, part, rfl, na, hs, hall, hok, hn, hl, k⟩ := h
    refine ⟨_, (pss_cons (ps_if (pt_not (pt_val (pe_f C_is_poly hA hr (by decide) pl_is_poly (by rfl) (pa_cons (pv 0) pa_nil)))) (pss_one ps_never) pss_nil)
      (pss_one (ps_ret (pe_f C_trimmed hA hr (by decide) pl_trimmed (by rfl) (pa_cons (pe_lc (own := [("number", 2)]) (g := gName 2) (tt := tYes) rfl S.nd (pi_or (pi_list (pv 0)) (pi_tup (pv 0))) (blkOk_by (N := ["value", "part", "number"]) (sc := defScope s_read_poly) (by decide +kernel)) (fun _ _ _ _ _ => pg_name (i := 2) S.nd rfl (Or.inl rfl)) (fun _ _ _ _ _ => pts_nil) (fun _ _ _ _ _ => (pe_f C_fraction_of hA hr (by decide) pl_fraction_of (by rfl) (pa_cons (pv 2) pa_nil)))) pa_nil))))), ?_⟩
    obtain ⟨dd, hdd, hse⟩ : ∃ dd, Dq q K H (.ref a) dd ∧ (dd = .list ds ∨ dd = .tuple ds) := by
      rcases hs with hs | hs
      · exact ⟨.list ds, .lst na hs hall, .inl rfl⟩
      · exact ⟨.tuple ds, .tup na hs hall, .inr rfl⟩
    have hlen := hall.len
    have hit : itD dd = ds := by rcases hse with rfl | rfl <;> rfl
    walk_at "mf"
    refine ⟨q, .ref a, dd, rfl, hdd, by rw [hit]; omega, fun H1 s1 => ?_⟩
    rw [isPyD_of hse, decide_eq_true hl, Bool.true_and, all_isFr fun d hd => (hok d hd).1]
    walk_at "mf"
    refine cut_lc (fun (H2 : Hp) (D : Addr) => ∃ vs, H2 D = some (.lst vs) ∧ vs.length = ds.length ∧ TL H2 vs (ds.map valQ)) (fun Q' k' => ?_) (fun H2 D2 s2 e2 => ?_)
    · have hs := hs.go (Same.x (q := q) s1) na
      rcases hs with hs | hs
      · refine g_lcO1 ?_
        walk_at "mf"
        refine ⟨a, rfl, ⟨_, hs⟩, ?_⟩
        refine lcgo_listF (xs := xs) (fun D i H' => Same H1 H' ∧ ∃ vs, H' D = some (.lst vs) ∧ vs.length = i ∧ TL H' vs ((ds.map valQ).take i)) (fun z => rfl) (fun D hD => ⟨same_new hD, [], upd_same, rfl, .nil⟩) (fun D i H' _ h => h.1.seq hs) (fun D i z H' hD ez h => ?_) (fun D H' hD h => ?_)
        · obtain ⟨h1, vs, h2, h3, h4⟩ := h
          obtain ⟨d, ed, hd⟩ := hall.get ez
          have hi := (List.getElem?_eq_some_iff.mp ez).1
          rw [hall.len] at hi
          obtain ⟨f1, f2, f3⟩ := hok d (List.mem_of_getElem? ed)
          walk_at "mf"
          refine ⟨q, z, valQ d, n, rfl, Fr.of (hd.go (Same.x (s1.trans h1))) f1 f2 f3, by omega, fun p3 H3 s3 n3 e3 => ?_⟩
          have eD := s3 _ _ h2
          have kt := upd_kt (o := .lst (vs ++ [.ref p3])) eD
          refine ⟨vs, eD, small1000 (by omega), ?_, vs ++ [.ref p3], upd_same, by rw [List.length_append, h3]; rfl, ?_⟩
          · intro b o e
            rw [upd_ne (ne_of_none e hD)]
            exact s3 _ _ (h1 _ _ e)
          · have eq1 : (ds.map valQ)[i]? = some (valQ d) := by rw [List.getElem?_map, ed]; rfl
            rw [take_snoc eq1]
            exact ((h4.go (Same.kt s3)).go kt).snoc (kt _ _ e3)
        · obtain ⟨h1, vs, h2, h3, h4⟩ := h
          rw [hall.len, show ds.length = (ds.map valQ).length by rw [List.length_map], List.take_length] at h4
          exact k' H' D h1 ⟨vs, h2, by rw [h3, hall.len], h4⟩
      · refine g_lcO2 ?_
        walk_at "mf"
        refine ⟨a, rfl, ⟨_, hs⟩, ?_⟩
        refine lcgo_tupF (xs := xs) (fun D i H' => Same H1 H' ∧ ∃ vs, H' D = some (.lst vs) ∧ vs.length = i ∧ TL H' vs ((ds.map valQ).take i)) (fun z => rfl) (fun D hD => ⟨same_new hD, [], upd_same, rfl, .nil⟩) (fun D i H' _ h => (Same.x (q := q) h.1).tup na hs) (fun D i z H' hD ez h => ?_) (fun D H' hD h => ?_)
        · obtain ⟨h1, vs, h2, h3, h4⟩ := h
          obtain ⟨d, ed, hd⟩ := hall.get ez
          have hi := (List.getElem?_eq_some_iff.mp ez).1
          rw [hall.len] at hi
          obtain ⟨f1, f2, f3⟩ := hok d (List.mem_of_getElem? ed)
          walk_at "mf"
          refine ⟨q, z, valQ d, n, rfl, Fr.of (hd.go (Same.x (s1.trans h1))) f1 f2 f3, by omega, fun p3 H3 s3 n3 e3 => ?_⟩
          have eD := s3 _ _ h2
          have kt := upd_kt (o := .lst (vs ++ [.ref p3])) eD
          refine ⟨vs, eD, small1000 (by omega), ?_, vs ++ [.ref p3], upd_same, by rw [List.length_append, h3]; rfl, ?_⟩
          · intro b o e
            rw [upd_ne (ne_of_none e hD)]
            exact s3 _ _ (h1 _ _ e)
          · have eq1 : (ds.map valQ)[i]? = some (valQ d) := by rw [List.getElem?_map, ed]; rfl
            rw [take_snoc eq1]
            exact ((h4.go (Same.kt s3)).go kt).snoc (kt _ _ e3)
        · obtain ⟨h1, vs, h2, h3, h4⟩ := h
          rw [hall.len, show ds.length = (ds.map valQ).length by rw [List.length_map], List.take_length] at h4
          exact k' H' D h1 ⟨vs, h2, by rw [h3, hall.len], h4⟩
    obtain ⟨vs, e2, l2, t2⟩ := e2
    walk_at "mf"
    refine ⟨D2, vs, _, rfl, seqU e2, t2, by omega, fun p H' ws s n e t => ?_⟩
    exact k p H' ws ((s1.trans s2).trans s) ((s1.trans s2).free n) e t
end Mf
namespace Mf
open PySem PySem.Spec PyProof.Rows L2
local macro_rules | `(tactic| walk_at "mf1") => `(tactic| first
  | ((with_reducible apply g_var); exact rfl)
  | with_reducible first
    | refine g_c ?_ | refine g_op ?_ | refine g_un ?_ | refine g_cb ?_ | refine g_cl ?_ | refine g_clk ?_ | refine g_nil ?_ | refine g_cons ?_
    | refine g_tB ?_ | refine g_test ?_ | refine g_bl ?_ | refine g_and ?_ | refine g_or ?_ | refine g_not ?_ | refine g_andV ?_ | refine g_orV ?_ | refine g_notV ?_
    | refine g_if ?_ | refine g_ifS ?_ | refine g_seq ?_ | refine g_next ?_ | refine g_ret ?_ | refine g_drop ?_ | refine g_asg ?_ | refine g_name ?_ | refine g_sub ?_
    | refine g_int ?_ | refine g_intB ?_ | refine g_abs ?_ | refine g_I0 ?_ | refine g_addI ?_ | refine g_U ?_ | refine g_isNn ?_ | refine g_isNi ?_ | refine g_notN ?_ | refine g_notT1 ?_ | refine g_notT2 ?_ | refine g_notT3 ?_ | refine g_notT4 ?_ | refine g_notTb ?_ | refine g_notTi ?_ | refine g_eqI ?_ | refine g_neI ?_ | refine g_neSs ?_ | refine g_neS ?_ | refine g_eqS ?_
    | refine g_iteT ?_ | refine g_iteF ?_ | refine g_iteNT ?_ | refine g_iteNF ?_ | refine g_lst ?_ | refine g_tup ?_ | refine g_seqP ?_ | refine g_sl ?_ | refine g_noPart ?_ | refine g_part ?_ | refine g_yes ?_ | refine g_thenT ?_ | refine g_consG ?_ | refine g_nilG ?_ | refine g_ii ?_ | refine g_par ?_ | refine g_par3 ?_ | refine g_vv ?_ | refine g_vvv ?_ | refine g_reprB ?_ | refine g_lcL ?_ | refine g_lcR ?_
  | ((with_reducible refine g_mod ?_ ?_); (first | omega | decide))
  | ((with_reducible refine g_div ?_ ?_ ?_); (first | omega | decide); (first | assumption | decide))
  | ((with_reducible refine g_mulL ?_ ?_ ?_); (first | omega | decide); (first | omega | decide))
  | ((with_reducible refine g_mulR ?_ ?_ ?_); (first | omega | decide); (first | omega | decide))
  | ((with_reducible refine g_pow ?_ ?_ ?_ ?_); decide; decide; (first | omega | decide))
  | dsimp only)
local macro_rules | `(tactic| walk_at "mf1s") => `(tactic| first
  | ((with_reducible apply g_var); exact rfl)
  | with_reducible first
    | refine g_c ?_ | refine g_op ?_ | refine g_un ?_ | refine g_cb ?_ | refine g_cl ?_ | refine g_clk ?_ | refine g_nil ?_ | refine g_cons ?_
    | refine g_tB ?_ | refine g_test ?_ | refine g_bl ?_ | refine g_and ?_ | refine g_or ?_ | refine g_not ?_ | refine g_andV ?_ | refine g_orV ?_ | refine g_notV ?_
    | refine g_if ?_ | refine g_ifS ?_ | refine g_next ?_ | refine g_ret ?_ | refine g_drop ?_ | refine g_asg ?_ | refine g_name ?_ | refine g_sub ?_
    | refine g_int ?_ | refine g_intB ?_ | refine g_abs ?_ | refine g_I0 ?_ | refine g_addI ?_ | refine g_U ?_ | refine g_isNn ?_ | refine g_isNi ?_ | refine g_notN ?_ | refine g_notT1 ?_ | refine g_notT2 ?_ | refine g_notT3 ?_ | refine g_notT4 ?_ | refine g_notTb ?_ | refine g_notTi ?_ | refine g_eqI ?_ | refine g_neI ?_ | refine g_neSs ?_ | refine g_neS ?_ | refine g_eqS ?_
    | refine g_iteT ?_ | refine g_iteF ?_ | refine g_iteNT ?_ | refine g_iteNF ?_ | refine g_lst ?_ | refine g_tup ?_ | refine g_seqP ?_ | refine g_sl ?_ | refine g_noPart ?_ | refine g_part ?_ | refine g_yes ?_ | refine g_thenT ?_ | refine g_consG ?_ | refine g_nilG ?_ | refine g_ii ?_ | refine g_par ?_ | refine g_par3 ?_ | refine g_vv ?_ | refine g_vvv ?_ | refine g_reprB ?_ | refine g_lcL ?_ | refine g_lcR ?_
  | ((with_reducible refine g_mod ?_ ?_); (first | omega | decide))
  | ((with_reducible refine g_div ?_ ?_ ?_); (first | omega | decide); (first | assumption | decide))
  | ((with_reducible refine g_mulL ?_ ?_ ?_); (first | omega | decide); (first | omega | decide))
  | ((with_reducible refine g_mulR ?_ ?_ ?_); (first | omega | decide); (first | omega | decide))
  | ((with_reducible refine g_pow ?_ ?_ ?_ ?_); decide; decide; (first | omega | decide))
  | dsimp only)
local macro_rules | `(tactic| walk_at "mfs") => `(tactic| repeat walk_at "mf1s")
local macro_rules | `(tactic| walk_at "mf") => `(tactic| repeat walk_at "mf1")
local macro_rules | `(tactic| walk_at "ed") => `(tactic| repeat (first
  | with_reducible first
    | exact eds_nil | apply eds_cons | exact ed_int | exact ed_bl | exact ed_non | apply ed_neg
  | ((with_reducible apply ed_str); decide)
  | ((with_reducible apply ed_var); (exact rfl); (first | assumption | exact Dq.int _))
  | ((with_reducible apply ed_dict0); assumption)
  | ((with_reducible apply ed_dict2); assumption)
  | ((with_reducible apply ed_tup); assumption)
  | ((with_reducible apply ed_lst); assumption)
  | (with_reducible apply ed_pow)
  | (with_reducible apply ed_mul)
  | assumption
  | (exact Dq.int _)
  | (exact ⟨by decide, by decide, by decide⟩)
  | (show List.length _ ≤ 1000; simp only [List.length_cons, List.length_nil]; decide)))
theorem ok_value_at (c : Cn) (T : Tx c) : Cl c 7 "value_at" s_value_at ["poly", "at"] (sp_pval c.K) := by
  obtain ⟨P, w, K, mg, base⟩ := c
  have C_added := ok_added _ T
  have C_is_fraction := ok_is_fraction _ T
  have C_multiplied := ok_multiplied _ T
  have C_read_poly := ok_read_poly _ T
  refine De.cl (N := ["poly", "at", "numbers", "total", "number"]) T.d_value_at sc_value_at (fun vs H Q E h => ?_) (fun f0 cdv A outer s H vs Q E hA hr h => ?_)
  · obtain ⟨q, a, v, xs, ds, x, n, A1, B1, rfl, _⟩ := h; rfl
  · have S := sc_value_at
    obtain ⟨q, a, v, xs, ds, x, n, A1, B1, rfl, na, ha, hd, ok, hn, ld, hv, bB, hB1, hs, hqt, k⟩ := h
    refine ⟨_, (pss_cons (ps_set (i := 2) S.nd rfl (by first | exact .inl rfl | exact .inr rfl) (pe_f C_read_poly hA hr (by decide) pl_read_poly (by rfl) (pa_cons (pv 0) (pa_cons pe_str pa_nil))))
      (pss_cons (ps_if (pt_not (pt_val (pe_f C_is_fraction hA hr (by decide) pl_is_fraction (by rfl) (pa_cons (pv 1) pa_nil)))) (pss_one ps_never) pss_nil)
      (pss_cons (ps_set (i := 3) S.nd rfl (by first | exact .inl rfl | exact .inr rfl) (pe_tup (pa_cons pe_int (pa_cons pe_int pa_nil))))
      (pss_cons (ps_for PassesOwn.never rfl (RT.pi_revA (by rfl) T.n_reversed (pv 2)) (pg_name (i := 4) S.nd rfl (by first | exact .inl rfl | exact .inr rfl)) (pss_one (ps_set (i := 3) S.nd rfl (by first | exact .inl rfl | exact .inr rfl) (pe_f C_added hA hr (by decide) pl_added (by rfl) (pa_cons (pe_f C_multiplied hA hr (by decide) pl_multiplied (by rfl) (pa_cons (pv 3) (pa_cons (pv 1) pa_nil))) (pa_cons (pv 4) pa_nil))))))
      (pss_one (ps_ret (pv 3))))))), ?_⟩
    have l1 := len_trim_le (ds.map valQ)
    rw [List.length_map] at l1
    walk_at "mf"
    refine ⟨q, a, xs, ds, n, _, rfl, na, ha, hd, ok, hn, ld, fun p1 H1 w1 s1 n1 e1 t1 => ?_⟩
    have vt := val_trim (ds.map valQ) x
    generalize trimR (ds.map valQ) = f at *
    have lw := t1.len
    have hv := hv.go (Same.x s1)
    obtain ⟨d, hdv, hfv, _⟩ := id hv
    walk_at "mf"
    refine ⟨q, v, d, rfl, hdv, ?_⟩
    rw [hfv]
    walk_at "mf"
    refine g_newT (by show 2 ≤ sizeLine; decide) fun p2 H2 n2 s2 e2 => ?_
    walk_at "mf"
    obtain ⟨acc, hqt⟩ := hqt
    have npq : ∀ {p : Addr} {Hz : Hp} {zs : List V}, Same H Hz → Hz p = some (.tup zs) → p ≠ q := fun s e => ne_tl (s _ _ hqt) e
    refine g_forRT (H0 := H1) rfl e1 (fun i σ' H' => Same H1 H' ∧ ∃ pt s4, σ' = [some (.ref a), some v, some (.ref p1), some (.ref pt), s4] ∧ H pt = none ∧ H' pt = some (.tup (rv (hor (co f) x (f.length - i) i)))) ⟨s2, p2, none, rfl, s1.free n2, e2⟩ (fun i σ' H' h => h.1) (fun i y σ' H' hi hy h => ?_) (fun σ' H' h => ?_)
    · obtain ⟨sH, pt, s4, rfl, npt, et⟩ := h
      obtain ⟨b, rfl, eb, gb⟩ := (t1.go (Same.kt sH)).get hy
      have bt : Rb (1 + i * (A1 + B1 + 1)) (hor (co f) x (f.length - i) i) := Rb.hor (fun j => bB.co hB1 j) hv.rb i _
      have si : i * (A1 + B1 + 1) + (A1 + B1 + 1) ≤ f.length * (A1 + B1 + 1) := by
        rw [← Nat.succ_mul]
        exact Nat.mul_le_mul_right _ (by omega)
      have hv' := hv.go (Same.x sH)
      walk_at "mf"
      refine ⟨q, _, _, _, _, _, A1, rfl, .tup (tupU et) (npq (s1.trans sH) et) bt, hv', by omega, fun p3 H3 s3 n3 e3 => ?_⟩
      have np3 : p3 ≠ q := npq ((s1.trans sH).trans s3) e3
      have nb : b ≠ q := npq (s1.trans sH) eb
      walk_at "mf"
      refine ⟨q, _, _, _, _, _, B1, rfl, .tup (tupU e3) np3 (bt.mul hv.rb), .tup (tupU (s3 _ _ eb)) nb (bB.co hB1 _), by omega, fun p4 H4 s4' n4 e4 => ?_⟩
      walk_at "mf"
      refine ⟨(sH.trans s3).trans s4', p4, _, rfl, ((s1.trans sH).trans s3).free n4, ?_⟩
      rw [lw] at e4
      rw [show f.length - i = f.length - (i + 1) + 1 by omega, show f.length - 1 - i = f.length - (i + 1) by omega] at e4
      exact e4
    · obtain ⟨sH, pt, s4, rfl, npt, et⟩ := h
      walk_at "mf"
      rw [lw, Nat.sub_self, hor_snoc] at et
      have ee : evs (fun i => co f (0 + i)) x f.length = val (ds.map valQ) x := by
        rw [← vt]
        exact evs_congr (fun i => by rw [Nat.zero_add]) x _
      rw [ee] at et
      exact k pt H' (s1.trans sH) npt et
theorem ok__law_value (c : Cn) (T : Tx c) : Cl c 3 "_law_value" s__law_value ["row", "at"] (sp_lval c.K) := by
  obtain ⟨P, w, K, mg, base⟩ := c
  have C__law_plus := ok__law_plus _ T
  have C__law_times := ok__law_times _ T
  refine De.cl (N := ["row", "at", "found", "power", "number"]) T.d__law_value sc__law_value (fun vs H Q E h => ?_) (fun f0 cdv A outer s H vs Q E hA hr h => ?_)
  · obtain ⟨a, b, xs, rs, x, A1, B1, C1, rfl, _⟩ := h; rfl
  · have S := sc__law_value
    obtain ⟨a, b, xs, rs, x, A1, B1, C1, rfl, ha, tl, eb, bx, bl, hB1, hC, hs, lx, k⟩ := h
    refine ⟨_, (pss_cons (ps_asg (pe_tup (pa_cons (pe_tup (pa_cons pe_int (pa_cons pe_int pa_nil))) (pa_cons (pe_tup (pa_cons pe_int (pa_cons pe_int pa_nil))) pa_nil))) (pg_tup rfl (pgs_cons (pg_name (i := 2) S.nd rfl (by first | exact .inl rfl | exact .inr rfl)) (pgs_cons (pg_name (i := 3) S.nd rfl (by first | exact .inl rfl | exact .inr rfl)) pgs_nil))))
      (pss_cons (ps_for PassesOwn.never rfl (pi_or (pi_list (pv 0)) (pi_tup (pv 0))) (pg_name (i := 4) S.nd rfl (by first | exact .inl rfl | exact .inr rfl)) (pss_one (ps_par (i := 2) (j := 3) (by rfl) S.nd rfl rfl (by decide) rfl rfl (pa_cons (pe_f C__law_plus hA hr (by decide) pl__law_plus (by rfl) (pa_cons (pv 2) (pa_cons (pe_f C__law_times hA hr (by decide) pl__law_times (by rfl) (pa_cons (pv 4) (pa_cons (pv 3) pa_nil))) pa_nil))) (pa_cons (pe_f C__law_times hA hr (by decide) pl__law_times (by rfl) (pa_cons (pv 3) (pa_cons (pv 1) pa_nil))) pa_nil)) (by rfl))))
      (pss_one (ps_ret (pv 2))))), ?_⟩
    have lw := tl.len
    walk_at "mf"
    refine g_newT (by show 2 ≤ sizeLine; decide) fun p1 H1 n1 s1 e1 => ?_
    walk_at "mf"
    refine g_newT (by show 2 ≤ sizeLine; decide) fun p2 H2 n2 s2 e2 => ?_
    walk_at "mf"
    refine g_newT (by show 2 ≤ sizeLine; decide) fun p3 H3 n3 s3 e3 => ?_
    refine g_tupG (tupU e3) rfl ?_
    walk_at "mf"
    have s0 := (s1.trans s2).trans s3
    refine g_forS rfl (ha.go (Same.x (q := a + 1) s0) (Nat.ne_of_lt (Nat.lt_succ_self a))) (fun i σ' H' => Same H3 H' ∧ ∃ pf pp s4, σ' = [some (.ref a), some (.ref b), some (.ref pf), some (.ref pp), s4] ∧ H pf = none ∧ H' pf = some (.tup (rv (evs (co rs) x i))) ∧ H' pp = some (.tup (rv (x ^ i)))) ⟨Same.refl _, p1, p2, none, rfl, n1, s3 _ _ (s2 _ _ e1), by rw [Rat.pow_zero]; exact s3 _ _ e2⟩ (fun i σ' H' h => h.1) (fun i y σ' H' hy h => ?_) (fun σ' H' h => ?_)
    · obtain ⟨sH, pf, pp, s4, rfl, npf, ef, ep⟩ := h
      obtain ⟨c, rfl, ec, gc⟩ := (tl.go (Same.kt (s0.trans sH))).get hy
      have hi : i < rs.length := (List.getElem?_eq_some_iff.mp gc).1
      have iA : i * A1 + A1 ≤ rs.length * A1 := by
        rw [← Nat.succ_mul]
        exact Nat.mul_le_mul_right _ (by omega)
      rw [Nat.succ_mul] at hs
      have eb' := sH _ _ (s0 _ _ eb)
      walk_at "mf"
      refine ⟨c, pp, co rs i, x ^ i, B1, 1 + i * A1, rfl, ec, ep, bl.co hB1 i, bx.pow i, by omega, fun p4 H4 s4' n4 e4 => ?_⟩
      walk_at "mf"
      refine ⟨pf, p4, _, _, C1, B1 + (1 + i * A1), rfl, s4' _ _ ef, e4, hC i (by omega), (bl.co hB1 i).mul (bx.pow i), by omega, fun p5 H5 s5 n5 e5 => ?_⟩
      walk_at "mf"
      refine ⟨pp, b, x ^ i, x, 1 + i * A1, A1, rfl, s5 _ _ (s4' _ _ ep), s5 _ _ (s4' _ _ eb'), bx.pow i, bx, by omega, fun p6 H6 s6 n6 e6 => ?_⟩
      walk_at "mf"
      refine ⟨((sH.trans s4').trans s5).trans s6, p5, p6, _, rfl, (((s0.trans sH).trans s4').free n5), s6 _ _ e5, ?_⟩
      rw [Rat.pow_succ]
      exact e6
    · obtain ⟨sH, pf, pp, s4, rfl, npf, ef, ep⟩ := h
      walk_at "mf"
      rw [lw] at ef
      exact k pf H' (s0.trans sH) npf ef
end Mf
namespace Mf
open PySem PySem.Spec PyProof.Rows L2
local macro_rules | `(tactic| walk_at "mf1") => `(tactic| first
  | ((with_reducible apply g_var); exact rfl)
  | with_reducible first
    | refine g_c ?_ | refine g_op ?_ | refine g_un ?_ | refine g_cb ?_ | refine g_cl ?_ | refine g_clk ?_ | refine g_nil ?_ | refine g_cons ?_
    | refine g_tB ?_ | refine g_test ?_ | refine g_bl ?_ | refine g_and ?_ | refine g_or ?_ | refine g_not ?_ | refine g_andV ?_ | refine g_orV ?_ | refine g_notV ?_
    | refine g_if ?_ | refine g_ifS ?_ | refine g_seq ?_ | refine g_next ?_ | refine g_ret ?_ | refine g_drop ?_ | refine g_asg ?_ | refine g_name ?_ | refine g_sub ?_
    | refine g_int ?_ | refine g_intB ?_ | refine g_abs ?_ | refine g_I0 ?_ | refine g_addI ?_ | refine g_U ?_ | refine g_isNn ?_ | refine g_isNi ?_ | refine g_notN ?_ | refine g_notT1 ?_ | refine g_notT2 ?_ | refine g_notT3 ?_ | refine g_notT4 ?_ | refine g_notTb ?_ | refine g_notTi ?_ | refine g_eqI ?_ | refine g_neI ?_ | refine g_neSs ?_ | refine g_neS ?_ | refine g_eqS ?_
    | refine g_iteT ?_ | refine g_iteF ?_ | refine g_iteNT ?_ | refine g_iteNF ?_ | refine g_lst ?_ | refine g_tup ?_ | refine g_seqP ?_ | refine g_sl ?_ | refine g_noPart ?_ | refine g_part ?_ | refine g_yes ?_ | refine g_thenT ?_ | refine g_consG ?_ | refine g_nilG ?_ | refine g_ii ?_ | refine g_par ?_ | refine g_par3 ?_ | refine g_vv ?_ | refine g_vvv ?_ | refine g_reprB ?_ | refine g_lcL ?_ | refine g_lcR ?_
  | ((with_reducible refine g_mod ?_ ?_); (first | omega | decide))
  | ((with_reducible refine g_div ?_ ?_ ?_); (first | omega | decide); (first | assumption | decide))
  | ((with_reducible refine g_mulL ?_ ?_ ?_); (first | omega | decide); (first | omega | decide))
  | ((with_reducible refine g_mulR ?_ ?_ ?_); (first | omega | decide); (first | omega | decide))
  | ((with_reducible refine g_pow ?_ ?_ ?_ ?_); decide; decide; (first | omega | decide))
  | dsimp only)
local macro_rules | `(tactic| walk_at "mf1s") => `(tactic| first
  | ((with_reducible apply g_var); exact rfl)
  | with_reducible first
    | refine g_c ?_ | refine g_op ?_ | refine g_un ?_ | refine g_cb ?_ | refine g_cl ?_ | refine g_clk ?_ | refine g_nil ?_ | refine g_cons ?_
    | refine g_tB ?_ | refine g_test ?_ | refine g_bl ?_ | refine g_and ?_ | refine g_or ?_ | refine g_not ?_ | refine g_andV ?_ | refine g_orV ?_ | refine g_notV ?_
    | refine g_if ?_ | refine g_ifS ?_ | refine g_next ?_ | refine g_ret ?_ | refine g_drop ?_ | refine g_asg ?_ | refine g_name ?_ | refine g_sub ?_
    | refine g_int ?_ | refine g_intB ?_ | refine g_abs ?_ | refine g_I0 ?_ | refine g_addI ?_ | refine g_U ?_ | refine g_isNn ?_ | refine g_isNi ?_ | refine g_notN ?_ | refine g_notT1 ?_ | refine g_notT2 ?_ | refine g_notT3 ?_ | refine g_notT4 ?_ | refine g_notTb ?_ | refine g_notTi ?_ | refine g_eqI ?_ | refine g_neI ?_ | refine g_neSs ?_ | refine g_neS ?_ | refine g_eqS ?_
    | refine g_iteT ?_ | refine g_iteF ?_ | refine g_iteNT ?_ | refine g_iteNF ?_ | refine g_lst ?_ | refine g_tup ?_ | refine g_seqP ?_ | refine g_sl ?_ | refine g_noPart ?_ | refine g_part ?_ | refine g_yes ?_ | refine g_thenT ?_ | refine g_consG ?_ | refine g_nilG ?_ | refine g_ii ?_ | refine g_par ?_ | refine g_par3 ?_ | refine g_vv ?_ | refine g_vvv ?_ | refine g_reprB ?_ | refine g_lcL ?_ | refine g_lcR ?_
  | ((with_reducible refine g_mod ?_ ?_); (first | omega | decide))
  | ((with_reducible refine g_div ?_ ?_ ?_); (first | omega | decide); (first | assumption | decide))
  | ((with_reducible refine g_mulL ?_ ?_ ?_); (first | omega | decide); (first | omega | decide))
  | ((with_reducible refine g_mulR ?_ ?_ ?_); (first | omega | decide); (first | omega | decide))
  | ((with_reducible refine g_pow ?_ ?_ ?_ ?_); decide; decide; (first | omega | decide))
  | dsimp only)
local macro_rules | `(tactic| walk_at "mfs") => `(tactic| repeat walk_at "mf1s")
local macro_rules | `(tactic| walk_at "mf") => `(tactic| repeat walk_at "mf1")
local macro_rules | `(tactic| walk_at "ed") => `(tactic| repeat (first
  | with_reducible first
    | exact eds_nil | apply eds_cons | exact ed_int | exact ed_bl | exact ed_non | apply ed_neg
  | ((with_reducible apply ed_str); decide)
  | ((with_reducible apply ed_var); (exact rfl); (first | assumption | exact Dq.int _))
  | ((with_reducible apply ed_dict0); assumption)
  | ((with_reducible apply ed_dict2); assumption)
  | ((with_reducible apply ed_tup); assumption)
  | ((with_reducible apply ed_lst); assumption)
  | (with_reducible apply ed_pow)
  | (with_reducible apply ed_mul)
  | assumption
  | (exact Dq.int _)
  | (exact ⟨by decide, by decide, by decide⟩)
  | (show List.length _ ≤ 1000; simp only [List.length_cons, List.length_nil]; decide)))
theorem g_bm {K : PySem.W.Frag} {T : String} {r : V → List V → Hp → VK → Prop} {to : TE} {t : TA} {σ : L2.St} {H : Hp} {Q : VK} (q : to σ H fun x H1 => tyV K T x H1 ∧ t σ H1 fun xs H2 => r x xs H2 Q) : tBM K T r to t σ H Q := q
theorem g_forR {ta : TA} {g : TG} {tb : TS} {D : Ends} {σ : L2.St} {H : Hp} (q : ta σ H fun vs H1 => ∃ j : Int, vs = [.int j] ∧ -(2 ^ 62) ≤ j ∧ j < 2 ^ 62 ∧ ForGo (Itr 0 j.toNat) g tb D σ H1) : tFor (iRng1 ta) g tb D σ H := q
theorem ok_poly_sum (c : Cn) (T : Tx c) : Cl c 7 "poly_sum" s_poly_sum ["one", "other"] (sp_psum c.K) := by
  obtain ⟨P, w, K, mg, base⟩ := c
  have C_added := ok_added _ T
  have C_read_poly := ok_read_poly _ T
  have C_trimmed := ok_trimmed _ T
  refine De.cl (N := ["one", "other", "first", "second", "total", "k", "number"]) T.d_poly_sum sc_poly_sum (fun vs H Q E h => ?_) (fun f0 cdv A outer s H vs Q E hA hr h => ?_)
  · obtain ⟨q, a, b, xs, ys, ds, es, n, rfl, _⟩ := h; rfl
  · have S := sc_poly_sum
    obtain ⟨q, a, b, xs, ys, ds, es, n, rfl, na, nb, ha, hb, hd, he, okd, oke, hn0, hn, ld, le, k⟩ := h
    refine ⟨_, (pss_cons (ps_par (i := 2) (j := 3) (by rfl) S.nd rfl rfl (by decide) rfl rfl (pa_cons (pe_f C_read_poly hA hr (by decide) pl_read_poly (by rfl) (pa_cons (pv 0) (pa_cons pe_str pa_nil))) (pa_cons (pe_f C_read_poly hA hr (by decide) pl_read_poly (by rfl) (pa_cons (pv 1) (pa_cons pe_str pa_nil))) pa_nil)) (by rfl))
      (pss_cons (ps_set (i := 4) S.nd rfl (by first | exact .inl rfl | exact .inr rfl) (pe_lst pa_nil))
      (pss_cons (ps_for PassesOwn.never rfl (pi_range1 rfl T.n_range (pa_cons (pe_callB (call_max2R rfl) (by rfl) T.n_max (show bootBuiltins "max" = some (.builtin "max") by decide +kernel) (pa_cons (pe_callB call_lenU (by rfl) T.n_len PySem.boot_len (pa_cons (pv 2) pa_nil)) (pa_cons (pe_callB call_lenU (by rfl) T.n_len PySem.boot_len (pa_cons (pv 3) pa_nil)) pa_nil))) pa_nil)) (pg_name (i := 5) S.nd rfl (by first | exact .inl rfl | exact .inr rfl)) (pss_cons (ps_set (i := 6) S.nd rfl (by first | exact .inl rfl | exact .inr rfl) (pe_ifExp (pt_cmpR op_lt (pv 5) (pe_callB call_lenU (by rfl) T.n_len PySem.boot_len (pa_cons (pv 2) pa_nil)) (nomark _)) (pe_ix ix_seq (pv 2) (pv 5) (fun _ _ => rfl)) pe_int))
      (pss_one (ps_expr (pe_bm PySem.F.plainAttrs_list PySem.F.slot_list_append PySem.F.type_list_append mt_append (pv 4) (pa_cons (pe_f C_added hA hr (by decide) pl_added (by rfl) (pa_cons (pv 6) (pa_cons (pe_ifExp (pt_cmpR op_lt (pv 5) (pe_callB call_lenU (by rfl) T.n_len PySem.boot_len (pa_cons (pv 3) pa_nil)) (nomark _)) (pe_ix ix_seq (pv 3) (pv 5) (fun _ _ => rfl)) pe_int) pa_nil))) pa_nil))))))
      (pss_one (ps_ret (pe_f C_trimmed hA hr (by decide) pl_trimmed (by rfl) (pa_cons (pv 4) pa_nil))))))), ?_⟩
    have l1 := len_trim_le (ds.map valQ)
    rw [List.length_map] at l1
    have l2 := len_trim_le (es.map valQ)
    rw [List.length_map] at l2
    have bf : RbL n (trimR (ds.map valQ)) := (RbL.of_val okd rfl).trim
    have bg : RbL n (trimR (es.map valQ)) := (RbL.of_val oke rfl).trim
    walk_at "mf"
    refine ⟨q, a, xs, ds, n, _, rfl, na, ha, hd, okd, by omega, ld, fun p1 H1 w1 s1 n1 e1 t1 => ?_⟩
    walk_at "mf"
    refine ⟨q, b, ys, es, n, _, rfl, nb, hb.go (Same.x s1) nb, he.go (Same.x s1), oke, by omega, le, fun p2 H2 w2 s2 n2 e2 t2 => ?_⟩
    have ee : trimR (padd (trimR (ds.map valQ)) (trimR (es.map valQ))) = trimR (padd (ds.map valQ) (es.map valQ)) := trim_eq fun j => by rw [co_padd, co_padd, co_trim, co_trim]
    rw [← ee] at k
    generalize trimR (ds.map valQ) = f at *
    generalize trimR (es.map valQ) = gg at *
    have lw1 := t1.len
    have lw2 := t2.len
    have e1 := s2 _ _ e1
    have t1 := t1.go (Same.kt s2)
    walk_at "mf"
    refine g_newL (by show 0 ≤ sizeLine; decide) fun pT H3 nT s3 eT => ?_
    walk_at "mf"
    refine g_forR ?_
    walk_at "mf"
    refine g_len (.inr (tupU (s3 _ _ e1))) ?_
    walk_at "mf"
    refine g_len (.inr (tupU (s3 _ _ e2))) ?_
    walk_at "mf"
    refine g_max2 ?_
    walk_at "mf"
    obtain ⟨M, hM⟩ : ∃ M, M = max f.length gg.length := ⟨_, rfl⟩
    have hM2 : M ≤ 80 := by omega
    have hMi : (if (w2.length : Int) > (w1.length : Int) then (w2.length : Int) else (w1.length : Int)) = (M : Int) := by
      split <;> omega
    refine ⟨(M : Int), by rw [hMi], by omega, by omega, ?_⟩
    rw [Int.toNat_natCast]
    refine for_range (lo := 0) (n := M) (fun i σ' H' => Same H2 H' ∧ ∃ s5 s6 vs, σ' = [some (.ref a), some (.ref b), some (.ref p1), some (.ref p2), some (.ref pT), s5, s6] ∧ H' pT = some (.lst vs) ∧ vs.length = i ∧ TL H' vs ((padd f gg).take i)) ⟨s3, none, none, [], rfl, eT, rfl, .nil⟩ (fun i σ' H' hi h => ?_) (fun σ' H' h => ?_)
    · obtain ⟨sH, s5, s6, vs, rfl, eT, lv, tv⟩ := h
      walk_at "mfs"
      refine g_seq (g_asg ?_)
      refine cut_P (fun v Hc => Hc = H' ∧ Fr pT K H' v (co f i) n) (fun Q' k' => ?_) (fun v Hc hv => ?_)
      · walk_at "mfs"
        refine g_len (.inr (tupU (sH _ _ e1))) ?_
        walk_at "mfs"
        refine g_ite (fun hc => ?_) (fun hc => ?_)
        · have hc := of_decide_eq_true hc
          obtain ⟨pa, hpa, epa⟩ := (t1.go (Same.kt sH)).at (i := i) (by omega)
          walk_at "mfs"
          refine g_ix (.inr (tupU (sH _ _ e1))) (at_of (j := i) (by omega) hpa) ?_
          exact k' _ _ ⟨rfl, fr_at eT epa (bf.co hn0 i)⟩
        · have hc := of_decide_eq_false hc
          walk_at "mfs"
          refine k' _ _ ⟨rfl, ?_⟩
          rw [co_ge (l := f) (by omega)]
          exact fr0.mono hn0
      obtain ⟨rfl, hv⟩ := hv
      walk_at "mf"
      refine g_bm ?_
      walk_at "mf"
      refine ⟨.inl ⟨rfl, _, seqU eT⟩, ?_⟩
      walk_at "mf"
      refine g_len (.inr (tupU (sH _ _ e2))) ?_
      walk_at "mf"
      refine g_ite (fun hc => ?_) (fun hc => ?_)
      · have hc := of_decide_eq_true hc
        obtain ⟨pb, hpb, epb⟩ := (t2.go (Same.kt sH)).at (i := i) (by omega)
        walk_at "mf"
        refine g_ix (.inr (tupU (sH _ _ e2))) (at_of (j := i) (by omega) hpb) ?_
        walk_at "mf"
        refine ⟨pT, _, _, co f i, co gg i, n, n, rfl, hv, fr_at eT epb (bg.co hn0 i), by omega, fun p5 H5 s5 n5 e5 => ?_⟩
        walk_at "mf"
        have eT5 := s5 _ _ eT
        have kt := upd_kt (o := .lst (vs ++ [.ref p5])) eT5
        refine ⟨pT, vs, .ref p5, rfl, rfl, eT5, small1000 (by omega), ?_⟩
        walk_at "mf"
        refine ⟨fun c o e => ?_, _, _, _, rfl, upd_same, by rw [List.length_append, lv]; rfl, ?_⟩
        · rw [upd_ne (ne_of_none e nT)]
          exact s5 _ _ (sH _ _ e)
        · have gp : (padd f gg)[i]? = some (co f i + co gg i) := by
            unfold padd
            rw [List.getElem?_map, List.getElem?_range (by omega)]
            rfl
          rw [take_snoc gp]
          exact ((tv.go (Same.kt s5)).go kt).snoc (kt _ _ e5)
      · have hc := of_decide_eq_false hc
        walk_at "mf"
        refine ⟨pT, _, _, co f i, co gg i, n, n, rfl, hv, (by rw [co_ge (l := gg) (by omega)]; exact fr0.mono hn0), by omega, fun p5 H5 s5 n5 e5 => ?_⟩
        walk_at "mf"
        have eT5 := s5 _ _ eT
        have kt := upd_kt (o := .lst (vs ++ [.ref p5])) eT5
        refine ⟨pT, vs, .ref p5, rfl, rfl, eT5, small1000 (by omega), ?_⟩
        walk_at "mf"
        refine ⟨fun c o e => ?_, _, _, _, rfl, upd_same, by rw [List.length_append, lv]; rfl, ?_⟩
        · rw [upd_ne (ne_of_none e nT)]
          exact s5 _ _ (sH _ _ e)
        · have gp : (padd f gg)[i]? = some (co f i + co gg i) := by
            unfold padd
            rw [List.getElem?_map, List.getElem?_range (by omega)]
            rfl
          rw [take_snoc gp]
          exact ((tv.go (Same.kt s5)).go kt).snoc (kt _ _ e5)
    · obtain ⟨sH, s5, s6, vs, rfl, eT, lv, tv⟩ := h
      rw [hM, ← len_padd, List.take_length] at tv
      walk_at "mf"
      refine ⟨pT, vs, _, rfl, seqU eT, tv, by omega, fun p H5 ws s5' n5 e5 t5 => ?_⟩
      exact k p H5 ws (((s1.trans s2).trans sH).trans s5') (((s1.trans s2).trans sH).free n5) e5 t5
end Mf
namespace Mf
open PySem PySem.Spec PyProof.Rows L2
local macro_rules | `(tactic| walk_at "mf1") => `(tactic| first
  | ((with_reducible apply g_var); exact rfl)
  | with_reducible first
    | refine g_c ?_ | refine g_op ?_ | refine g_un ?_ | refine g_cb ?_ | refine g_cl ?_ | refine g_clk ?_ | refine g_nil ?_ | refine g_cons ?_
    | refine g_tB ?_ | refine g_test ?_ | refine g_bl ?_ | refine g_and ?_ | refine g_or ?_ | refine g_not ?_ | refine g_andV ?_ | refine g_orV ?_ | refine g_notV ?_
    | refine g_if ?_ | refine g_ifS ?_ | refine g_seq ?_ | refine g_next ?_ | refine g_ret ?_ | refine g_drop ?_ | refine g_asg ?_ | refine g_name ?_ | refine g_sub ?_
    | refine g_int ?_ | refine g_intB ?_ | refine g_abs ?_ | refine g_I0 ?_ | refine g_addI ?_ | refine g_U ?_ | refine g_isNn ?_ | refine g_isNi ?_ | refine g_notN ?_ | refine g_notT1 ?_ | refine g_notT2 ?_ | refine g_notT3 ?_ | refine g_notT4 ?_ | refine g_notTb ?_ | refine g_notTi ?_ | refine g_eqI ?_ | refine g_neI ?_ | refine g_neSs ?_ | refine g_neS ?_ | refine g_eqS ?_
    | refine g_iteT ?_ | refine g_iteF ?_ | refine g_iteNT ?_ | refine g_iteNF ?_ | refine g_lst ?_ | refine g_tup ?_ | refine g_seqP ?_ | refine g_sl ?_ | refine g_noPart ?_ | refine g_part ?_ | refine g_yes ?_ | refine g_thenT ?_ | refine g_consG ?_ | refine g_nilG ?_ | refine g_ii ?_ | refine g_par ?_ | refine g_par3 ?_ | refine g_vv ?_ | refine g_vvv ?_ | refine g_reprB ?_ | refine g_lcL ?_ | refine g_lcR ?_
  | ((with_reducible refine g_mod ?_ ?_); (first | omega | decide))
  | ((with_reducible refine g_div ?_ ?_ ?_); (first | omega | decide); (first | assumption | decide))
  | ((with_reducible refine g_mulL ?_ ?_ ?_); (first | omega | decide); (first | omega | decide))
  | ((with_reducible refine g_mulR ?_ ?_ ?_); (first | omega | decide); (first | omega | decide))
  | ((with_reducible refine g_pow ?_ ?_ ?_ ?_); decide; decide; (first | omega | decide))
  | dsimp only)
local macro_rules | `(tactic| walk_at "mf1s") => `(tactic| first
  | ((with_reducible apply g_var); exact rfl)
  | with_reducible first
    | refine g_c ?_ | refine g_op ?_ | refine g_un ?_ | refine g_cb ?_ | refine g_cl ?_ | refine g_clk ?_ | refine g_nil ?_ | refine g_cons ?_
    | refine g_tB ?_ | refine g_test ?_ | refine g_bl ?_ | refine g_and ?_ | refine g_or ?_ | refine g_not ?_ | refine g_andV ?_ | refine g_orV ?_ | refine g_notV ?_
    | refine g_if ?_ | refine g_ifS ?_ | refine g_next ?_ | refine g_ret ?_ | refine g_drop ?_ | refine g_asg ?_ | refine g_name ?_ | refine g_sub ?_
    | refine g_int ?_ | refine g_intB ?_ | refine g_abs ?_ | refine g_I0 ?_ | refine g_addI ?_ | refine g_U ?_ | refine g_isNn ?_ | refine g_isNi ?_ | refine g_notN ?_ | refine g_notT1 ?_ | refine g_notT2 ?_ | refine g_notT3 ?_ | refine g_notT4 ?_ | refine g_notTb ?_ | refine g_notTi ?_ | refine g_eqI ?_ | refine g_neI ?_ | refine g_neSs ?_ | refine g_neS ?_ | refine g_eqS ?_
    | refine g_iteT ?_ | refine g_iteF ?_ | refine g_iteNT ?_ | refine g_iteNF ?_ | refine g_lst ?_ | refine g_tup ?_ | refine g_seqP ?_ | refine g_sl ?_ | refine g_noPart ?_ | refine g_part ?_ | refine g_yes ?_ | refine g_thenT ?_ | refine g_consG ?_ | refine g_nilG ?_ | refine g_ii ?_ | refine g_par ?_ | refine g_par3 ?_ | refine g_vv ?_ | refine g_vvv ?_ | refine g_reprB ?_ | refine g_lcL ?_ | refine g_lcR ?_
  | ((with_reducible refine g_mod ?_ ?_); (first | omega | decide))
  | ((with_reducible refine g_div ?_ ?_ ?_); (first | omega | decide); (first | assumption | decide))
  | ((with_reducible refine g_mulL ?_ ?_ ?_); (first | omega | decide); (first | omega | decide))
  | ((with_reducible refine g_mulR ?_ ?_ ?_); (first | omega | decide); (first | omega | decide))
  | ((with_reducible refine g_pow ?_ ?_ ?_ ?_); decide; decide; (first | omega | decide))
  | dsimp only)
local macro_rules | `(tactic| walk_at "mfs") => `(tactic| repeat walk_at "mf1s")
local macro_rules | `(tactic| walk_at "mf") => `(tactic| repeat walk_at "mf1")
local macro_rules | `(tactic| walk_at "ed") => `(tactic| repeat (first
  | with_reducible first
    | exact eds_nil | apply eds_cons | exact ed_int | exact ed_bl | exact ed_non | apply ed_neg
  | ((with_reducible apply ed_str); decide)
  | ((with_reducible apply ed_var); (exact rfl); (first | assumption | exact Dq.int _))
  | ((with_reducible apply ed_dict0); assumption)
  | ((with_reducible apply ed_dict2); assumption)
  | ((with_reducible apply ed_tup); assumption)
  | ((with_reducible apply ed_lst); assumption)
  | (with_reducible apply ed_pow)
  | (with_reducible apply ed_mul)
  | assumption
  | (exact Dq.int _)
  | (exact ⟨by decide, by decide, by decide⟩)
  | (show List.length _ ≤ 1000; simp only [List.length_cons, List.length_nil]; decide)))
theorem ok__law_points (c : Cn) (T : Tx c) : Cl c 4 "_law_points" s__law_points ["ropewalk", "ats", "values"] (sp_lpts c.K) := by
  obtain ⟨P, w, K, mg, base⟩ := c
  have C__law_as := ok__law_as _ T
  have C__law_knot := ok__law_knot _ T
  refine De.cl (N := ["ropewalk", "ats", "values", "found", "at", "value", "pair"]) T.d__law_points sc__law_points (fun vs H Q E h => ?_) (fun f0 cdv A outer s H vs Q E hA hr h => ?_)
  · obtain ⟨q, a, b, va, vb, rs, ss, t, rfl, _⟩ := h; rfl
  · have S := sc__law_points
    obtain ⟨q, a, b, va, vb, rs, ss, t, rfl, hq, ht, na, nb, ea, eb, ta, tb, lrs, l40, ba, bb, k⟩ := h
    refine ⟨_, (pss_cons (ps_set (i := 3) S.nd rfl (by first | exact .inl rfl | exact .inr rfl) (pe_lst pa_nil))
      (pss_cons (ps_for PassesOwn.never rfl (pi_zip (by rfl) T.n_zip (pa_cons (pv 1) (pa_cons (pv 2) pa_nil))) (pg_tup rfl (pgs_cons (pg_name (i := 4) S.nd rfl (by first | exact .inl rfl | exact .inr rfl)) (pgs_cons (pg_name (i := 5) S.nd rfl (by first | exact .inl rfl | exact .inr rfl)) pgs_nil))) (pss_cons (ps_set (i := 6) S.nd rfl (by first | exact .inl rfl | exact .inr rfl) (pe_tup (pa_cons (pe_f C__law_as hA hr (by decide) pl__law_as (by rfl) (pa_cons (pv 0) (pa_cons (pv 4) pa_nil))) (pa_cons (pe_f C__law_as hA hr (by decide) pl__law_as (by rfl) (pa_cons (pv 0) (pa_cons (pv 5) pa_nil))) pa_nil))))
      (pss_one (ps_expr (pe_bm PySem.F.plainAttrs_list PySem.F.slot_list_append PySem.F.type_list_append mt_append (pv 3) (pa_cons (pe_ifExp (pt_cmpR (show OpR _ (compareOp .Eq) (rEqU K) from op_eqU (by exact hr.units)) (pe_f C__law_knot hA hr (by decide) pl__law_knot (by rfl) (pa_cons (pv 0) (pa_cons pe_int pa_nil))) pe_int (nomark _)) (pv 6) (pe_callTy call_lstOf (by rfl) T.n_list PyProof.Rows.boot_list (pa_cons (pv 6) pa_nil))) pa_nil))))))
      (pss_one (ps_ret (pv 3))))), ?_⟩
    have la := ta.len
    have lb := tb.len
    refine g_seq ?_
    walk_at "mfs"
    refine g_newL (by show 0 ≤ sizeLine; decide) fun D H1 nD s1 eD => ?_
    have nDq := hq.ne nD
    have hq1 := hq.same s1
    have qn1 : Qn q D H1 := (Qn.new hq nD).go hq (Same.x s1)
    walk_at "mfs"
    refine g_seq ?_
    refine g_forZ (K := K) ?_
    walk_at "mfs"
    refine ⟨a, b, va, vb, rfl, seqU (s1 _ _ ea), seqU (s1 _ _ eb), ?_⟩
    refine RZ.for_zipL (xs := va) (ys := vb) (by omega) (fun i σ' H' => ∃ t' s4 s5 s6 xs, σ' = [some (.ref q), some (.ref a), some (.ref b), some (.ref D), s4, s5, s6] ∧ Qy K q t' H' ∧ t ≤ t' ∧ t' ≤ t + 5 * (i : Int) ∧ SameX q H H' ∧ Qn q D H' ∧ H' D = some (.lst xs) ∧ xs.length = i ∧ PzAll (fun c => c = q ∨ c = D) H' xs ((rs.zip ss).take i))
      ⟨t, none, none, none, [], rfl, hq1, by omega, by omega, Same.x s1, qn1, eD, rfl, .nil⟩ (fun i σ' H' h => ?_) (fun i x y T σ' H' hx hy h nT => ?_) (fun σ' H' h => ?_)
    · obtain ⟨t', s4, s5, s6, xs, rfl, _, _, _, sx, _⟩ := h
      exact ⟨seqU (sx _ _ na ea), seqU (sx _ _ nb eb)⟩
    · obtain ⟨t', s4, s5, s6, xs, rfl, hq', l', u', sx, qn, eD', lx, hall⟩ := h
      have hi := (List.getElem?_eq_some_iff.mp hx).1
      obtain ⟨pa, rfl, epa, ga⟩ := (ta.go (sx.kt hq)).get hx
      obtain ⟨pb, rfl, epb, gb⟩ := (tb.go (sx.kt hq)).get hy
      have sT : Same H' (upd H' T (.tup [.ref pa, .ref pb])) := same_new nT
      refine g_pair (tupU upd_same) ?_
      generalize upd H' T (.tup [.ref pa, .ref pb]) = Ht at *
      have hqt := hq'.same sT
      have qnt := qn.go hq' (Same.x sT)
      walk_at "mfs"
      refine g_seq ?_
      walk_at "mfs"
      refine ⟨q, pa, t', co rs i, rfl, hqt, by omega, sT _ _ epa, ba.co (by decide) i, fun t2 H2 u x1 y1 sx2 hq2 l2 u2 hz1 hy1 er1 bx1 by1 => ?_⟩
      walk_at "mfs"
      refine ⟨q, pb, t2, co ss i, rfl, hq2, by omega, sx2.kt hqt _ _ (sT _ _ epb), bb.co (by decide) i, fun t3 H3 v x2 y2 sx3 hq3 l3 u3 hz2 hy2 er2 bx2 by2 => ?_⟩
      walk_at "mfs"
      refine g_newT (by show 2 ≤ sizeLine; decide) fun pc H4 n4 s4' e4 => ?_
      have hq4 := hq3.same s4'
      have eDt := sT _ _ eD'
      have eD2 := sx2 _ _ nDq eDt
      have eD3 := sx3 _ _ nDq eD2
      have qn2 := qnt.go hqt sx2
      have qn3 := qn2.go hq2 sx3
      have qn4 := qn3.go hq3 (Same.x s4')
      obtain ⟨_, _, _, eqt, _⟩ := id hqt
      obtain ⟨_, _, _, eq2, _⟩ := id hq2
      have F1 : Fzr (fun c => c = q ∨ c = D) H4 u (co rs i) := ⟨x1, y1, (hz1.go (ex' := fun c => c = q ∨ c = D) (fun c o nc ec => by
          have c1 : c ≠ q := fun z => nc (by rw [z]; exact ⟨_, eqt⟩)
          have c2 : c ≠ D := fun z => nc (by rw [z]; exact ⟨_, eDt⟩)
          exact ⟨s4' _ _ (sx3 _ _ c1 ec), fun z => z.elim c1 c2⟩)), hy1, er1, bx1, by1⟩
      have F2 : Fzr (fun c => c = q ∨ c = D) H4 v (co ss i) := ⟨x2, y2, (hz2.go (ex' := fun c => c = q ∨ c = D) (fun c o nc ec => by
          have c1 : c ≠ q := fun z => nc (by rw [z]; exact ⟨_, eq2⟩)
          have c2 : c ≠ D := fun z => nc (by rw [z]; exact ⟨_, eD2⟩)
          exact ⟨s4' _ _ ec, fun z => z.elim c1 c2⟩)), hy2, er2, bx2, by2⟩
      have sx4 : SameX q H' H4 := (((Same.x sT).trans sx2).trans sx3).trans (Same.x s4')
      have all4 : PzAll (fun c => c = q ∨ c = D) H4 xs ((rs.zip ss).take i) := hall.go fun c o nc ec => ⟨sx4 _ _ (fun z => nc (.inl z)) ec, nc⟩
      have eD4 := s4' _ _ eD3
      have eqz : (rs.zip ss)[i]? = some (co rs i, co ss i) := by
        rw [List.getElem?_zip_eq_some]
        exact ⟨ga, gb⟩
      have fin : ∀ (c : Addr) (H6 : Hp) (t6 : Int), SameX q H4 H6 → Qy K q t6 H6 → Qn q D H6 → t3 ≤ t6 → t6 ≤ t3 + 1 → c ≠ q → c ≠ D → (H6 c = some (.tup [u, v]) ∨ H6 c = some (.lst [u, v])) → ∃ t' s4 s5 s6 xs', [some (V.ref q), some (.ref a), some (.ref b), some (.ref D), some (.ref pa), some (.ref pb), some (.ref pc)] = [some (.ref q), some (.ref a), some (.ref b), some (.ref D), s4, s5, s6] ∧ Qy K q t' (upd H6 D (.lst (xs ++ [.ref c]))) ∧ t ≤ t' ∧ t' ≤ t + 5 * ((i + 1 : Nat) : Int) ∧ SameX q H (upd H6 D (.lst (xs ++ [.ref c]))) ∧ Qn q D (upd H6 D (.lst (xs ++ [.ref c]))) ∧ upd H6 D (.lst (xs ++ [.ref c])) D = some (.lst xs') ∧ xs'.length = i + 1 ∧ PzAll (fun c => c = q ∨ c = D) (upd H6 D (.lst (xs ++ [.ref c]))) xs' ((rs.zip ss).take (i + 1)) := fun c H6 t6 sx6 hq6 qn6 l6 u6 cq cD hc => by
        refine ⟨t6, _, _, _, xs ++ [.ref c], rfl, hq6.upd qn6 nDq, by omega, by omega, ⟨fun b' o nb' e => ?_, fun c' w z e => ?_⟩, Qn.upd hq6 qn6 nDq, upd_same, by rw [List.length_append, lx]; rfl, ?_⟩
        · rw [upd_ne (ne_of_none e nD)]
          exact ((sx.trans sx4).trans sx6).kept b' o nb' e
        · obtain ⟨w', z', e'⟩ := ((sx.trans sx4).trans sx6).cell c' w z e
          exact ⟨w', z', by rw [upd_ne nDq.symm]; exact e'⟩
        · rw [take_snoc eqz]
          have up : ∀ b' o, ¬ (b' = q ∨ b' = D) → H6 b' = some o → upd H6 D (.lst (xs ++ [.ref c])) b' = some o ∧ ¬ (b' = q ∨ b' = D) := fun b' o nb' e => ⟨by rw [upd_ne (fun z => nb' (.inr z))]; exact e, nb'⟩
          have m6 : ∀ b' o, ¬ (b' = q ∨ b' = D) → H4 b' = some o → H6 b' = some o ∧ ¬ (b' = q ∨ b' = D) := fun b' o nb' e => ⟨sx6 _ _ (fun z => nb' (.inl z)) e, nb'⟩
          exact ((all4.go m6).go up).snoc (fun z => z.elim cq cD) (hc.elim (fun h => .inl (by rw [upd_ne cD]; exact h)) (fun h => .inr (by rw [upd_ne cD]; exact h))) ((F1.go m6).go up) ((F2.go m6).go up)
      have pcq : pc ≠ q := hq3.ne n4
      have pcD : pc ≠ D := fun z => by rw [z, eD3] at n4; cases n4
      walk_at "mfs"
      refine g_bm2 ?_
      walk_at "mfs"
      refine ⟨.inl ⟨rfl, _, seqU eD4⟩, ?_⟩
      walk_at "mfs"
      refine ⟨q, t3, 2, rfl, hq4, by omega, by decide, by decide, fun t5 H5 w sx5 hq5 l5 u5 w0 w1 => ?_⟩
      have eD5 := sx5 _ _ nDq eD4
      have e5 := sx5 _ _ pcq e4
      have qn5 := qn4.go hq4 sx5
      walk_at "mfs"
      refine g_ite (fun hw => ?_) (fun hw => ?_)
      · walk_at "mfs"
        refine ⟨D, xs, .ref pc, rfl, rfl, eD5, small1000 (by omega), ?_⟩
        walk_at "mfs"
        exact fin pc H5 t5 sx5 hq5 qn5 l5 (by omega) pcq pcD (.inl e5)
      · walk_at "mfs"
        refine g_lstOf (.inr (tupU e5)) fun pl H6 n6 s6' e6 => ?_
        have plD : pl ≠ D := fun z => by rw [z, eD5] at n6; cases n6
        walk_at "mfs"
        refine ⟨D, xs, .ref pl, rfl, rfl, s6' _ _ eD5, small1000 (by omega), ?_⟩
        walk_at "mfs"
        exact fin pl H6 t5 (sx5.trans (Same.x s6')) (hq5.same s6') (qn5.go hq5 (Same.x s6')) l5 (by omega) (hq5.ne n6) plD (.inr e6)
    · obtain ⟨t', s4, s5, s6, xs, rfl, hq', l', u', sx, qn, eD', lx, hall⟩ := h
      rw [la, show rs.length = (rs.zip ss).length by rw [List.length_zip]; omega, List.take_length] at hall
      obtain ⟨ds, h1, h2, h3⟩ := hall.dq (K := K) (q := q) (.inl rfl)
      walk_at "mfs"
      exact k t' H' D xs ds sx hq' l' (by omega) nD nDq eD' h1 h2 h3
end Mf
namespace Mf
open PySem PySem.Spec PyProof.Rows L2
local macro_rules | `(tactic| walk_at "mf1") => `(tactic| first
  | ((with_reducible apply g_var); exact rfl)
  | with_reducible first
    | refine g_c ?_ | refine g_op ?_ | refine g_un ?_ | refine g_cb ?_ | refine g_cl ?_ | refine g_clk ?_ | refine g_nil ?_ | refine g_cons ?_
    | refine g_tB ?_ | refine g_test ?_ | refine g_bl ?_ | refine g_and ?_ | refine g_or ?_ | refine g_not ?_ | refine g_andV ?_ | refine g_orV ?_ | refine g_notV ?_
    | refine g_if ?_ | refine g_ifS ?_ | refine g_seq ?_ | refine g_next ?_ | refine g_ret ?_ | refine g_drop ?_ | refine g_asg ?_ | refine g_name ?_ | refine g_sub ?_
    | refine g_int ?_ | refine g_intB ?_ | refine g_abs ?_ | refine g_I0 ?_ | refine g_addI ?_ | refine g_U ?_ | refine g_isNn ?_ | refine g_isNi ?_ | refine g_notN ?_ | refine g_notT1 ?_ | refine g_notT2 ?_ | refine g_notT3 ?_ | refine g_notT4 ?_ | refine g_notTb ?_ | refine g_notTi ?_ | refine g_eqI ?_ | refine g_neI ?_ | refine g_neSs ?_ | refine g_neS ?_ | refine g_eqS ?_
    | refine g_iteT ?_ | refine g_iteF ?_ | refine g_iteNT ?_ | refine g_iteNF ?_ | refine g_lst ?_ | refine g_tup ?_ | refine g_seqP ?_ | refine g_sl ?_ | refine g_noPart ?_ | refine g_part ?_ | refine g_yes ?_ | refine g_thenT ?_ | refine g_consG ?_ | refine g_nilG ?_ | refine g_ii ?_ | refine g_par ?_ | refine g_par3 ?_ | refine g_vv ?_ | refine g_vvv ?_ | refine g_reprB ?_ | refine g_lcL ?_ | refine g_lcR ?_
  | ((with_reducible refine g_mod ?_ ?_); (first | omega | decide))
  | ((with_reducible refine g_div ?_ ?_ ?_); (first | omega | decide); (first | assumption | decide))
  | ((with_reducible refine g_mulL ?_ ?_ ?_); (first | omega | decide); (first | omega | decide))
  | ((with_reducible refine g_mulR ?_ ?_ ?_); (first | omega | decide); (first | omega | decide))
  | ((with_reducible refine g_pow ?_ ?_ ?_ ?_); decide; decide; (first | omega | decide))
  | dsimp only)
local macro_rules | `(tactic| walk_at "mf1s") => `(tactic| first
  | ((with_reducible apply g_var); exact rfl)
  | with_reducible first
    | refine g_c ?_ | refine g_op ?_ | refine g_un ?_ | refine g_cb ?_ | refine g_cl ?_ | refine g_clk ?_ | refine g_nil ?_ | refine g_cons ?_
    | refine g_tB ?_ | refine g_test ?_ | refine g_bl ?_ | refine g_and ?_ | refine g_or ?_ | refine g_not ?_ | refine g_andV ?_ | refine g_orV ?_ | refine g_notV ?_
    | refine g_if ?_ | refine g_ifS ?_ | refine g_next ?_ | refine g_ret ?_ | refine g_drop ?_ | refine g_asg ?_ | refine g_name ?_ | refine g_sub ?_
    | refine g_int ?_ | refine g_intB ?_ | refine g_abs ?_ | refine g_I0 ?_ | refine g_addI ?_ | refine g_U ?_ | refine g_isNn ?_ | refine g_isNi ?_ | refine g_notN ?_ | refine g_notT1 ?_ | refine g_notT2 ?_ | refine g_notT3 ?_ | refine g_notT4 ?_ | refine g_notTb ?_ | refine g_notTi ?_ | refine g_eqI ?_ | refine g_neI ?_ | refine g_neSs ?_ | refine g_neS ?_ | refine g_eqS ?_
    | refine g_iteT ?_ | refine g_iteF ?_ | refine g_iteNT ?_ | refine g_iteNF ?_ | refine g_lst ?_ | refine g_tup ?_ | refine g_seqP ?_ | refine g_sl ?_ | refine g_noPart ?_ | refine g_part ?_ | refine g_yes ?_ | refine g_thenT ?_ | refine g_consG ?_ | refine g_nilG ?_ | refine g_ii ?_ | refine g_par ?_ | refine g_par3 ?_ | refine g_vv ?_ | refine g_vvv ?_ | refine g_reprB ?_ | refine g_lcL ?_ | refine g_lcR ?_
  | ((with_reducible refine g_mod ?_ ?_); (first | omega | decide))
  | ((with_reducible refine g_div ?_ ?_ ?_); (first | omega | decide); (first | assumption | decide))
  | ((with_reducible refine g_mulL ?_ ?_ ?_); (first | omega | decide); (first | omega | decide))
  | ((with_reducible refine g_mulR ?_ ?_ ?_); (first | omega | decide); (first | omega | decide))
  | ((with_reducible refine g_pow ?_ ?_ ?_ ?_); decide; decide; (first | omega | decide))
  | dsimp only)
local macro_rules | `(tactic| walk_at "mfs") => `(tactic| repeat walk_at "mf1s")
local macro_rules | `(tactic| walk_at "mf") => `(tactic| repeat walk_at "mf1")
local macro_rules | `(tactic| walk_at "ed") => `(tactic| repeat (first
  | with_reducible first
    | exact eds_nil | apply eds_cons | exact ed_int | exact ed_bl | exact ed_non | apply ed_neg
  | ((with_reducible apply ed_str); decide)
  | ((with_reducible apply ed_var); (exact rfl); (first | assumption | exact Dq.int _))
  | ((with_reducible apply ed_dict0); assumption)
  | ((with_reducible apply ed_dict2); assumption)
  | ((with_reducible apply ed_tup); assumption)
  | ((with_reducible apply ed_lst); assumption)
  | (with_reducible apply ed_pow)
  | (with_reducible apply ed_mul)
  | assumption
  | (exact Dq.int _)
  | (exact ⟨by decide, by decide, by decide⟩)
  | (show List.length _ ≤ 1000; simp only [List.length_cons, List.length_nil]; decide)))
theorem ok__law_stirred (c : Cn) (T : Tx c) : Cl c 2 "_law_stirred" s__law_stirred ["ropewalk", "some"] (sp_stir c.K) := by
  obtain ⟨P, w, K, mg, base⟩ := c
  have C__law_knot := ok__law_knot _ T
  refine De.cl (N := ["ropewalk", "some", "left", "found"]) T.d__law_stirred sc__law_stirred (fun vs H Q E h => ?_) (fun f0 cdv A outer s H vs Q E hA hr h => ?_)
  · obtain ⟨q, a, xs, rs, t, rfl, _⟩ := h; rfl
  · have S := sc__law_stirred
    obtain ⟨q, a, xs, rs, t, rfl, hq, ht, ea, tp, l40, k⟩ := h
    refine ⟨_, (pss_cons (ps_par (i := 2) (j := 3) (by rfl) S.nd rfl rfl (by decide) rfl rfl (pa_cons (pe_callTy call_lstOf (by rfl) T.n_list PyProof.Rows.boot_list (pa_cons (pv 1) pa_nil)) (pa_cons (pe_lst pa_nil) pa_nil)) (by rfl))
      (pss_cons (ps_while PassesOwn.never (pt_cmpR (show OpR _ (compareOp .NotEq) (rNeU K) from op_neU (by exact hr.units)) (pv 2) (pe_lst pa_nil) (nomark _)) (pss_one (ps_expr (pe_bm PySem.F.plainAttrs_list PySem.F.slot_list_append PySem.F.type_list_append mt_append (pv 3) (pa_cons (pe_bm PySem.F.plainAttrs_list PySem.F.slot_list_pop PySem.F.type_list_pop mt_popAt (pv 2) (pa_cons (pe_f C__law_knot hA hr (by decide) pl__law_knot (by rfl) (pa_cons (pv 0) (pa_cons (pe_callB call_lenU (by rfl) T.n_len PySem.boot_len (pa_cons (pv 2) pa_nil)) pa_nil))) pa_nil)) pa_nil)))))
      (pss_one (ps_ret (pv 3))))), ?_⟩
    refine g_seq ?_
    walk_at "mfs"
    refine g_lstOf (.inl (seqU ea)) fun L H1 nL s1 eL => ?_
    walk_at "mfs"
    refine g_newL (by show 0 ≤ sizeLine; decide) fun F H2 nF s2 eF => ?_
    have nLq := hq.ne nL
    have nFq := (hq.same s1).ne nF
    have hq2 := (hq.same s1).same s2
    have eL2 := s2 _ _ eL
    have tp2 := (tp.go (Same.kt s1)).go (Same.kt s2)
    have nLF : L ≠ F := fun z => by rw [z, nF] at eL; cases eL
    have nFH : H F = none := s1.free nF
    have qL : Qn q L H2 := ((Qn.new hq nL).go hq (Same.x s1)).go (hq.same s1) (Same.x s2)
    have qF : Qn q F H2 := (Qn.new (hq.same s1) nF).go (hq.same s1) (Same.x s2)
    walk_at "mfs"
    refine g_seq ?_
    refine ⟨fun m σ' H' => ∃ t' ls fs lr fr, σ' = [some (.ref q), some (.ref a), some (.ref L), some (.ref F)] ∧ Qy K q t' H' ∧ t ≤ t' ∧ t' + (lr.length : Int) ≤ t + (rs.length : Int) ∧ (∀ b o, b ≠ q → b ≠ L → b ≠ F → H2 b = some o → H' b = some o) ∧ (∀ c w z, H q = some (.lst [.ref c, w, z]) → ∃ w' z', H' q = some (.lst [.ref c, w', z'])) ∧ Qn q L H' ∧ Qn q F H' ∧ H' L = some (.lst ls) ∧ H' F = some (.lst fs) ∧ PP H' ls lr ∧ PP H' fs fr ∧ (fr ++ lr).Perm rs ∧ m = lr.length,
      ⟨rs.length, t, xs, [], rs, [], rfl, hq2, by omega, by omega, fun b o _ _ _ e => e, (Same.x (s1.trans s2)).cell, qL, qF, eL2, eF, tp2, .nil, .refl _, rfl⟩, ?_⟩
    rintro m σ' H' ⟨t', ls, fs, lr, fr, rfl, hq', l', u', hk, hc, qL', qF', eL', eF', tl, tf, pm, rfl⟩
    have lls := tl.len
    have lfs := tf.len
    have lpm := pm.length_eq
    rw [List.length_append] at lpm
    walk_at "mfs"
    refine g_newL (by show 0 ≤ sizeLine; decide) fun p3 H3 n3 s3 e3 => ?_
    walk_at "mfs"
    refine g_neNilP (s3 _ _ eL') (tl.go (Same.kt s3)) e3 ?_
    cases lr with
    | nil =>
      rw [show (!([] : List (Rat × Rat)).isEmpty) = false from rfl]
      walk_at "mfs"
      rw [List.append_nil] at pm
      have sA : ∀ b o, b ≠ q → H b = some o → H3 b = some o := fun b o nb e => s3 _ _ (hk b o nb (fun z => by rw [z, nL] at e; cases e) (fun z => by rw [z, nFH] at e; cases e) (s2 _ _ (s1 _ _ e)))
      exact k t' H3 F fs fr ⟨sA, fun c w z e => by
        obtain ⟨w', z', e'⟩ := hc c w z e
        exact ⟨w', z', s3 _ _ e'⟩⟩ (hq'.same s3) l' (by simp only [List.length_nil] at u'; omega) nFH nFq (s3 _ _ eF') (tf.go (Same.kt s3)) pm
    | cons z0 lr0 =>
      rw [show (!(z0 :: lr0).isEmpty) = true from rfl]
      walk_at "mfs"
      have hq3 := hq'.same s3
      have eL3 := s3 _ _ eL'
      have eF3 := s3 _ _ eF'
      have tl3 := tl.go (Same.kt s3)
      have tf3 := tf.go (Same.kt s3)
      have qL3 := qL'.go hq' (Same.x s3)
      have qF3 := qF'.go hq' (Same.x s3)
      generalize hlr : z0 :: lr0 = lr at *
      have l0 : 0 < lr.length := by rw [← hlr]; exact Nat.succ_pos _
      refine ⟨fun σ2 H2' => ∃ t' ls fs lr2 fr, σ2 = [some (.ref q), some (.ref a), some (.ref L), some (.ref F)] ∧ Qy K q t' H2' ∧ t ≤ t' ∧ t' + (lr2.length : Int) ≤ t + (rs.length : Int) ∧ (∀ b o, b ≠ q → b ≠ L → b ≠ F → H2 b = some o → H2' b = some o) ∧ (∀ c w z, H q = some (.lst [.ref c, w, z]) → ∃ w' z', H2' q = some (.lst [.ref c, w', z'])) ∧ Qn q L H2' ∧ Qn q F H2' ∧ H2' L = some (.lst ls) ∧ H2' F = some (.lst fs) ∧ PP H2' ls lr2 ∧ PP H2' fs fr ∧ (fr ++ lr2).Perm rs ∧ lr2.length < lr.length, fun σ2 H2' hN => ?_, ?_⟩
      · obtain ⟨t9, ls9, fs9, lr9, fr9, h1, h2, h3, h4, h5, h6, h7, h8, h9, h10, h11, h12, h13, h14⟩ := hN
        exact ⟨lr9.length, h14, t9, ls9, fs9, lr9, fr9, h1, h2, h3, h4, h5, h6, h7, h8, h9, h10, h11, h12, h13, rfl⟩
      · walk_at "mfs"
        refine g_bm2 ?_
        walk_at "mfs"
        refine ⟨.inl ⟨rfl, _, seqU eF3⟩, ?_⟩
        walk_at "mfs"
        refine g_bm2 ?_
        walk_at "mfs"
        refine ⟨.inl ⟨rfl, _, seqU eL3⟩, ?_⟩
        walk_at "mfs"
        refine g_len (.inl (seqU eL3)) ?_
        walk_at "mfs"
        refine ⟨q, t', _, rfl, hq3, by omega, by omega, Bt.log (n := 20) (by show ((ls.length : Nat) : Int).natAbs < 2 ^ 20; omega) (by decide), fun t5 H5 i sx5 hq5 l5 u5 i0 i1 => ?_⟩
        have eL5 := sx5 _ _ nLq eL3
        have eF5 := sx5 _ _ nFq eF3
        have tl5 := tl3.go (sx5.kt hq3)
        have tf5 := tf3.go (sx5.kt hq3)
        have qL5 := qL3.go hq3 sx5
        have qF5 := qF3.go hq3 sx5
        obtain ⟨j, rfl⟩ : ∃ j : Nat, i = (j : Int) := ⟨i.toNat, by omega⟩
        have hj : j < ls.length := by omega
        obtain ⟨c, p1, p2, z, ec0, hz, ec, ep1, ep2⟩ := tl5.get (List.getElem?_eq_getElem hj)
        walk_at "mfs"
        refine ⟨L, ls, (j : Int), j, .ref c, rfl, rfl, eL5, by omega, by omega, ?_, by rw [List.getElem?_eq_getElem hj, ec0], ?_⟩
        · unfold seqIndex?
          simp only [show ¬ ((j : Int) < 0) by omega, if_false]
          rw [if_pos (by rw [Bool.and_eq_true, decide_eq_true_eq, decide_eq_true_eq]; exact ⟨by omega, by omega⟩)]
          rfl
        have k6 : KeepT H5 (upd H5 L (.lst (ls.eraseIdx j))) := upd_kt eL5
        have q6 : Qy K q t5 (upd H5 L (.lst (ls.eraseIdx j))) := hq5.upd qL5 nLq
        have qF6 : Qn q F (upd H5 L (.lst (ls.eraseIdx j))) := fun c' w z' e => qF5 c' w z' (by rw [upd_ne nLq.symm] at e; exact e)
        have qL6 : Qn q L (upd H5 L (.lst (ls.eraseIdx j))) := Qn.upd hq5 qL5 nLq
        have eF6 : upd H5 L (.lst (ls.eraseIdx j)) F = some (.lst fs) := by rw [upd_ne nLF.symm]; exact eF5
        have eL6 : upd H5 L (.lst (ls.eraseIdx j)) L = some (.lst (ls.eraseIdx j)) := upd_same
        have off6 : ∀ b o, b ≠ L → H5 b = some o → upd H5 L (.lst (ls.eraseIdx j)) b = some o := fun b o nb e => by rw [upd_ne nb]; exact e
        generalize upd H5 L (.lst (ls.eraseIdx j)) = H6 at *
        walk_at "mfs"
        refine ⟨F, fs, .ref c, rfl, rfl, eF6, small1000 (by omega), ?_⟩
        walk_at "mfs"
        have k7 : KeepT H6 (upd H6 F (.lst (fs ++ [.ref c]))) := upd_kt eF6
        have pe := perm_erase hz
        have le : (lr.eraseIdx j).length + 1 = lr.length := by have := pe.length_eq; simpa using this
        refine ⟨t5, ls.eraseIdx j, fs ++ [.ref c], lr.eraseIdx j, fr ++ [z], rfl, q6.upd qF6 nFq, by omega, by omega, fun b o n1 n2 n3' e => ?_, fun c' w z' e => ?_, ?_, Qn.upd q6 qF6 nFq, ?_, upd_same, ((tl5.erase j).go k6).go k7, ((tf5.go k6).go k7).snoc (k7 _ _ (k6 _ _ ec)) (k7 _ _ (k6 _ _ ep1)) (k7 _ _ (k6 _ _ ep2)), ?_, by omega⟩
        · rw [upd_ne n3']
          exact off6 _ _ n2 (sx5 _ _ n1 (s3 _ _ (hk b o n1 n2 n3' e)))
        · obtain ⟨w1, z1, e1⟩ := hc c' w z' e
          obtain ⟨w2, z2, e2⟩ := sx5.cell c' w1 z1 (s3 _ _ e1)
          exact ⟨w2, z2, by rw [upd_ne nFq.symm]; exact off6 _ _ nLq.symm e2⟩
        · exact fun c' w z' e => qL6 c' w z' (by rw [upd_ne nFq.symm] at e; exact e)
        · rw [upd_ne nLF]
          exact eL6
        · rw [List.append_assoc]
          exact ((List.Perm.append_left fr pe).trans pm)
end Mf
namespace Mf
open PySem PySem.Spec PyProof.Rows L2
local macro_rules | `(tactic| walk_at "mf1") => `(tactic| first
  | ((with_reducible apply g_var); exact rfl)
  | with_reducible first
    | refine g_c ?_ | refine g_op ?_ | refine g_un ?_ | refine g_cb ?_ | refine g_cl ?_ | refine g_clk ?_ | refine g_nil ?_ | refine g_cons ?_
    | refine g_tB ?_ | refine g_test ?_ | refine g_bl ?_ | refine g_and ?_ | refine g_or ?_ | refine g_not ?_ | refine g_andV ?_ | refine g_orV ?_ | refine g_notV ?_
    | refine g_if ?_ | refine g_ifS ?_ | refine g_seq ?_ | refine g_next ?_ | refine g_ret ?_ | refine g_drop ?_ | refine g_asg ?_ | refine g_name ?_ | refine g_sub ?_
    | refine g_int ?_ | refine g_intB ?_ | refine g_abs ?_ | refine g_I0 ?_ | refine g_addI ?_ | refine g_U ?_ | refine g_isNn ?_ | refine g_isNi ?_ | refine g_notN ?_ | refine g_notT1 ?_ | refine g_notT2 ?_ | refine g_notT3 ?_ | refine g_notT4 ?_ | refine g_notTb ?_ | refine g_notTi ?_ | refine g_eqI ?_ | refine g_neI ?_ | refine g_neSs ?_ | refine g_neS ?_ | refine g_eqS ?_
    | refine g_iteT ?_ | refine g_iteF ?_ | refine g_iteNT ?_ | refine g_iteNF ?_ | refine g_lst ?_ | refine g_tup ?_ | refine g_seqP ?_ | refine g_sl ?_ | refine g_noPart ?_ | refine g_part ?_ | refine g_yes ?_ | refine g_thenT ?_ | refine g_consG ?_ | refine g_nilG ?_ | refine g_ii ?_ | refine g_par ?_ | refine g_par3 ?_ | refine g_vv ?_ | refine g_vvv ?_ | refine g_reprB ?_ | refine g_lcL ?_ | refine g_lcR ?_
  | ((with_reducible refine g_mod ?_ ?_); (first | omega | decide))
  | ((with_reducible refine g_div ?_ ?_ ?_); (first | omega | decide); (first | assumption | decide))
  | ((with_reducible refine g_mulL ?_ ?_ ?_); (first | omega | decide); (first | omega | decide))
  | ((with_reducible refine g_mulR ?_ ?_ ?_); (first | omega | decide); (first | omega | decide))
  | ((with_reducible refine g_pow ?_ ?_ ?_ ?_); decide; decide; (first | omega | decide))
  | dsimp only)
local macro_rules | `(tactic| walk_at "mf1s") => `(tactic| first
  | ((with_reducible apply g_var); exact rfl)
  | with_reducible first
    | refine g_c ?_ | refine g_op ?_ | refine g_un ?_ | refine g_cb ?_ | refine g_cl ?_ | refine g_clk ?_ | refine g_nil ?_ | refine g_cons ?_
    | refine g_tB ?_ | refine g_test ?_ | refine g_bl ?_ | refine g_and ?_ | refine g_or ?_ | refine g_not ?_ | refine g_andV ?_ | refine g_orV ?_ | refine g_notV ?_
    | refine g_if ?_ | refine g_ifS ?_ | refine g_next ?_ | refine g_ret ?_ | refine g_drop ?_ | refine g_asg ?_ | refine g_name ?_ | refine g_sub ?_
    | refine g_int ?_ | refine g_intB ?_ | refine g_abs ?_ | refine g_I0 ?_ | refine g_addI ?_ | refine g_U ?_ | refine g_isNn ?_ | refine g_isNi ?_ | refine g_notN ?_ | refine g_notT1 ?_ | refine g_notT2 ?_ | refine g_notT3 ?_ | refine g_notT4 ?_ | refine g_notTb ?_ | refine g_notTi ?_ | refine g_eqI ?_ | refine g_neI ?_ | refine g_neSs ?_ | refine g_neS ?_ | refine g_eqS ?_
    | refine g_iteT ?_ | refine g_iteF ?_ | refine g_iteNT ?_ | refine g_iteNF ?_ | refine g_lst ?_ | refine g_tup ?_ | refine g_seqP ?_ | refine g_sl ?_ | refine g_noPart ?_ | refine g_part ?_ | refine g_yes ?_ | refine g_thenT ?_ | refine g_consG ?_ | refine g_nilG ?_ | refine g_ii ?_ | refine g_par ?_ | refine g_par3 ?_ | refine g_vv ?_ | refine g_vvv ?_ | refine g_reprB ?_ | refine g_lcL ?_ | refine g_lcR ?_
  | ((with_reducible refine g_mod ?_ ?_); (first | omega | decide))
  | ((with_reducible refine g_div ?_ ?_ ?_); (first | omega | decide); (first | assumption | decide))
  | ((with_reducible refine g_mulL ?_ ?_ ?_); (first | omega | decide); (first | omega | decide))
  | ((with_reducible refine g_mulR ?_ ?_ ?_); (first | omega | decide); (first | omega | decide))
  | ((with_reducible refine g_pow ?_ ?_ ?_ ?_); decide; decide; (first | omega | decide))
  | dsimp only)
local macro_rules | `(tactic| walk_at "mfs") => `(tactic| repeat walk_at "mf1s")
local macro_rules | `(tactic| walk_at "mf") => `(tactic| repeat walk_at "mf1")
local macro_rules | `(tactic| walk_at "ed") => `(tactic| repeat (first
  | with_reducible first
    | exact eds_nil | apply eds_cons | exact ed_int | exact ed_bl | exact ed_non | apply ed_neg
  | ((with_reducible apply ed_str); decide)
  | ((with_reducible apply ed_var); (exact rfl); (first | assumption | exact Dq.int _))
  | ((with_reducible apply ed_dict0); assumption)
  | ((with_reducible apply ed_dict2); assumption)
  | ((with_reducible apply ed_tup); assumption)
  | ((with_reducible apply ed_lst); assumption)
  | (with_reducible apply ed_pow)
  | (with_reducible apply ed_mul)
  | assumption
  | (exact Dq.int _)
  | (exact ⟨by decide, by decide, by decide⟩)
  | (show List.length _ ≤ 1000; simp only [List.length_cons, List.length_nil]; decide)))
def sp_law (K : PySem.W.Frag) : Sp := fun vs H Q _ => ∃ (a : Addr) (ns : List Int), vs = [.ref a] ∧ SqL K H a (ns.map V.int) ∧ ns.length ≤ 63 ∧ ∀ H', Q (.bl true) H'
theorem ok_law (c : Cn) (T : Tx c) : Cl c 8 "law" s_law ["script"] (sp_law c.K) := by
  obtain ⟨P, w, K, mg, base⟩ := c
  have C__law_ats := ok__law_ats _ T
  have C__law_fraction := ok__law_fraction _ T
  have C__law_knot := ok__law_knot _ T
  have C__law_low := ok__law_low _ T
  have C__law_pick := ok__law_pick _ T
  have C__law_plus := ok__law_plus _ T
  have C__law_points := ok__law_points _ T
  have C__law_ropewalk := ok__law_ropewalk _ T
  have C__law_row := ok__law_row _ T
  have C__law_stirred := ok__law_stirred _ T
  have C__law_sum := ok__law_sum _ T
  have C__law_trimmed := ok__law_trimmed _ T
  have C__law_value := ok__law_value _ T
  have C_poly_sum := ok_poly_sum _ T
  have C_poly_through := ok_poly_through _ T
  have C_value_at := ok_value_at _ T
  refine De.cl (N := ["script", "ropewalk", "turn", "ats", "values", "row", "told", "both", "at", "value"]) T.d_law sc_law (fun vs H Q E h => ?_) (fun f0 cdv A outer s H vs Q E hA hr h => ?_)
  · obtain ⟨a, ns, rfl, _⟩ := h; rfl
  · have S := sc_law
    obtain ⟨a, ns, rfl, hS, hlen, k⟩ := h
    refine ⟨_, (pss_cons (ps_set (i := 1) S.nd rfl (by first | exact .inl rfl | exact .inr rfl) (pe_f C__law_ropewalk hA hr (by decide) pl__law_ropewalk (by rfl) (pa_cons (pv 0) pa_nil)))
      (pss_cons (ps_for PassesOwn.never rfl (pi_range1 rfl T.n_range (pa_cons pe_int pa_nil)) (pg_name (i := 2) S.nd rfl (by first | exact .inl rfl | exact .inr rfl)) (pss_cons (ps_set (i := 3) S.nd rfl (by first | exact .inl rfl | exact .inr rfl) (pe_f C__law_ats hA hr (by decide) pl__law_ats (by rfl) (pa_cons (pv 1) (pa_cons (pe_f C__law_pick hA hr (by decide) pl__law_pick (by rfl) (pa_cons (pv 1) (pa_cons (pe_lst (pa_cons pe_int (pa_cons pe_int (pa_cons pe_int (pa_cons pe_int (pa_cons pe_int (pa_cons pe_int (pa_cons pe_int pa_nil)))))))) pa_nil))) pa_nil))))
      (pss_cons (ps_asg (pe_tup (pa_cons (pe_lc (own := [("at", 8)]) (g := gName 8) (tt := tYes) rfl S.nd (pi_list (pv 3)) (blkOk_by (N := ["script", "ropewalk", "turn", "ats", "values", "row", "told", "both", "at", "value"]) (sc := defScope s_law) (by decide +kernel)) (fun _ _ _ _ _ => pg_name (i := 8) S.nd rfl (Or.inl rfl)) (fun _ _ _ _ _ => pts_nil) (fun _ _ _ _ _ => (pe_f C__law_fraction hA hr (by decide) pl__law_fraction (by rfl) (pa_cons (pv 1) pa_nil)))) (pa_cons (pe_f C__law_trimmed hA hr (by decide) pl__law_trimmed (by rfl) (pa_cons (pe_f C__law_row hA hr (by decide) pl__law_row (by rfl) (pa_cons (pv 1) (pa_cons (pe_callB call_lenU (by rfl) T.n_len PySem.boot_len (pa_cons (pv 3) pa_nil)) pa_nil))) pa_nil)) pa_nil))) (pg_tup rfl (pgs_cons (pg_name (i := 4) S.nd rfl (by first | exact .inl rfl | exact .inr rfl)) (pgs_cons (pg_name (i := 5) S.nd rfl (by first | exact .inl rfl | exact .inr rfl)) pgs_nil))))
      (pss_cons (ps_set (i := 6) S.nd rfl (by first | exact .inl rfl | exact .inr rfl) (pe_fk C_poly_through hA hr (by decide) pk_poly_through relR (lenR rfl) (by rfl) (pk_cons (pe_f C__law_points hA hr (by decide) pl__law_points (by rfl) (pa_cons (pv 1) (pa_cons (pv 3) (pa_cons (pv 4) pa_nil)))) pk_nil)))
      (pss_cons (ps_if (PW.pt (pw_or (pt_not (pt_val (pe_callB call_isi (by rfl) T.n_isinstance (show bootBuiltins "isinstance" = some (.builtin "isinstance") by decide +kernel) (pa_cons (pv 6) (pa_cons (pe_bltn (v := .ty "tuple") (by rfl) T.n_tuple (show bootBuiltins "tuple" = some (.type "tuple") by decide +kernel) rfl) pa_nil))))) (pw_or (pt_cmpR op_gt (pe_callB call_lenU (by rfl) T.n_len PySem.boot_len (pa_cons (pv 6) pa_nil)) (pe_callB call_lenU (by rfl) T.n_len PySem.boot_len (pa_cons (pv 3) pa_nil)) (nomark _)) (pw_or1 (pt_cmpR (show OpR _ (compareOp .NotEq) (rNeU K) from op_neU (by exact hr.units)) (pe_callB (show CallR _ (.builtin "repr") (rReprU K) from call_reprU (by exact hA) (by exact hr.units)) (by rfl) T.n_repr (show bootBuiltins "repr" = some (.builtin "repr") by decide +kernel) (pa_cons (pv 6) pa_nil)) (pe_callB (show CallR _ (.builtin "repr") (rReprU K) from call_reprU (by exact hA) (by exact hr.units)) (by rfl) T.n_repr (show bootBuiltins "repr" = some (.builtin "repr") by decide +kernel) (pa_cons (pe_f C__law_trimmed hA hr (by decide) pl__law_trimmed (by rfl) (pa_cons (pe_callTy call_lstOf (by rfl) T.n_list PyProof.Rows.boot_list (pa_cons (pv 6) pa_nil)) pa_nil)) pa_nil)) (nomark _)))))) (pss_one (ps_ret pe_bl)) pss_nil)
      (pss_cons (ps_if (pt_cmpR (show OpR _ (compareOp .NotEq) (rNeU K) from op_neU (by exact hr.units)) (pe_lc (own := [("at", 8), ("value", 9)]) (g := g2 K 8 9) rfl S.nd (pi_zip (by rfl) T.n_zip (pa_cons (pv 3) (pa_cons (pv 4) pa_nil))) (blkOk_by (N := ["script", "ropewalk", "turn", "ats", "values", "row", "told", "both", "at", "value"]) (sc := defScope s_law) (by decide +kernel)) (fun _ _ _ _ _ => pg_tup rfl (pgs_cons (pg_name (i := 8) S.nd rfl (Or.inl rfl)) (pgs_cons (pg_name (i := 9) S.nd rfl (Or.inl rfl)) pgs_nil))) (fun _ _ _ _ _ => pts_one (PW.pt (pw_or (pt_cmpR (show OpR _ (compareOp .NotEq) (rNeU K) from op_neU (by exact hr.units)) (pe_callB (show CallR _ (.builtin "repr") (rReprU K) from call_reprU (by exact hA) (by exact hr.units)) (by rfl) T.n_repr (show bootBuiltins "repr" = some (.builtin "repr") by decide +kernel) (pa_cons (pe_f C__law_value hA hr (by decide) pl__law_value (by rfl) (pa_cons (pv 6) (pa_cons (pv 8) pa_nil))) pa_nil)) (pe_callB (show CallR _ (.builtin "repr") (rReprU K) from call_reprU (by exact hA) (by exact hr.units)) (by rfl) T.n_repr (show bootBuiltins "repr" = some (.builtin "repr") by decide +kernel) (pa_cons (pv 9) pa_nil)) (nomark _)) (pw_or1 (pt_cmpR (show OpR _ (compareOp .NotEq) (rNeU K) from op_neU (by exact hr.units)) (pe_f C_value_at hA hr (by decide) pl_value_at (by rfl) (pa_cons (pv 6) (pa_cons (pv 8) pa_nil))) (pv 9) (nomark _)))))) (fun _ _ _ _ _ => pe_int)) (pe_lst pa_nil) (nomark _)) (pss_one (ps_ret pe_bl)) pss_nil)
      (pss_cons (ps_if (pt_cmpR (show OpR _ (compareOp .NotEq) (rNeU K) from op_neU (by exact hr.units)) (pe_callB (show CallR _ (.builtin "repr") (rReprU K) from call_reprU (by exact hA) (by exact hr.units)) (by rfl) T.n_repr (show bootBuiltins "repr" = some (.builtin "repr") by decide +kernel) (pa_cons (pe_f C_poly_through hA hr (by decide) pl_poly_through (by rfl) (pa_cons (pe_f C__law_points hA hr (by decide) pl__law_points (by rfl) (pa_cons (pv 1) (pa_cons (pv 3) (pa_cons (pe_lc (own := [("at", 8)]) (g := gName 8) (tt := tYes) rfl S.nd (pi_list (pv 3)) (blkOk_by (N := ["script", "ropewalk", "turn", "ats", "values", "row", "told", "both", "at", "value"]) (sc := defScope s_law) (by decide +kernel)) (fun _ _ _ _ _ => pg_name (i := 8) S.nd rfl (Or.inl rfl)) (fun _ _ _ _ _ => pts_nil) (fun _ _ _ _ _ => (pe_f C__law_value hA hr (by decide) pl__law_value (by rfl) (pa_cons (pv 5) (pa_cons (pv 8) pa_nil))))) pa_nil)))) pa_nil)) pa_nil)) (pe_callB (show CallR _ (.builtin "repr") (rReprU K) from call_reprU (by exact hA) (by exact hr.units)) (by rfl) T.n_repr (show bootBuiltins "repr" = some (.builtin "repr") by decide +kernel) (pa_cons (pv 5) pa_nil)) (nomark _)) (pss_one (ps_ret pe_bl)) pss_nil)
      (pss_cons (ps_if (pt_cmpR (show OpR _ (compareOp .NotEq) (rNeU K) from op_neU (by exact hr.units)) (pe_f C_poly_through hA hr (by decide) pl_poly_through (by rfl) (pa_cons (pe_f C__law_stirred hA hr (by decide) pl__law_stirred (by rfl) (pa_cons (pv 1) (pa_cons (pe_lstZip rfl (by rfl) T.n_list (by rfl) T.n_zip (pa_cons (pv 3) (pa_cons (pv 4) pa_nil))) pa_nil))) pa_nil)) (pv 6) (nomark _)) (pss_one (ps_ret pe_bl)) pss_nil)
      (pss_cons (ps_setLc (i := 7) (own := [("at", 8), ("value", 9)]) (g := g2 K 8 9) (tt := tYes) rfl S.nd rfl rfl (sw_true rfl rfl rfl (by decide +kernel)) (pi_zip (by rfl) T.n_zip (pa_cons (pv 3) (pa_cons (pv 4) pa_nil))) (blkOk_by (N := ["script", "ropewalk", "turn", "ats", "values", "row", "told", "both", "at", "value"]) (sc := defScope s_law) (by decide +kernel)) (fun _ _ _ _ _ => pg_tup rfl (pgs_cons (pg_name (i := 8) S.nd rfl (Or.inl rfl)) (pgs_cons (pg_name (i := 9) S.nd rfl (Or.inl rfl)) pgs_nil))) (fun _ _ _ _ _ => pts_nil) (fun _ _ _ _ _ => (pe_f C__law_plus hA hr (by decide) pl__law_plus (by rfl) (pa_cons (pv 9) (pa_cons (pe_f C__law_value hA hr (by decide) pl__law_value (by rfl) (pa_cons (pv 5) (pa_cons (pv 8) pa_nil))) pa_nil)))))
      (pss_one (ps_if (PW.pt (pw_or (pt_cmpR (show OpR _ (compareOp .NotEq) (rNeU K) from op_neU (by exact hr.units)) (pe_callB (show CallR _ (.builtin "repr") (rReprU K) from call_reprU (by exact hA) (by exact hr.units)) (by rfl) T.n_repr (show bootBuiltins "repr" = some (.builtin "repr") by decide +kernel) (pa_cons (pe_f C_poly_through hA hr (by decide) pl_poly_through (by rfl) (pa_cons (pe_f C__law_points hA hr (by decide) pl__law_points (by rfl) (pa_cons (pv 1) (pa_cons (pv 3) (pa_cons (pv 7) pa_nil)))) pa_nil)) pa_nil)) (pe_callB (show CallR _ (.builtin "repr") (rReprU K) from call_reprU (by exact hA) (by exact hr.units)) (by rfl) T.n_repr (show bootBuiltins "repr" = some (.builtin "repr") by decide +kernel) (pa_cons (pe_f C__law_sum hA hr (by decide) pl__law_sum (by rfl) (pa_cons (pv 6) (pa_cons (pv 5) pa_nil))) pa_nil)) (nomark _)) (pw_or1 (pt_cmpR (show OpR _ (compareOp .NotEq) (rNeU K) from op_neU (by exact hr.units)) (pe_f C_poly_sum hA hr (by decide) pl_poly_sum (by rfl) (pa_cons (pv 6) (pa_cons (pv 5) pa_nil))) (pe_f C__law_sum hA hr (by decide) pl__law_sum (by rfl) (pa_cons (pv 6) (pa_cons (pv 5) pa_nil))) (nomark _))))) (pss_one (ps_ret pe_bl)) pss_nil)))))))))))
      (pss_cons (ps_if (pt_cmpR (show OpR _ (compareOp .NotEq) (rNeU K) from op_neU (by exact hr.units)) (pe_f C__law_knot hA hr (by decide) pl__law_knot (by rfl) (pa_cons (pv 1) (pa_cons pe_int pa_nil))) pe_int (nomark _)) (pss_one (ps_ret pe_bl)) pss_nil)
      (pss_cons (ps_set (i := 5) S.nd rfl (by first | exact .inl rfl | exact .inr rfl) (pe_f C__law_trimmed hA hr (by decide) pl__law_trimmed (by rfl) (pa_cons (pe_lc (own := [("at", 8)]) (g := gName 8) (tt := tYes) rfl S.nd (pi_range1 rfl T.n_range (pa_cons pe_int pa_nil)) (blkOk_by (N := ["script", "ropewalk", "turn", "ats", "values", "row", "told", "both", "at", "value"]) (sc := defScope s_law) (by decide +kernel)) (fun _ _ _ _ _ => pg_name (i := 8) S.nd rfl (Or.inl rfl)) (fun _ _ _ _ _ => pts_nil) (fun _ _ _ _ _ => (pe_f C__law_low hA hr (by decide) pl__law_low (by rfl) (pa_cons (pe_op op_sub (pe_f C__law_knot hA hr (by decide) pl__law_knot (by rfl) (pa_cons (pv 1) (pa_cons pe_int pa_nil))) pe_int) (pa_cons pe_int pa_nil))))) pa_nil)))
      (pss_one (ps_ret (pe_cmpR (show OpR _ (compareOp .Eq) (rEqU K) from op_eqU (by exact hr.units)) (pe_f C_poly_through hA hr (by decide) pl_poly_through (by rfl) (pa_cons (pe_lc (own := [("at", 8)]) (g := gName 8) (tt := tYes) rfl S.nd (pi_range1 rfl T.n_range (pa_cons pe_int pa_nil)) (blkOk_by (N := ["script", "ropewalk", "turn", "ats", "values", "row", "told", "both", "at", "value"]) (sc := defScope s_law) (by decide +kernel)) (fun _ _ _ _ _ => pg_name (i := 8) S.nd rfl (Or.inl rfl)) (fun _ _ _ _ _ => pts_nil) (fun _ _ _ _ _ => (pe_tup (pa_cons (pv 8) (pa_cons (pe_f C__law_value hA hr (by decide) pl__law_value (by rfl) (pa_cons (pv 5) (pa_cons (pe_tup (pa_cons (pv 8) (pa_cons pe_int pa_nil))) pa_nil))) pa_nil))))) pa_nil)) (pv 5) (nomark _)))))))), ?_⟩
    refine g_seq (g_asg ?_)
    walk_at "mf"
    refine ⟨a, ns, rfl, hS, hlen, fun q H1 s1 hq0 hq => ?_⟩
    refine g_name (g_seq ?_)
    refine g_for1 ⟨by decide, by decide⟩ (fun i σ' H' => (∃ s2 s3 s4 s5 s6 s7, σ' = [some (.ref a), some (.ref q), s2, s3, s4, s5, s6, s7, none, none]) ∧ ∃ t, Qy K q t H' ∧ t ≤ 2000 * (i : Int)) ⟨⟨_, _, _, _, _, _, rfl⟩, 0, hq, by omega⟩ (fun i σ' H' hi hP => ?_) (fun σ' H' hP => ?_)
    · obtain ⟨⟨s2, s3, s4, s5, s6, s7, rfl⟩, t, hq, ht⟩ := hP
      have hi8 : i < 2 := hi
      clear hS hlen s1 hq0
      refine g_seq ?_
      walk_at "mfs"
      refine g_newL (by show 7 ≤ sizeLine; decide) fun p1 H1 n1 s1 e1 => ?_
      have hq1 := hq.same s1
      walk_at "mfs"
      refine ⟨q, p1, t, _, rfl, hq1, by omega, hq.ne n1, .inl (seqU e1), by simp, by simp only [List.length_cons, List.length_nil]; decide, fun t2 H2 y sx2 hq2 l2 u2 my => ?_⟩
      obtain ⟨m, rfl, m0, m7⟩ : ∃ m : Int, y = .int m ∧ 0 ≤ m ∧ m ≤ 7 := by
        simp only [List.mem_cons, List.not_mem_nil, or_false] at my
        rcases my with rfl | rfl | rfl | rfl | rfl | rfl | rfl <;> exact ⟨_, rfl, by decide, by decide⟩
      walk_at "mfs"
      refine ⟨q, t2, m, rfl, hq2, by omega, m0, m7, fun t3 H3 pA vA rs sx3 hq3 l3 u3 nA eA tA bA nd lA => ?_⟩
      have npA := hq2.ne nA
      clear s1 e1 n1 sx2 sx3 nA hq hq1 hq2 my
      walk_at "mfs"
      -- values
      refine g_seq ?_
      walk_at "mfs"
      refine ⟨pA, rfl, ⟨_, seqU eA⟩, ?_⟩
      refine lcgo_listF (xs := vA) (fun D j H' => ∃ t' vs ss, Qy K q t' H' ∧ t3 ≤ t' ∧ t' ≤ t3 + 5 * (j : Int) ∧ Qn q D H' ∧ SameX q H3 H' ∧ H' D = some (.lst vs) ∧ vs.length = j ∧ TL H' vs ss ∧ RbL 12 ss) (fun z => rfl)
        (fun D hD => ⟨t3, [], [], hq3.upd (Qn.new hq3 hD) (hq3.ne hD), by omega, by omega, Qn.upd hq3 (Qn.new hq3 hD) (hq3.ne hD), Same.x (same_new hD), upd_same, rfl, .nil, fun r hr => absurd hr List.not_mem_nil⟩) (fun D j H' _ h => ?_) (fun D j x H' hD hx h => ?_) (fun pV H4 nV h => ?_)
      · obtain ⟨_, _, _, _, _, _, _, sx, _⟩ := h
        exact seqU (sx _ _ npA eA)
      · obtain ⟨t', vs, ss, hq', lt', ut', hn', sx', eD, lv, tl, br⟩ := h
        have nD : D ≠ q := hq3.ne hD
        have hj := (List.getElem?_eq_some_iff.mp hx).1
        walk_at "mfs"
        refine ⟨q, t', rfl, hq', by have := tA.len; omega, fun t6 H6 p r sx6 hq6 l6 u6 np ep bp => ?_⟩
        have hn6 := hn'.go hq' sx6
        have eD6 := sx6 _ _ nD eD
        have kt := upd_kt (o := .lst (vs ++ [.ref p])) eD6
        refine ⟨vs, eD6, small1000 (by have := tA.len; omega), t6, vs ++ [.ref p], ss ++ [r], hq6.upd hn6 nD, by omega, by omega, Qn.upd hq6 hn6 nD, ?_, upd_same, by rw [List.length_append, lv]; rfl, ((tl.go (sx6.kt hq')).go kt).snoc (kt _ _ ep), ?_⟩
        · refine ⟨fun b o nb e => ?_, fun c w z e => ?_⟩
          · rw [upd_ne (ne_of_none e hD)]
            exact (sx'.trans sx6).kept b o nb e
          · obtain ⟨w', z', e'⟩ := (sx'.trans sx6).cell c w z e
            exact ⟨w', z', by rw [upd_ne nD.symm]; exact e'⟩
        · intro x hx
          rcases List.mem_append.mp hx with hx | hx
          · exact br x hx
          · rw [List.mem_singleton.mp hx]
            exact bp
      obtain ⟨t4, vV, ss, hq4, l4, u4, hn4, sx4, eV, lV, tV, bV⟩ := h
      have lAr := tA.len
      have lVr := tV.len
      have npV := hq3.ne nV
      have eA := sx4 _ _ npA eA
      have tA := tA.go (sx4.kt hq3)
      clear sx4 hn4 nV
      walk_at "mfs"
      refine g_len (.inl (seqU eA)) ?_
      walk_at "mfs"
      refine ⟨q, t4, _, rfl, hq4, by omega, by omega, by omega, fun t5 H5 p5 v5 r5 sx5 hq5 l5 u5 n5 qn5 e5 tl5 b5 len5 => ?_⟩
      have eA := sx5 _ _ npA eA
      have tA := tA.go (sx5.kt hq4)
      have eV := sx5 _ _ npV eV
      have tV := tV.go (sx5.kt hq4)
      walk_at "mfs"
      refine ⟨p5, v5, r5, rfl, seqU e5, tl5, by rw [tl5.len]; omega, fun pR H6 wR s6 n6 eR tR => ?_⟩
      have eA := s6 _ _ eA
      have tA := tA.go (Same.kt s6)
      have eV := s6 _ _ eV
      have tV := tV.go (Same.kt s6)
      have hq6 := hq5.same s6
      have bR : RbL 12 (trimR r5) := b5.trim
      have trR := tr_trim r5
      have lR : (trimR r5).length ≤ rs.length := by have := len_trim_le r5; omega
      generalize trimR r5 = row at *
      clear e5 tl5 n5 qn5 b5 len5 sx5 s6 n6 hq4 hq5
      walk_at "mfs"
      refine g_newT (by show 2 ≤ sizeLine; decide) fun p7 H7 n7 s7 e7 => ?_
      have npR : pR ≠ q := by
        obtain ⟨_, _, _, eqq, _⟩ := id hq6
        exact ne_tl eqq eR
      have eA := s7 _ _ eA
      have tA := tA.go (Same.kt s7)
      have eV := s7 _ _ eV
      have tV := tV.go (Same.kt s7)
      have eR := s7 _ _ eR
      have tR := tR.go (Same.kt s7)
      have hq7 := hq6.same s7
      refine g_tupG (tupU e7) rfl ?_
      walk_at "mfs"
      clear e7 n7 s7 hq6
      have rs7 : rs.length ≤ 7 := by omega
      have lRS : rs.length = ss.length := by omega
      have lZ : (rs.zip ss).length ≤ 7 := by rw [List.length_zip]; omega
      have ndZ : ((rs.zip ss).map (·.1)).Nodup := by rw [fst_zip lRS]; exact nd
      have hAz : ∀ z ∈ rs.zip ss, Rb 6 z.1 := fun z h => bA _ (zip_fst h)
      have hBz : ∀ z ∈ rs.zip ss, Rb 12 z.2 := fun z h => bV _ (zip_snd h)
      have bA200 : RbL 200 rs := bA.mono (by decide)
      -- told
      refine g_seq ?_
      walk_at "mfs"
      refine ⟨q, pA, pV, vA, vV, rs, ss, t5, rfl, hq7, by omega, npA, npV, eA, eV, tA, tV, lRS, by omega, bA200, bV.mono (by decide), fun t8 H8 D8 x8 d8 sx8 hq8 l8 u8 n8 nq8 eD8 hd8 ok8 ev8 => ?_⟩
      have kx := sx8.kt hq7
      have eA := sx8 _ _ npA eA
      have tA := tA.go kx
      have eV := sx8 _ _ npV eV
      have tV := tV.go kx
      have eR := sx8 _ _ npR eR
      have tR := tR.go kx
      clear kx
      clear sx8 hq7 n8
      walk_at "mfs"
      refine thru7 nq8 (.inl (seqU eD8)) hd8 ok8 ev8 (by decide) lZ ndZ hAz hBz (by decide) (by decide) fun pT H9 wT told s9 n9 eT tT trT lT vT bT => ?_
      have eA := s9 _ _ eA
      have tA := tA.go (Same.kt s9)
      have eV := s9 _ _ eV
      have tV := tV.go (Same.kt s9)
      have eR := s9 _ _ eR
      have tR := tR.go (Same.kt s9)
      have hq9 := hq8.same s9
      rw [List.length_zip] at lT
      have lT : told.length ≤ rs.length := by omega
      have lwT := tT.len
      obtain ⟨_, _, _, eqq, _⟩ := id hq9
      have npT := ne_tl eqq eT
      clear s9 n9 hq8 eD8 hd8 ok8 ev8 nq8
      walk_at "mfs"
      -- its kind, length, text
      refine g_seq ?_
      walk_at "mfs"
      refine g_isiT (dq_poly eqq eT tT) ?_
      rw [show isTupD (.tuple (told.map rd)) = true from rfl]
      walk_at "mfs"
      refine g_len (.inr (tupU eT)) ?_
      walk_at "mfs"
      refine g_len (.inl (seqU eA)) ?_
      walk_at "mfs"
      rw [decide_eq_false (show ¬ ((vA.length : Nat) : Int) < ((wT.length : Nat) : Int) by omega)]
      walk_at "mfs"
      have shT : ShN 846 11859 3 (.tuple (told.map rd)) := shn_poly (n := 845) (L := 7) (by decide) (by decide) bT (by omega)
      refine g_reprS (.tup (tupU eT) tT.dp) shT (by decide) (by decide) (by decide) ?_
      walk_at "mfs"
      refine g_lstOf (.inr (tupU eT)) fun p10 H10 n10 s10 e10 => ?_
      have eA := s10 _ _ eA
      have tA := tA.go (Same.kt s10)
      have eV := s10 _ _ eV
      have tV := tV.go (Same.kt s10)
      have eR := s10 _ _ eR
      have tR := tR.go (Same.kt s10)
      have eT := s10 _ _ eT
      have tT := tT.go (Same.kt s10)
      have eqq := s10 _ _ eqq
      walk_at "mfs"
      refine ⟨p10, wT, told, rfl, seqU e10, tT, by omega, fun p11 H11 w11 s11 n11 e11 t11 => ?_⟩
      rw [trT.trim] at t11
      have eA := s11 _ _ eA
      have tA := tA.go (Same.kt s11)
      have eV := s11 _ _ eV
      have tV := tV.go (Same.kt s11)
      have eR := s11 _ _ eR
      have tR := tR.go (Same.kt s11)
      have eT := s11 _ _ eT
      have tT := tT.go (Same.kt s11)
      have eqq := s11 _ _ eqq
      walk_at "mfs"
      refine g_reprS (.tup (tupU e11) t11.dp) shT (by decide) (by decide) (by decide) ?_
      walk_at "mfs"
      clear e10 n10 n11 e11 t11
      have hq11 := (hq9.same s10).same s11
      clear hq9 s10 s11
      -- values at all places
      refine g_seq ?_
      walk_at "mfs"
      refine g_lcZ ?_
      walk_at "mfs"
      refine ⟨pA, pV, vA, vV, rfl, seqU eA, seqU eV, ?_⟩
      refine lcgo_zip (xs := vA) (ys := vV) (fun D n H' => Same H11 H' ∧ H' D = some (.lst [])) (by omega) (fun x y => rfl) (fun D hD => ⟨same_new hD, upd_same⟩) (fun D n H' _ h => ⟨seqU (h.1 _ _ eA), seqU (h.1 _ _ eV)⟩) (fun D n x y T H' hD hx hy h nT => ?_) (fun D H12 hD h => ?_)
      · obtain ⟨h1, h2⟩ := h
        have sT : Same H' (upd H' T (.tup [x, y])) := same_new nT
        generalize upd H' T (.tup [x, y]) = Ht at *
        have s0 := h1.trans sT
        obtain ⟨ax, rfl, eax, gx⟩ := (tA.go (Same.kt s0)).get hx
        obtain ⟨ay, rfl, eay, gy⟩ := (tV.go (Same.kt s0)).get hy
        have bx := bA.co (by decide) n
        have by_ := bV.co (by decide) n
        have ezv : val told (co rs n) = co ss n := vT (co rs n, co ss n) (List.mem_of_getElem? (List.getElem?_zip_eq_some.mpr ⟨gx, gy⟩))
        have eT' := s0 _ _ eT
        have tT' := tT.go (Same.kt s0)
        have eqq' := s0 _ _ eqq
        have nax : ax ≠ q := ne_tl eqq' eax
        walk_at "mfs"
        refine ⟨pT, ax, wT, told, co rs n, 6, 845, 5965, rfl, .inr (tupU eT'), tT', eax, bx, bT, by decide, fun i hi => (rb_val bT (by decide) bx i).mono (by omega), by omega, by omega, fun p13 H13 s13 n13 e13 => ?_⟩
        rw [ezv] at e13
        walk_at "mfs"
        refine g_reprS (rv_dp e13) (shn_rd by_ (by decide) (by decide)) (by decide) (by decide) (by decide) ?_
        walk_at "mfs"
        refine g_reprS (rv_dp (s13 _ _ eay)) (shn_rd by_ (by decide) (by decide)) (by decide) (by decide) (by decide) ?_
        walk_at "mfs"
        refine ⟨q, pT, .ref ax, wT, told.map rd, co rs n, 845, 6, 845, rfl, npT, .inr (tupU (s13 _ _ eT')), TL.data (s13 _ _ eqq') (tT'.go (Same.kt s13)), rds_ok bT, by decide, by rw [List.length_map]; omega, Fr.tup (tupU (s13 _ _ eax)) nax bx, by rw [rds_val, trT.trim]; exact bT, by decide, by rw [rds_val, trT.trim]; omega, ⟨_, s13 _ _ eqq'⟩, fun p14 H14 s14 n14 e14 => ?_⟩
        rw [rds_val, ezv] at e14
        walk_at "mfs"
        refine g_neFF (tupU e14) (tupU (s14 _ _ (s13 _ _ eay))) ?_
        walk_at "mfs"
        exact ⟨(s0.trans s13).trans s14, s14 _ _ (s13 _ _ (sT _ _ h2))⟩
      obtain ⟨s12, e12⟩ := h
      have eA := s12 _ _ eA
      have tA := tA.go (Same.kt s12)
      have eV := s12 _ _ eV
      have tV := tV.go (Same.kt s12)
      have eR := s12 _ _ eR
      have tR := tR.go (Same.kt s12)
      have eT := s12 _ _ eT
      have tT := tT.go (Same.kt s12)
      have eqq := s12 _ _ eqq
      walk_at "mfs"
      refine g_newL (by show 0 ≤ sizeLine; decide) fun p13 H13 n13 s13 e13 => ?_
      have eA := s13 _ _ eA
      have tA := tA.go (Same.kt s13)
      have eV := s13 _ _ eV
      have tV := tV.go (Same.kt s13)
      have eR := s13 _ _ eR
      have tR := tR.go (Same.kt s13)
      have eT := s13 _ _ eT
      have tT := tT.go (Same.kt s13)
      have eqq := s13 _ _ eqq
      walk_at "mfs"
      refine g_neNil (ns := []) (seqU (s13 _ _ e12)) (seqU e13) ?_
      rw [show (!([] : List Int).isEmpty) = false from rfl]
      walk_at "mfs"
      have hq13 := (hq11.same s12).same s13
      clear e12 e13 n13 s12 s13 hq11
      -- a row's values
      refine g_seq ?_
      walk_at "mfs"
      refine ⟨pA, rfl, ⟨_, seqU eA⟩, ?_⟩
      refine lcgo_listF (xs := vA) (fun D n H' => Same H13 H' ∧ ∃ vs, H' D = some (.lst vs) ∧ vs.length = n ∧ TL H' vs ((rs.map (val row)).take n)) (fun z => rfl) (fun D hD => ⟨same_new hD, [], upd_same, rfl, .nil⟩) (fun D n H' _ h => seqU (h.1 _ _ eA)) (fun D n x H' hD hx h => ?_) (fun pW H14 nW h => ?_)
      · obtain ⟨h1, vs, h2, h3, h4⟩ := h
        obtain ⟨ax, rfl, eax, gx⟩ := (tA.go (Same.kt h1)).get hx
        have hj := (List.getElem?_eq_some_iff.mp hx).1
        have bx := bA.co (by decide) n
        walk_at "mfs"
        refine ⟨pR, ax, wR, row, co rs n, 6, 12, 134, rfl, .inr (tupU (h1 _ _ eR)), tR.go (Same.kt h1), eax, bx, bR, by decide, rb_row bR bx (by omega), by omega, by have := tR.len; omega, fun p14 H15 s15 n15 e15 => ?_⟩
        have eD := s15 _ _ h2
        have kt := upd_kt (o := .lst (vs ++ [.ref p14])) eD
        refine ⟨vs, eD, small1000 (by omega), ?_, vs ++ [.ref p14], upd_same, by rw [List.length_append, h3]; rfl, ?_⟩
        · intro b o e
          rw [upd_ne (ne_of_none e hD)]
          exact s15 _ _ (h1 _ _ e)
        · have gc : (rs.map (val row))[n]? = some (val row (co rs n)) := by rw [List.getElem?_map, gx]; rfl
          rw [take_snoc gc]
          exact ((h4.go (Same.kt s15)).go kt).snoc (kt _ _ e15)
      obtain ⟨s14, vW, eW, lW, tW⟩ := h
      rw [lAr, show rs.length = (rs.map (val row)).length by rw [List.length_map], List.take_length] at tW
      have npW : pW ≠ q := ne_new eqq nW
      have hq14 := hq13.same s14
      have eA := s14 _ _ eA
      have tA := tA.go (Same.kt s14)
      have eV := s14 _ _ eV
      have tV := tV.go (Same.kt s14)
      have eR := s14 _ _ eR
      have tR := tR.go (Same.kt s14)
      have eT := s14 _ _ eT
      have tT := tT.go (Same.kt s14)
      have eqq := s14 _ _ eqq
      clear s14 hq13 nW
      have lRW : rs.length = (rs.map (val row)).length := by rw [List.length_map]
      have bW := rbl_vals bA bR (show row.length ≤ 7 by omega)
      walk_at "mfs"
      refine ⟨q, pA, pW, vA, vW, rs, rs.map (val row), t8, rfl, hq14, by omega, npA, npW, eA, eW, tA, tW, lRW, by omega, bA200, bW.mono (by decide), fun t15 H15 D15 x15 d15 sx15 hq15 l15 u15 n15 nq15 eD15 hd15 ok15 ev15 => ?_⟩
      have kx := sx15.kt hq14
      have eA := sx15 _ _ npA eA
      have tA := tA.go kx
      have eV := sx15 _ _ npV eV
      have tV := tV.go kx
      have eR := sx15 _ _ npR eR
      have tR := tR.go kx
      have eT := sx15 _ _ npT eT
      have tT := tT.go kx
      clear kx
      clear eqq
      obtain ⟨_, _, _, eqq, _⟩ := id hq15
      walk_at "mfs"
      refine thru7_is nq15 (.inl (seqU eD15)) hd15 ok15 ev15 (by decide) (by rw [List.length_zip]; omega) (by rw [fst_zip lRW]; exact nd) (fun z h => bA _ (zip_fst h)) (fun z h => bW _ (zip_snd h)) (by decide) (by decide) trR (by rw [List.length_zip]; omega) (fun z h => vals_ok h) fun p16 H16 w16 s16 n16 e16 t16 => ?_
      have eA := s16 _ _ eA
      have tA := tA.go (Same.kt s16)
      have eV := s16 _ _ eV
      have tV := tV.go (Same.kt s16)
      have eR := s16 _ _ eR
      have tR := tR.go (Same.kt s16)
      have eT := s16 _ _ eT
      have tT := tT.go (Same.kt s16)
      have eqq := s16 _ _ eqq
      walk_at "mfs"
      have shR : ShN 13 197 3 (.tuple (row.map rd)) := shn_poly (n := 12) (L := 7) (by decide) (by decide) bR (by omega)
      refine g_reprS (.tup (tupU e16) t16.dp) shR (by decide) (by decide) (by decide) ?_
      walk_at "mfs"
      refine g_reprS (.tup (tupU eR) tR.dp) shR (by decide) (by decide) (by decide) ?_
      walk_at "mfs"
      have hq16 := hq15.same s16
      clear sx15 hq14 hq15 eD15 hd15 ok15 ev15 n15 nq15 e16 t16 n16 s16 eW tW npW lW
      -- points in another order
      refine g_seq ?_
      walk_at "mfs"
      refine g_lstZip ?_
      walk_at "mfs"
      refine ⟨pA, pV, vA, vV, rfl, seqU eA, seqU eV, by omega, fun H17 pZ cs s17 n17 eZ lcs hcs => ?_⟩
      have eA := s17 _ _ eA
      have tA := tA.go (Same.kt s17)
      have eV := s17 _ _ eV
      have tV := tV.go (Same.kt s17)
      have eR := s17 _ _ eR
      have tR := tR.go (Same.kt s17)
      have eT := s17 _ _ eT
      have tT := tT.go (Same.kt s17)
      have eqq := s17 _ _ eqq
      have tZ : PP H17 (cs.map V.ref) (rs.zip ss) := PP.of_zip tA tV lcs (by omega) hcs
      have hq17 := hq16.same s17
      walk_at "mfs"
      refine ⟨q, pZ, _, rs.zip ss, t15, rfl, hq17, by omega, eZ, tZ, by omega, fun t18 H18 D18 y18 ps sx18 hq18 l18 u18 n18 nq18 eD18 tp18 pm => ?_⟩
      have kx := sx18.kt hq17
      have eA := sx18 _ _ npA eA
      have tA := tA.go kx
      have eV := sx18 _ _ npV eV
      have tV := tV.go kx
      have eR := sx18 _ _ npR eR
      have tR := tR.go kx
      have eT := sx18 _ _ npT eT
      have tT := tT.go kx
      clear kx
      clear eqq
      obtain ⟨_, _, _, eqq, _⟩ := id hq18
      have lpm := pm.length_eq
      walk_at "mfs"
      refine thru7_is nq18 (.inl (seqU eD18)) (PP.data eqq tp18) (rps_ok (n := 12) fun z h => ⟨(hAz z (pm.mem_iff.mp h)).mono (by decide), hBz z (pm.mem_iff.mp h)⟩) (rps_xy ps) (by decide) (by omega) (zip_perm pm ndZ) (fun z h => hAz z (pm.mem_iff.mp h)) (fun z h => hBz z (pm.mem_iff.mp h)) (by decide) (by decide) trT (by rw [lpm, List.length_zip]; omega) (fun z h => vT z (pm.mem_iff.mp h)) fun p19 H19 w19 s19 n19 e19 t19 => ?_
      have eA := s19 _ _ eA
      have tA := tA.go (Same.kt s19)
      have eV := s19 _ _ eV
      have tV := tV.go (Same.kt s19)
      have eR := s19 _ _ eR
      have tR := tR.go (Same.kt s19)
      have eT := s19 _ _ eT
      have tT := tT.go (Same.kt s19)
      have eqq := s19 _ _ eqq
      walk_at "mfs"
      refine g_neSame (.tup (tupU e19) t19.dp) (.tup (tupU eT) tT.dp) shT (by decide) ?_
      walk_at "mfs"
      have hq19 := hq18.same s19
      clear sx18 hq16 hq17 hq18 s17 s19 eZ tZ hcs lcs n17 n18 nq18 eD18 tp18 pm lpm e19 t19 n19
      -- sums
      refine g_seq ?_
      walk_at "mfs"
      refine g_lcZ ?_
      walk_at "mfs"
      refine ⟨pA, pV, vA, vV, rfl, seqU eA, seqU eV, ?_⟩
      refine lcgo_zip (xs := vA) (ys := vV) (fun D n H' => Same H19 H' ∧ ∃ vs, H' D = some (.lst vs) ∧ vs.length = n ∧ TL H' vs ((sumsAt row rs ss).take n)) (by omega) (fun x y => rfl) (fun D hD => ⟨same_new hD, [], upd_same, rfl, .nil⟩) (fun D n H' _ h => ⟨seqU (h.1 _ _ eA), seqU (h.1 _ _ eV)⟩) (fun D n x y T H' hD hx hy h nT => ?_) (fun pB H20 nB h => ?_)
      · obtain ⟨h1, vs, h2, h3, h4⟩ := h
        have sT : Same H' (upd H' T (.tup [x, y])) := same_new nT
        generalize upd H' T (.tup [x, y]) = Ht at *
        have s0 := h1.trans sT
        have hj := (List.getElem?_eq_some_iff.mp hx).1
        obtain ⟨ax, rfl, eax, gx⟩ := (tA.go (Same.kt s0)).get hx
        obtain ⟨ay, rfl, eay, gy⟩ := (tV.go (Same.kt s0)).get hy
        have bx := bA.co (by decide) n
        have by_ := bV.co (by decide) n
        walk_at "mfs"
        refine ⟨pR, ax, wR, row, co rs n, 6, 12, 134, rfl, .inr (tupU (s0 _ _ eR)), tR.go (Same.kt s0), eax, bx, bR, by decide, rb_row bR bx (by omega), by omega, by have := tR.len; omega, fun p14 H15 s15 n15 e15 => ?_⟩
        walk_at "mfs"
        refine ⟨ay, p14, co ss n, val row (co rs n), 12, 134, rfl, s15 _ _ eay, e15, by_, rb_row bR bx (by omega) _ (Nat.le_refl _), by decide, fun p16 H16 s16 n16 e16 => ?_⟩
        have eD := s16 _ _ (s15 _ _ (sT _ _ h2))
        have kt := upd_kt (o := .lst (vs ++ [.ref p16])) eD
        refine ⟨vs, eD, small1000 (by omega), ?_, vs ++ [.ref p16], upd_same, by rw [List.length_append, h3]; rfl, ?_⟩
        · intro b o e
          rw [upd_ne (ne_of_none e hD)]
          exact s16 _ _ (s15 _ _ (s0 _ _ e))
        · rw [take_snoc (get_sumsAt gx gy)]
          exact ((((h4.go (Same.kt sT)).go (Same.kt s15)).go (Same.kt s16)).go kt).snoc (kt _ _ e16)
      obtain ⟨s20, vB, eB, lB, tB⟩ := h
      rw [lAr, show rs.length = (sumsAt row rs ss).length from (len_sumsAt lRS).symm, List.take_length] at tB
      have npB : pB ≠ q := ne_new eqq nB
      have hq20 := hq19.same s20
      have eA := s20 _ _ eA
      have tA := tA.go (Same.kt s20)
      have eV := s20 _ _ eV
      have tV := tV.go (Same.kt s20)
      have eR := s20 _ _ eR
      have tR := tR.go (Same.kt s20)
      have eT := s20 _ _ eT
      have tT := tT.go (Same.kt s20)
      have eqq := s20 _ _ eqq
      clear s20 hq19 nB
      have lRB : rs.length = (sumsAt row rs ss).length := (len_sumsAt lRS).symm
      have bB := rbl_sumsAt bA bV bR (show row.length ≤ 7 by omega)
      walk_at "mfs"
      refine ⟨q, pA, pB, vA, vB, rs, sumsAt row rs ss, t18, rfl, hq20, by omega, npA, npB, eA, eB, tA, tB, lRB, by omega, bA200, bB.mono (by decide), fun t21 H21 D21 x21 d21 sx21 hq21 l21 u21 n21 nq21 eD21 hd21 ok21 ev21 => ?_⟩
      have kx := sx21.kt hq20
      have eA := sx21 _ _ npA eA
      have tA := tA.go kx
      have eV := sx21 _ _ npV eV
      have tV := tV.go kx
      have eR := sx21 _ _ npR eR
      have tR := tR.go kx
      have eT := sx21 _ _ npT eT
      have tT := tT.go kx
      clear kx
      clear eqq
      obtain ⟨_, _, _, eqq, _⟩ := id hq21
      have bS : RbL 858 (trimR (padd told row)) := (rbl_padd bT bR (by decide) (by decide)).trim
      have lS : (trimR (padd told row)).length ≤ rs.length := by
        have h1 := len_trim_le (padd told row)
        have h2 := len_padd told row
        omega
      walk_at "mfs"
      refine thru7_is nq21 (.inl (seqU eD21)) hd21 ok21 ev21 (by decide) (by rw [List.length_zip]; omega) (by rw [fst_zip lRB]; exact nd) (fun z h => bA _ (zip_fst h)) (fun z h => bB _ (zip_snd h)) (by decide) (by decide) (tr_trim _) (by rw [List.length_zip]; omega) (fun z h => sums_ok vT h) fun p22 H22 w22 s22 n22 e22 t22 => ?_
      have eA := s22 _ _ eA
      have tA := tA.go (Same.kt s22)
      have eV := s22 _ _ eV
      have tV := tV.go (Same.kt s22)
      have eR := s22 _ _ eR
      have tR := tR.go (Same.kt s22)
      have eT := s22 _ _ eT
      have tT := tT.go (Same.kt s22)
      have eqq := s22 _ _ eqq
      walk_at "mfs"
      have shS : ShN 859 12041 3 (.tuple ((trimR (padd told row)).map rd)) := shn_poly (n := 858) (L := 7) (by decide) (by decide) bS (by omega)
      have lwR := tR.len
      refine g_reprS (.tup (tupU e22) t22.dp) shS (by decide) (by decide) (by decide) ?_
      walk_at "mfs"
      refine ⟨pT, pR, wT, wR, told, row, 845, 12, rfl, .inr (tupU eT), .inr (tupU eR), tT, tR, bT, bR, by decide, by decide, by decide, by omega, by omega, fun p23 H23 w23 s23 n23 e23 t23 => ?_⟩
      have eA := s23 _ _ eA
      have tA := tA.go (Same.kt s23)
      have eV := s23 _ _ eV
      have tV := tV.go (Same.kt s23)
      have eR := s23 _ _ eR
      have tR := tR.go (Same.kt s23)
      have eT := s23 _ _ eT
      have tT := tT.go (Same.kt s23)
      have eqq := s23 _ _ eqq
      walk_at "mfs"
      refine g_reprS (.tup (tupU e23) t23.dp) shS (by decide) (by decide) (by decide) ?_
      walk_at "mfs"
      refine ⟨q, pT, pR, wT, wR, told.map rd, row.map rd, 845, rfl, npT, npR, .inr (tupU eT), .inr (tupU eR), TL.data eqq tT, TL.data eqq tR, rds_ok bT, rds_ok (bR.mono (by decide)), by decide, by decide, by rw [List.length_map]; omega, by rw [List.length_map]; omega, fun p24 H24 w24 s24 n24 e24 t24 => ?_⟩
      rw [rds_val, rds_val] at t24
      have eA := s24 _ _ eA
      have tA := tA.go (Same.kt s24)
      have eV := s24 _ _ eV
      have tV := tV.go (Same.kt s24)
      have eR := s24 _ _ eR
      have tR := tR.go (Same.kt s24)
      have eT := s24 _ _ eT
      have tT := tT.go (Same.kt s24)
      have eqq := s24 _ _ eqq
      walk_at "mfs"
      refine ⟨pT, pR, wT, wR, told, row, 845, 12, rfl, .inr (tupU eT), .inr (tupU eR), tT, tR, bT, bR, by decide, by decide, by decide, by omega, by omega, fun p25 H25 w25 s25 n25 e25 t25 => ?_⟩
      walk_at "mfs"
      refine g_neSame (.tup (tupU (s25 _ _ e24)) (t24.go (Same.kt s25)).dp) (.tup (tupU e25) t25.dp) shS (by decide) ?_
      walk_at "mfs"
      exact ⟨⟨_, _, _, _, _, _, rfl⟩, t21, (((hq21.same s22).same s23).same s24).same s25, by omega⟩
    · obtain ⟨⟨s2, s3, s4, s5, s6, s7, rfl⟩, t, hq, ht⟩ := hP
      clear hS hlen s1 hq0
      walk_at "mfs"
      refine g_seq ?_
      walk_at "mfs"
      refine ⟨q, t, 40, rfl, hq, by omega, by decide, by decide, fun t2 H2 i sx2 hq2 l2 u2 i0 i1 => ?_⟩
      walk_at "mfs"
      refine g_ite (fun hne => ?_) (fun heq => ?_)
      · walk_at "mfs"
        exact k _
      clear sx2 hq
      walk_at "mfs"
      refine g_seq ?_
      walk_at "mfs"
      refine ⟨6, rfl, by decide, by decide, ?_⟩
      rw [show Int.toNat 6 = 6 from rfl]
      refine lcgo_range (n := 6) (fun D j H' => ∃ t' vs rs, Qy K q t' H' ∧ t' ≤ t2 + (j : Int) ∧ Qn q D H' ∧ H' D = some (.lst vs) ∧ vs.length = j ∧ TL H' vs rs ∧ Iz rs) (fun z => rfl)
        (fun D hD => ⟨_, [], [], hq2.upd (Qn.new hq2 hD) (hq2.ne hD), by omega, Qn.upd hq2 (Qn.new hq2 hD) (hq2.ne hD), upd_same, rfl, .nil, fun r hr => absurd hr List.not_mem_nil⟩) (fun D j H' hD hj h => ?_) (fun D H3 hD h => ?_)
      · obtain ⟨t', vs, rs, hq', ut', hn', eD, lv, tl, nz⟩ := h
        have nD : D ≠ q := hq2.ne hD
        walk_at "mfs"
        refine ⟨q, t', 9, rfl, hq', by omega, by decide, by decide, fun t6 H6 i sx6 hq6 l6 u6 i0 i1 => ?_⟩
        walk_at "mfs"
        refine ⟨i - 4, 1, rfl, by decide, Bt.mono (m := 1) (by show (1 : Int).natAbs < 2 ^ 1; decide) (by decide), fun p H7 s7 n7 e7 => ?_⟩
        have hn6 := hn'.go hq' sx6
        have eD7 := s7 _ _ (sx6 _ _ nD eD)
        have kt := upd_kt (o := .lst (vs ++ [.ref p])) eD7
        have hq7 := hq6.same s7
        have hn7 := hn6.go hq6 (Same.x s7)
        exact ⟨vs, eD7, small1000 (by omega), t6, vs ++ [.ref p], rs ++ [Rat.divInt (i - 4) 1], hq7.upd hn7 nD, by omega, Qn.upd hq7 hn7 nD, upd_same, by rw [List.length_append, lv]; rfl, (((tl.go (sx6.kt hq')).go (Same.kt s7)).go kt).snoc (kt _ _ e7), nz.snoc (by omega) (by omega)⟩
      obtain ⟨t3, v3, r3, hq3, u3, _, e3, l3, t3', iz3⟩ := h
      walk_at "mfs"
      refine ⟨D, v3, r3, rfl, seqU e3, t3', by omega, fun pR H4 wR s4 n4 eR tR => ?_⟩
      have hq4 := hq3.same s4
      have trR := tr_trim r3
      have izR := iz3.trim
      have lR : (trimR r3).length ≤ 6 := by have := len_trim_le r3; have := t3'.len; omega
      generalize trimR r3 = row at *
      clear e3 t3' iz3 hq3 hq2 n4 s4
      obtain ⟨_, _, _, eqq, _⟩ := id hq4
      have lwR := tR.len
      walk_at "mfs"
      refine ⟨40, rfl, by decide, by decide, ?_⟩
      rw [show Int.toNat 40 = 40 from rfl]
      refine lcgo_range (n := 40) (fun D j H' => Same H4 H' ∧ ∃ vs, H' D = some (.lst vs) ∧ vs.length = j ∧ IP H' 0 vs ((vals40 row).take j)) (fun z => rfl)
        (fun D hD => ⟨same_new hD, [], upd_same, rfl, .nil 0⟩) (fun D j H' hD hj h => ?_) (fun pZ H5 nZ h => ?_)
      · obtain ⟨h1, vs, h2, h3, h4⟩ := h
        rw [show (0 : Int) + (j : Int) = (j : Int) by omega]
        walk_at "mfs"
        refine g_newT (by show 2 ≤ sizeLine; decide) fun p6 H6 n6 s6 e6 => ?_
        have bj : Rb 6 (ri j) := Rb.of (by decide) (by show (j : Int).natAbs < 2 ^ 6; omega) (by show (1 : Int).natAbs < 2 ^ 6; decide)
        have e6 : H6 p6 = some (.tup (rv (ri j))) := by rw [show rv (ri j) = [.int (j : Int), .int 1] from rv_int _]; exact e6
        have s16 := h1.trans s6
        walk_at "mfs"
        refine ⟨pR, p6, wR, row, ri j, 6, 3, 61, rfl, .inr (tupU (s16 _ _ eR)), tR.go (Same.kt s16), e6, bj, izR.rb, by decide, fun i hi => (rb_val izR.rb (by decide) bj i).mono (by omega), by omega, by omega, fun p7 H7 s7 n7 e7 => ?_⟩
        walk_at "mfs"
        refine g_newT (by show 2 ≤ sizeLine; decide) fun p8 H8 n8 s8 e8 => ?_
        have sA := (s16.trans s7).trans s8
        have eD := s8 _ _ (s7 _ _ (s6 _ _ h2))
        have kt := upd_kt (o := .lst (vs ++ [.ref p8])) eD
        refine ⟨vs, eD, small1000 (by omega), ?_, vs ++ [.ref p8], upd_same, by rw [List.length_append, h3]; rfl, ?_⟩
        · intro b o e
          rw [upd_ne (ne_of_none e hD)]
          exact sA _ _ e
        · have gc : (vals40 row)[j]? = some (val row (ri j)) := by
            unfold vals40
            rw [List.getElem?_map, List.getElem?_range hj]
            rfl
          rw [take_snoc gc]
          refine IP.snoc (j := j) (kt _ _ e8) (kt _ _ (s8 _ _ e7)) (((h4.go (Same.kt ((s6.trans s7).trans s8))).go kt)) ?_
          rw [List.length_take, len_vals40]
          omega
      obtain ⟨s5, vs, eZ, lZ, tZ⟩ := h
      rw [show (40 : Nat) = (vals40 row).length from (len_vals40 row).symm, List.take_length] at tZ
      have npZ : pZ ≠ q := ne_new eqq nZ
      walk_at "mfs"
      refine thru40 npZ (seqU eZ) (s5 _ _ eqq) tZ izR trR lR fun p6 H6 w6 s6 n6 e6 t6 => ?_
      walk_at "mfs"
      have shR := shn_poly (n := 3) (L := 7) (by decide) (by decide) izR.rb (show row.length ≤ 7 by omega)
      refine g_eqSame (.tup (tupU e6) t6.dp) (.tup (tupU (s6 _ _ (s5 _ _ eR))) ((tR.go (Same.kt s5)).go (Same.kt s6)).dp) shR (by decide) ?_
      walk_at "mfs"
      exact k _
end Mf
namespace Mf
open PySem PySem.Spec PyProof.Rows L2
local macro_rules | `(tactic| walk_at "mf1") => `(tactic| first
  | ((with_reducible apply g_var); exact rfl)
  | with_reducible first
    | refine g_c ?_ | refine g_op ?_ | refine g_un ?_ | refine g_cb ?_ | refine g_cl ?_ | refine g_clk ?_ | refine g_nil ?_ | refine g_cons ?_
    | refine g_tB ?_ | refine g_test ?_ | refine g_bl ?_ | refine g_and ?_ | refine g_or ?_ | refine g_not ?_ | refine g_andV ?_ | refine g_orV ?_ | refine g_notV ?_
    | refine g_if ?_ | refine g_ifS ?_ | refine g_seq ?_ | refine g_next ?_ | refine g_ret ?_ | refine g_drop ?_ | refine g_asg ?_ | refine g_name ?_ | refine g_sub ?_
    | refine g_int ?_ | refine g_intB ?_ | refine g_abs ?_ | refine g_I0 ?_ | refine g_addI ?_ | refine g_U ?_ | refine g_isNn ?_ | refine g_isNi ?_ | refine g_notN ?_ | refine g_notT1 ?_ | refine g_notT2 ?_ | refine g_notT3 ?_ | refine g_notT4 ?_ | refine g_notTb ?_ | refine g_notTi ?_ | refine g_eqI ?_ | refine g_neI ?_ | refine g_neSs ?_ | refine g_neS ?_ | refine g_eqS ?_
    | refine g_iteT ?_ | refine g_iteF ?_ | refine g_iteNT ?_ | refine g_iteNF ?_ | refine g_lst ?_ | refine g_tup ?_ | refine g_seqP ?_ | refine g_sl ?_ | refine g_noPart ?_ | refine g_part ?_ | refine g_yes ?_ | refine g_thenT ?_ | refine g_consG ?_ | refine g_nilG ?_ | refine g_ii ?_ | refine g_par ?_ | refine g_par3 ?_ | refine g_vv ?_ | refine g_vvv ?_ | refine g_reprB ?_ | refine g_lcL ?_ | refine g_lcR ?_
  | ((with_reducible refine g_mod ?_ ?_); (first | omega | decide))
  | ((with_reducible refine g_div ?_ ?_ ?_); (first | omega | decide); (first | assumption | decide))
  | ((with_reducible refine g_mulL ?_ ?_ ?_); (first | omega | decide); (first | omega | decide))
  | ((with_reducible refine g_mulR ?_ ?_ ?_); (first | omega | decide); (first | omega | decide))
  | ((with_reducible refine g_pow ?_ ?_ ?_ ?_); decide; decide; (first | omega | decide))
  | dsimp only)
local macro_rules | `(tactic| walk_at "mf1s") => `(tactic| first
  | ((with_reducible apply g_var); exact rfl)
  | with_reducible first
    | refine g_c ?_ | refine g_op ?_ | refine g_un ?_ | refine g_cb ?_ | refine g_cl ?_ | refine g_clk ?_ | refine g_nil ?_ | refine g_cons ?_
    | refine g_tB ?_ | refine g_test ?_ | refine g_bl ?_ | refine g_and ?_ | refine g_or ?_ | refine g_not ?_ | refine g_andV ?_ | refine g_orV ?_ | refine g_notV ?_
    | refine g_if ?_ | refine g_ifS ?_ | refine g_next ?_ | refine g_ret ?_ | refine g_drop ?_ | refine g_asg ?_ | refine g_name ?_ | refine g_sub ?_
    | refine g_int ?_ | refine g_intB ?_ | refine g_abs ?_ | refine g_I0 ?_ | refine g_addI ?_ | refine g_U ?_ | refine g_isNn ?_ | refine g_isNi ?_ | refine g_notN ?_ | refine g_notT1 ?_ | refine g_notT2 ?_ | refine g_notT3 ?_ | refine g_notT4 ?_ | refine g_notTb ?_ | refine g_notTi ?_ | refine g_eqI ?_ | refine g_neI ?_ | refine g_neSs ?_ | refine g_neS ?_ | refine g_eqS ?_
    | refine g_iteT ?_ | refine g_iteF ?_ | refine g_iteNT ?_ | refine g_iteNF ?_ | refine g_lst ?_ | refine g_tup ?_ | refine g_seqP ?_ | refine g_sl ?_ | refine g_noPart ?_ | refine g_part ?_ | refine g_yes ?_ | refine g_thenT ?_ | refine g_consG ?_ | refine g_nilG ?_ | refine g_ii ?_ | refine g_par ?_ | refine g_par3 ?_ | refine g_vv ?_ | refine g_vvv ?_ | refine g_reprB ?_ | refine g_lcL ?_ | refine g_lcR ?_
  | ((with_reducible refine g_mod ?_ ?_); (first | omega | decide))
  | ((with_reducible refine g_div ?_ ?_ ?_); (first | omega | decide); (first | assumption | decide))
  | ((with_reducible refine g_mulL ?_ ?_ ?_); (first | omega | decide); (first | omega | decide))
  | ((with_reducible refine g_mulR ?_ ?_ ?_); (first | omega | decide); (first | omega | decide))
  | ((with_reducible refine g_pow ?_ ?_ ?_ ?_); decide; decide; (first | omega | decide))
  | dsimp only)
local macro_rules | `(tactic| walk_at "mfs") => `(tactic| repeat walk_at "mf1s")
local macro_rules | `(tactic| walk_at "mf") => `(tactic| repeat walk_at "mf1")
local macro_rules | `(tactic| walk_at "ed") => `(tactic| repeat (first
  | with_reducible first
    | exact eds_nil | apply eds_cons | exact ed_int | exact ed_bl | exact ed_non | apply ed_neg
  | ((with_reducible apply ed_str); decide)
  | ((with_reducible apply ed_var); (exact rfl); (first | assumption | exact Dq.int _))
  | ((with_reducible apply ed_dict0); assumption)
  | ((with_reducible apply ed_dict2); assumption)
  | ((with_reducible apply ed_tup); assumption)
  | ((with_reducible apply ed_lst); assumption)
  | (with_reducible apply ed_pow)
  | (with_reducible apply ed_mul)
  | assumption
  | (exact Dq.int _)
  | (exact ⟨by decide, by decide, by decide⟩)
  | (show List.length _ ≤ 1000; simp only [List.length_cons, List.length_nil]; decide)))
theorem de_mk {P : Program} {w : World} {K : PySem.W.Frag} {h b : Heap} {mg : Str → Option Value} {x : Str} {st : Stmt} {f : Addr} {od an : Option Addr} {sl : Array (Option Value)} {oc kV dc pm cd ct : Value} (X : K.In h) (G : h.Ns mainGlobals mg)
    (a : PySem.W.nsIn K mainGlobals x = some (some (.ref f))) (l : K.lookup f = some ⟨oc, od, .func (PySem.W.fnOf x x (defArgs st) (defBody st) (defScope st) .none kV dc pm an cd ct), sl⟩)
    (c : PySem.W.codeIn K cd x = true) (k : PySem.W.keepIn K (.ref f) = true) : De ⟨P, w, K, mg, b⟩ x st := ⟨f, _, PySem.W.mg_of X G a, fun_mk l c k⟩
theorem end_mk {P : Program} {w : World} {K : PySem.W.Frag} {h : Heap} {mg : Str → Option Value} {fa : Addr} (hmg : mg "law" = some (.ref fa)) (T : ∀ base : Heap, Tx ⟨P, w, K, mg, base⟩) :
    ∃ fd : FuncData, (∀ (s : Shared) (u : Value), BindsTo s fd ⟨[u], []⟩ [("script", u)]) ∧ ∀ base : Heap, K.In base → base.Ns mainGlobals mg → FnG P w K mg base CX0 8 fa fd ["script"] (sp_law K) := by
  obtain ⟨f, fd, hm, F⟩ := (T h).d_law.ex
  have e : f = fa := by
    have e := hm.symm.trans hmg
    cases e
    rfl
  subst e
  refine ⟨fd, fun s u => ?_, fun base _ _ => ?_⟩
  · obtain ⟨oc, od, kV, doc, pm, an, cdv, ct, osl, rfl, lk, hcd⟩ := F.ex
    exact .of_eq (pl_law kV doc pm an cdv ct [u] rfl)
  · obtain ⟨f2, fd2, F2, hm2, W2⟩ := (ok_law ⟨P, w, K, mg, base⟩ (T base)).ex
    have e2 : f2 = f := by
      have e := hm2.symm.trans hm
      cases e
      rfl
    subst e2
    obtain ⟨oc, od, kV, doc, pm, an, cdv, ct, osl, rfl, lk, hcd⟩ := F.ex
    obtain ⟨oc', od', kV', doc', pm', an', cdv', ct', osl', rfl, lk', hcd'⟩ := W2.ex
    rw [lk] at lk'
    cases lk'
    exact F2
theorem all_mk {P : Program} {w : World} {K : PySem.W.Frag} {h : Heap} {mg : Str → Option Value} {fa : Addr} (X : K.In h) (G : h.Ns mainGlobals mg) (hmg : mg "law" = some (.ref fa))
    {f0 f1 f2 f3 f4 f5 f6 f7 f8 f9 f10 f11 f12 f13 f14 f15 f16 f17 f18 f19 f20 f21 f22 f23 f24 f25 f26 f27 f28 f29 f30 f31 f32 f33 f34 f35 f36 f37 : Addr} {od0 an0 od1 an1 od2 an2 od3 an3 od4 an4 od5 an5 od6 an6 od7 an7 od8 an8 od9 an9 od10 an10 od11 an11 od12 an12 od13 an13 od14 an14 od15 an15 od16 an16 od17 an17 od18 an18 od19 an19 od20 an20 od21 an21 od22 an22 od23 an23 od24 an24 od25 an25 od26 an26 od27 an27 od28 an28 od29 an29 od30 an30 od31 an31 od32 an32 od33 an33 od34 an34 od35 an35 od36 an36 od37 an37 : Option Addr} {sl0 sl1 sl2 sl3 sl4 sl5 sl6 sl7 sl8 sl9 sl10 sl11 sl12 sl13 sl14 sl15 sl16 sl17 sl18 sl19 sl20 sl21 sl22 sl23 sl24 sl25 sl26 sl27 sl28 sl29 sl30 sl31 sl32 sl33 sl34 sl35 sl36 sl37 : Array (Option Value)} {oc0 kV0 dc0 pm0 cd0 ct0 oc1 kV1 dc1 pm1 cd1 ct1 oc2 kV2 dc2 pm2 cd2 ct2 oc3 kV3 dc3 pm3 cd3 ct3 oc4 kV4 dc4 pm4 cd4 ct4 oc5 kV5 dc5 pm5 cd5 ct5 oc6 kV6 dc6 pm6 cd6 ct6 oc7 kV7 dc7 pm7 cd7 ct7 oc8 kV8 dc8 pm8 cd8 ct8 oc9 kV9 dc9 pm9 cd9 ct9 oc10 kV10 dc10 pm10 cd10 ct10 oc11 kV11 dc11 pm11 cd11 ct11 oc12 kV12 dc12 pm12 cd12 ct12 oc13 kV13 dc13 pm13 cd13 ct13 oc14 kV14 dc14 pm14 cd14 ct14 oc15 kV15 dc15 pm15 cd15 ct15 oc16 kV16 dc16 pm16 cd16 ct16 oc17 kV17 dc17 pm17 cd17 ct17 oc18 kV18 dc18 pm18 cd18 ct18 oc19 kV19 dc19 pm19 cd19 ct19 oc20 kV20 dc20 pm20 cd20 ct20 oc21 kV21 dc21 pm21 cd21 ct21 oc22 kV22 dc22 pm22 cd22 ct22 oc23 kV23 dc23 pm23 cd23 ct23 oc24 kV24 dc24 pm24 cd24 ct24 oc25 kV25 dc25 pm25 cd25 ct25 oc26 kV26 dc26 pm26 cd26 ct26 oc27 kV27 dc27 pm27 cd27 ct27 oc28 kV28 dc28 pm28 cd28 ct28 oc29 kV29 dc29 pm29 cd29 ct29 oc30 kV30 dc30 pm30 cd30 ct30 oc31 kV31 dc31 pm31 cd31 ct31 oc32 kV32 dc32 pm32 cd32 ct32 oc33 kV33 dc33 pm33 cd33 ct33 oc34 kV34 dc34 pm34 cd34 ct34 oc35 kV35 dc35 pm35 cd35 ct35 oc36 kV36 dc36 pm36 cd36 ct36 oc37 kV37 dc37 pm37 cd37 ct37 : Value}
    (a0 : PySem.W.nsIn K mainGlobals "is_integer" = some (some (.ref f0))) (l0 : K.lookup f0 = some ⟨oc0, od0, .func (PySem.W.fnOf "is_integer" "is_integer" (defArgs s_is_integer) (defBody s_is_integer) (defScope s_is_integer) .none kV0 dc0 pm0 an0 cd0 ct0), sl0⟩) (c0 : PySem.W.codeIn K cd0 "is_integer" = true) (k0 : PySem.W.keepIn K (.ref f0) = true)
    (a1 : PySem.W.nsIn K mainGlobals "is_within" = some (some (.ref f1))) (l1 : K.lookup f1 = some ⟨oc1, od1, .func (PySem.W.fnOf "is_within" "is_within" (defArgs s_is_within) (defBody s_is_within) (defScope s_is_within) .none kV1 dc1 pm1 an1 cd1 ct1), sl1⟩) (c1 : PySem.W.codeIn K cd1 "is_within" = true) (k1 : PySem.W.keepIn K (.ref f1) = true)
    (a2 : PySem.W.nsIn K mainGlobals "is_list" = some (some (.ref f2))) (l2 : K.lookup f2 = some ⟨oc2, od2, .func (PySem.W.fnOf "is_list" "is_list" (defArgs s_is_list) (defBody s_is_list) (defScope s_is_list) .none kV2 dc2 pm2 an2 cd2 ct2), sl2⟩) (c2 : PySem.W.codeIn K cd2 "is_list" = true) (k2 : PySem.W.keepIn K (.ref f2) = true)
    (a3 : PySem.W.nsIn K mainGlobals "is_fraction" = some (some (.ref f3))) (l3 : K.lookup f3 = some ⟨oc3, od3, .func (PySem.W.fnOf "is_fraction" "is_fraction" (defArgs s_is_fraction) (defBody s_is_fraction) (defScope s_is_fraction) .none kV3 dc3 pm3 an3 cd3 ct3), sl3⟩) (c3 : PySem.W.codeIn K cd3 "is_fraction" = true) (k3 : PySem.W.keepIn K (.ref f3) = true)
    (a4 : PySem.W.nsIn K mainGlobals "is_place" = some (some (.ref f4))) (l4 : K.lookup f4 = some ⟨oc4, od4, .func (PySem.W.fnOf "is_place" "is_place" (defArgs s_is_place) (defBody s_is_place) (defScope s_is_place) .none kV4 dc4 pm4 an4 cd4 ct4), sl4⟩) (c4 : PySem.W.codeIn K cd4 "is_place" = true) (k4 : PySem.W.keepIn K (.ref f4) = true)
    (a5 : PySem.W.nsIn K mainGlobals "reduced" = some (some (.ref f5))) (l5 : K.lookup f5 = some ⟨oc5, od5, .func (PySem.W.fnOf "reduced" "reduced" (defArgs s_reduced) (defBody s_reduced) (defScope s_reduced) .none kV5 dc5 pm5 an5 cd5 ct5), sl5⟩) (c5 : PySem.W.codeIn K cd5 "reduced" = true) (k5 : PySem.W.keepIn K (.ref f5) = true)
    (a6 : PySem.W.nsIn K mainGlobals "read_fraction" = some (some (.ref f6))) (l6 : K.lookup f6 = some ⟨oc6, od6, .func (PySem.W.fnOf "read_fraction" "read_fraction" (defArgs s_read_fraction) (defBody s_read_fraction) (defScope s_read_fraction) .none kV6 dc6 pm6 an6 cd6 ct6), sl6⟩) (c6 : PySem.W.codeIn K cd6 "read_fraction" = true) (k6 : PySem.W.keepIn K (.ref f6) = true)
    (a7 : PySem.W.nsIn K mainGlobals "over_one_down" = some (some (.ref f7))) (l7 : K.lookup f7 = some ⟨oc7, od7, .func (PySem.W.fnOf "over_one_down" "over_one_down" (defArgs s_over_one_down) (defBody s_over_one_down) (defScope s_over_one_down) .none kV7 dc7 pm7 an7 cd7 ct7), sl7⟩) (c7 : PySem.W.codeIn K cd7 "over_one_down" = true) (k7 : PySem.W.keepIn K (.ref f7) = true)
    (a8 : PySem.W.nsIn K mainGlobals "fraction_of" = some (some (.ref f8))) (l8 : K.lookup f8 = some ⟨oc8, od8, .func (PySem.W.fnOf "fraction_of" "fraction_of" (defArgs s_fraction_of) (defBody s_fraction_of) (defScope s_fraction_of) .none kV8 dc8 pm8 an8 cd8 ct8), sl8⟩) (c8 : PySem.W.codeIn K cd8 "fraction_of" = true) (k8 : PySem.W.keepIn K (.ref f8) = true)
    (a9 : PySem.W.nsIn K mainGlobals "added" = some (some (.ref f9))) (l9 : K.lookup f9 = some ⟨oc9, od9, .func (PySem.W.fnOf "added" "added" (defArgs s_added) (defBody s_added) (defScope s_added) .none kV9 dc9 pm9 an9 cd9 ct9), sl9⟩) (c9 : PySem.W.codeIn K cd9 "added" = true) (k9 : PySem.W.keepIn K (.ref f9) = true)
    (a10 : PySem.W.nsIn K mainGlobals "multiplied" = some (some (.ref f10))) (l10 : K.lookup f10 = some ⟨oc10, od10, .func (PySem.W.fnOf "multiplied" "multiplied" (defArgs s_multiplied) (defBody s_multiplied) (defScope s_multiplied) .none kV10 dc10 pm10 an10 cd10 ct10), sl10⟩) (c10 : PySem.W.codeIn K cd10 "multiplied" = true) (k10 : PySem.W.keepIn K (.ref f10) = true)
    (a11 : PySem.W.nsIn K mainGlobals "divided" = some (some (.ref f11))) (l11 : K.lookup f11 = some ⟨oc11, od11, .func (PySem.W.fnOf "divided" "divided" (defArgs s_divided) (defBody s_divided) (defScope s_divided) .none kV11 dc11 pm11 an11 cd11 ct11), sl11⟩) (c11 : PySem.W.codeIn K cd11 "divided" = true) (k11 : PySem.W.keepIn K (.ref f11) = true)
    (a12 : PySem.W.nsIn K mainGlobals "trimmed" = some (some (.ref f12))) (l12 : K.lookup f12 = some ⟨oc12, od12, .func (PySem.W.fnOf "trimmed" "trimmed" (defArgs s_trimmed) (defBody s_trimmed) (defScope s_trimmed) .none kV12 dc12 pm12 an12 cd12 ct12), sl12⟩) (c12 : PySem.W.codeIn K cd12 "trimmed" = true) (k12 : PySem.W.keepIn K (.ref f12) = true)
    (a13 : PySem.W.nsIn K mainGlobals "is_poly" = some (some (.ref f13))) (l13 : K.lookup f13 = some ⟨oc13, od13, .func (PySem.W.fnOf "is_poly" "is_poly" (defArgs s_is_poly) (defBody s_is_poly) (defScope s_is_poly) .none kV13 dc13 pm13 an13 cd13 ct13), sl13⟩) (c13 : PySem.W.codeIn K cd13 "is_poly" = true) (k13 : PySem.W.keepIn K (.ref f13) = true)
    (a14 : PySem.W.nsIn K mainGlobals "read_poly" = some (some (.ref f14))) (l14 : K.lookup f14 = some ⟨oc14, od14, .func (PySem.W.fnOf "read_poly" "read_poly" (defArgs s_read_poly) (defBody s_read_poly) (defScope s_read_poly) .none kV14 dc14 pm14 an14 cd14 ct14), sl14⟩) (c14 : PySem.W.codeIn K cd14 "read_poly" = true) (k14 : PySem.W.keepIn K (.ref f14) = true)
    (a15 : PySem.W.nsIn K mainGlobals "value_at" = some (some (.ref f15))) (l15 : K.lookup f15 = some ⟨oc15, od15, .func (PySem.W.fnOf "value_at" "value_at" (defArgs s_value_at) (defBody s_value_at) (defScope s_value_at) .none kV15 dc15 pm15 an15 cd15 ct15), sl15⟩) (c15 : PySem.W.codeIn K cd15 "value_at" = true) (k15 : PySem.W.keepIn K (.ref f15) = true)
    (a16 : PySem.W.nsIn K mainGlobals "poly_sum" = some (some (.ref f16))) (l16 : K.lookup f16 = some ⟨oc16, od16, .func (PySem.W.fnOf "poly_sum" "poly_sum" (defArgs s_poly_sum) (defBody s_poly_sum) (defScope s_poly_sum) .none kV16 dc16 pm16 an16 cd16 ct16), sl16⟩) (c16 : PySem.W.codeIn K cd16 "poly_sum" = true) (k16 : PySem.W.keepIn K (.ref f16) = true)
    (a17 : PySem.W.nsIn K mainGlobals "read_points" = some (some (.ref f17))) (l17 : K.lookup f17 = some ⟨oc17, od17, .func (PySem.W.fnOf "read_points" "read_points" (defArgs s_read_points) (defBody s_read_points) (defScope s_read_points) .none kV17 dc17 pm17 an17 cd17 ct17), sl17⟩) (c17 : PySem.W.codeIn K cd17 "read_points" = true) (k17 : PySem.W.keepIn K (.ref f17) = true)
    (a18 : PySem.W.nsIn K mainGlobals "times_factor" = some (some (.ref f18))) (l18 : K.lookup f18 = some ⟨oc18, od18, .func (PySem.W.fnOf "times_factor" "times_factor" (defArgs s_times_factor) (defBody s_times_factor) (defScope s_times_factor) .none kV18 dc18 pm18 an18 cd18 ct18), sl18⟩) (c18 : PySem.W.codeIn K cd18 "times_factor" = true) (k18 : PySem.W.keepIn K (.ref f18) = true)
    (a19 : PySem.W.nsIn K mainGlobals "without_factor" = some (some (.ref f19))) (l19 : K.lookup f19 = some ⟨oc19, od19, .func (PySem.W.fnOf "without_factor" "without_factor" (defArgs s_without_factor) (defBody s_without_factor) (defScope s_without_factor) .none kV19 dc19 pm19 an19 cd19 ct19), sl19⟩) (c19 : PySem.W.codeIn K cd19 "without_factor" = true) (k19 : PySem.W.keepIn K (.ref f19) = true)
    (a20 : PySem.W.nsIn K mainGlobals "share_at" = some (some (.ref f20))) (l20 : K.lookup f20 = some ⟨oc20, od20, .func (PySem.W.fnOf "share_at" "share_at" (defArgs s_share_at) (defBody s_share_at) (defScope s_share_at) .none kV20 dc20 pm20 an20 cd20 ct20), sl20⟩) (c20 : PySem.W.codeIn K cd20 "share_at" = true) (k20 : PySem.W.keepIn K (.ref f20) = true)
    (a21 : PySem.W.nsIn K mainGlobals "poly_through" = some (some (.ref f21))) (l21 : K.lookup f21 = some ⟨oc21, od21, .func (PySem.W.fnOf "poly_through" "poly_through" (defArgs s_poly_through) (defBody s_poly_through) (defScope s_poly_through) .none kV21 dc21 pm21 an21 cd21 ct21), sl21⟩) (c21 : PySem.W.codeIn K cd21 "poly_through" = true) (k21 : PySem.W.keepIn K (.ref f21) = true)
    (a22 : PySem.W.nsIn K mainGlobals "_law_ropewalk" = some (some (.ref f22))) (l22 : K.lookup f22 = some ⟨oc22, od22, .func (PySem.W.fnOf "_law_ropewalk" "_law_ropewalk" (defArgs s__law_ropewalk) (defBody s__law_ropewalk) (defScope s__law_ropewalk) .none kV22 dc22 pm22 an22 cd22 ct22), sl22⟩) (c22 : PySem.W.codeIn K cd22 "_law_ropewalk" = true) (k22 : PySem.W.keepIn K (.ref f22) = true)
    (a23 : PySem.W.nsIn K mainGlobals "_law_knot" = some (some (.ref f23))) (l23 : K.lookup f23 = some ⟨oc23, od23, .func (PySem.W.fnOf "_law_knot" "_law_knot" (defArgs s__law_knot) (defBody s__law_knot) (defScope s__law_knot) .none kV23 dc23 pm23 an23 cd23 ct23), sl23⟩) (c23 : PySem.W.codeIn K cd23 "_law_knot" = true) (k23 : PySem.W.keepIn K (.ref f23) = true)
    (a24 : PySem.W.nsIn K mainGlobals "_law_pick" = some (some (.ref f24))) (l24 : K.lookup f24 = some ⟨oc24, od24, .func (PySem.W.fnOf "_law_pick" "_law_pick" (defArgs s__law_pick) (defBody s__law_pick) (defScope s__law_pick) .none kV24 dc24 pm24 an24 cd24 ct24), sl24⟩) (c24 : PySem.W.codeIn K cd24 "_law_pick" = true) (k24 : PySem.W.keepIn K (.ref f24) = true)
    (a25 : PySem.W.nsIn K mainGlobals "_law_low" = some (some (.ref f25))) (l25 : K.lookup f25 = some ⟨oc25, od25, .func (PySem.W.fnOf "_law_low" "_law_low" (defArgs s__law_low) (defBody s__law_low) (defScope s__law_low) .none kV25 dc25 pm25 an25 cd25 ct25), sl25⟩) (c25 : PySem.W.codeIn K cd25 "_law_low" = true) (k25 : PySem.W.keepIn K (.ref f25) = true)
    (a26 : PySem.W.nsIn K mainGlobals "_law_plus" = some (some (.ref f26))) (l26 : K.lookup f26 = some ⟨oc26, od26, .func (PySem.W.fnOf "_law_plus" "_law_plus" (defArgs s__law_plus) (defBody s__law_plus) (defScope s__law_plus) .none kV26 dc26 pm26 an26 cd26 ct26), sl26⟩) (c26 : PySem.W.codeIn K cd26 "_law_plus" = true) (k26 : PySem.W.keepIn K (.ref f26) = true)
    (a27 : PySem.W.nsIn K mainGlobals "_law_times" = some (some (.ref f27))) (l27 : K.lookup f27 = some ⟨oc27, od27, .func (PySem.W.fnOf "_law_times" "_law_times" (defArgs s__law_times) (defBody s__law_times) (defScope s__law_times) .none kV27 dc27 pm27 an27 cd27 ct27), sl27⟩) (c27 : PySem.W.codeIn K cd27 "_law_times" = true) (k27 : PySem.W.keepIn K (.ref f27) = true)
    (a28 : PySem.W.nsIn K mainGlobals "_law_fraction" = some (some (.ref f28))) (l28 : K.lookup f28 = some ⟨oc28, od28, .func (PySem.W.fnOf "_law_fraction" "_law_fraction" (defArgs s__law_fraction) (defBody s__law_fraction) (defScope s__law_fraction) .none kV28 dc28 pm28 an28 cd28 ct28), sl28⟩) (c28 : PySem.W.codeIn K cd28 "_law_fraction" = true) (k28 : PySem.W.keepIn K (.ref f28) = true)
    (a29 : PySem.W.nsIn K mainGlobals "_law_as" = some (some (.ref f29))) (l29 : K.lookup f29 = some ⟨oc29, od29, .func (PySem.W.fnOf "_law_as" "_law_as" (defArgs s__law_as) (defBody s__law_as) (defScope s__law_as) .none kV29 dc29 pm29 an29 cd29 ct29), sl29⟩) (c29 : PySem.W.codeIn K cd29 "_law_as" = true) (k29 : PySem.W.keepIn K (.ref f29) = true)
    (a30 : PySem.W.nsIn K mainGlobals "_law_trimmed" = some (some (.ref f30))) (l30 : K.lookup f30 = some ⟨oc30, od30, .func (PySem.W.fnOf "_law_trimmed" "_law_trimmed" (defArgs s__law_trimmed) (defBody s__law_trimmed) (defScope s__law_trimmed) .none kV30 dc30 pm30 an30 cd30 ct30), sl30⟩) (c30 : PySem.W.codeIn K cd30 "_law_trimmed" = true) (k30 : PySem.W.keepIn K (.ref f30) = true)
    (a31 : PySem.W.nsIn K mainGlobals "_law_value" = some (some (.ref f31))) (l31 : K.lookup f31 = some ⟨oc31, od31, .func (PySem.W.fnOf "_law_value" "_law_value" (defArgs s__law_value) (defBody s__law_value) (defScope s__law_value) .none kV31 dc31 pm31 an31 cd31 ct31), sl31⟩) (c31 : PySem.W.codeIn K cd31 "_law_value" = true) (k31 : PySem.W.keepIn K (.ref f31) = true)
    (a32 : PySem.W.nsIn K mainGlobals "_law_row" = some (some (.ref f32))) (l32 : K.lookup f32 = some ⟨oc32, od32, .func (PySem.W.fnOf "_law_row" "_law_row" (defArgs s__law_row) (defBody s__law_row) (defScope s__law_row) .none kV32 dc32 pm32 an32 cd32 ct32), sl32⟩) (c32 : PySem.W.codeIn K cd32 "_law_row" = true) (k32 : PySem.W.keepIn K (.ref f32) = true)
    (a33 : PySem.W.nsIn K mainGlobals "_law_sum" = some (some (.ref f33))) (l33 : K.lookup f33 = some ⟨oc33, od33, .func (PySem.W.fnOf "_law_sum" "_law_sum" (defArgs s__law_sum) (defBody s__law_sum) (defScope s__law_sum) .none kV33 dc33 pm33 an33 cd33 ct33), sl33⟩) (c33 : PySem.W.codeIn K cd33 "_law_sum" = true) (k33 : PySem.W.keepIn K (.ref f33) = true)
    (a34 : PySem.W.nsIn K mainGlobals "_law_ats" = some (some (.ref f34))) (l34 : K.lookup f34 = some ⟨oc34, od34, .func (PySem.W.fnOf "_law_ats" "_law_ats" (defArgs s__law_ats) (defBody s__law_ats) (defScope s__law_ats) .none kV34 dc34 pm34 an34 cd34 ct34), sl34⟩) (c34 : PySem.W.codeIn K cd34 "_law_ats" = true) (k34 : PySem.W.keepIn K (.ref f34) = true)
    (a35 : PySem.W.nsIn K mainGlobals "_law_stirred" = some (some (.ref f35))) (l35 : K.lookup f35 = some ⟨oc35, od35, .func (PySem.W.fnOf "_law_stirred" "_law_stirred" (defArgs s__law_stirred) (defBody s__law_stirred) (defScope s__law_stirred) .none kV35 dc35 pm35 an35 cd35 ct35), sl35⟩) (c35 : PySem.W.codeIn K cd35 "_law_stirred" = true) (k35 : PySem.W.keepIn K (.ref f35) = true)
    (a36 : PySem.W.nsIn K mainGlobals "_law_points" = some (some (.ref f36))) (l36 : K.lookup f36 = some ⟨oc36, od36, .func (PySem.W.fnOf "_law_points" "_law_points" (defArgs s__law_points) (defBody s__law_points) (defScope s__law_points) .none kV36 dc36 pm36 an36 cd36 ct36), sl36⟩) (c36 : PySem.W.codeIn K cd36 "_law_points" = true) (k36 : PySem.W.keepIn K (.ref f36) = true)
    (a37 : PySem.W.nsIn K mainGlobals "law" = some (some (.ref f37))) (l37 : K.lookup f37 = some ⟨oc37, od37, .func (PySem.W.fnOf "law" "law" (defArgs s_law) (defBody s_law) (defScope s_law) .none kV37 dc37 pm37 an37 cd37 ct37), sl37⟩) (c37 : PySem.W.codeIn K cd37 "law" = true) (k37 : PySem.W.keepIn K (.ref f37) = true)
    (z0 : PySem.W.nsIn K mainGlobals "abs" = some none)
    (z1 : PySem.W.nsIn K mainGlobals "all" = some none)
    (z2 : PySem.W.nsIn K mainGlobals "bool" = some none)
    (z3 : PySem.W.nsIn K mainGlobals "enumerate" = some none)
    (z4 : PySem.W.nsIn K mainGlobals "int" = some none)
    (z5 : PySem.W.nsIn K mainGlobals "isinstance" = some none)
    (z6 : PySem.W.nsIn K mainGlobals "len" = some none)
    (z7 : PySem.W.nsIn K mainGlobals "list" = some none)
    (z8 : PySem.W.nsIn K mainGlobals "max" = some none)
    (z9 : PySem.W.nsIn K mainGlobals "range" = some none)
    (z10 : PySem.W.nsIn K mainGlobals "repr" = some none)
    (z11 : PySem.W.nsIn K mainGlobals "reversed" = some none)
    (z12 : PySem.W.nsIn K mainGlobals "set" = some none)
    (z13 : PySem.W.nsIn K mainGlobals "sum" = some none)
    (z14 : PySem.W.nsIn K mainGlobals "tuple" = some none)
    (z15 : PySem.W.nsIn K mainGlobals "zip" = some none)
    (m0 : PySem.W.nsIn K mainGlobals "gcd" = some (some (.builtin "math.gcd")))
    (m1 : PySem.W.nsIn K mainGlobals "lcm" = some (some (.builtin "math.lcm")))
    (c90 : ∃ t, PySem.W.nsIn K mainGlobals "MOST_NUMBERS" = some (some (.int 80 t)))
    (c91 : ∃ t, PySem.W.nsIn K mainGlobals "MOST_POINTS" = some (some (.int 40 t)))
    : ∃ fd : FuncData, (∀ (s : Shared) (u : Value), BindsTo s fd ⟨[u], []⟩ [("script", u)]) ∧ ∀ base : Heap, K.In base → base.Ns mainGlobals mg → FnG P w K mg base CX0 8 fa fd ["script"] (sp_law K) :=
  end_mk (h := h) hmg fun base => { d_is_integer := de_mk X G a0 l0 c0 k0, d_is_within := de_mk X G a1 l1 c1 k1, d_is_list := de_mk X G a2 l2 c2 k2, d_is_fraction := de_mk X G a3 l3 c3 k3, d_is_place := de_mk X G a4 l4 c4 k4, d_reduced := de_mk X G a5 l5 c5 k5, d_read_fraction := de_mk X G a6 l6 c6 k6, d_over_one_down := de_mk X G a7 l7 c7 k7, d_fraction_of := de_mk X G a8 l8 c8 k8, d_added := de_mk X G a9 l9 c9 k9, d_multiplied := de_mk X G a10 l10 c10 k10, d_divided := de_mk X G a11 l11 c11 k11, d_trimmed := de_mk X G a12 l12 c12 k12, d_is_poly := de_mk X G a13 l13 c13 k13, d_read_poly := de_mk X G a14 l14 c14 k14, d_value_at := de_mk X G a15 l15 c15 k15, d_poly_sum := de_mk X G a16 l16 c16 k16, d_read_points := de_mk X G a17 l17 c17 k17, d_times_factor := de_mk X G a18 l18 c18 k18, d_without_factor := de_mk X G a19 l19 c19 k19, d_share_at := de_mk X G a20 l20 c20 k20, d_poly_through := de_mk X G a21 l21 c21 k21, d__law_ropewalk := de_mk X G a22 l22 c22 k22, d__law_knot := de_mk X G a23 l23 c23 k23, d__law_pick := de_mk X G a24 l24 c24 k24, d__law_low := de_mk X G a25 l25 c25 k25, d__law_plus := de_mk X G a26 l26 c26 k26, d__law_times := de_mk X G a27 l27 c27 k27, d__law_fraction := de_mk X G a28 l28 c28 k28, d__law_as := de_mk X G a29 l29 c29 k29, d__law_trimmed := de_mk X G a30 l30 c30 k30, d__law_value := de_mk X G a31 l31 c31 k31, d__law_row := de_mk X G a32 l32 c32 k32, d__law_sum := de_mk X G a33 l33 c33 k33, d__law_ats := de_mk X G a34 l34 c34 k34, d__law_stirred := de_mk X G a35 l35 c35 k35, d__law_points := de_mk X G a36 l36 c36 k36, d_law := de_mk X G a37 l37 c37 k37, n_abs := PySem.W.mg_none_of X G z0, n_all := PySem.W.mg_none_of X G z1, n_bool := PySem.W.mg_none_of X G z2, n_enumerate := PySem.W.mg_none_of X G z3, n_int := PySem.W.mg_none_of X G z4, n_isinstance := PySem.W.mg_none_of X G z5, n_len := PySem.W.mg_none_of X G z6, n_list := PySem.W.mg_none_of X G z7, n_max := PySem.W.mg_none_of X G z8, n_range := PySem.W.mg_none_of X G z9, n_repr := PySem.W.mg_none_of X G z10, n_reversed := PySem.W.mg_none_of X G z11, n_set := PySem.W.mg_none_of X G z12, n_sum := PySem.W.mg_none_of X G z13, n_tuple := PySem.W.mg_none_of X G z14, n_zip := PySem.W.mg_none_of X G z15, m_gcd := PySem.W.mg_of X G m0, m_lcm := PySem.W.mg_of X G m1, c_MOST_NUMBERS := Exists.elim c90 fun t e => ⟨t, PySem.W.mg_of X G e⟩, c_MOST_POINTS := Exists.elim c91 fun t e => ⟨t, PySem.W.mg_of X G e⟩ }
end Mf
open PySem PySem.W PyProof.Rows
set_option maxHeartbeats 0 in
theorem PySem.Challenge.cw_mapflow_k42_whole_polynomials_through_po_holds : PySem.Challenge.rw_mapflow_k42_whole_polynomials_through_po.Holds := by
  w_on; o_law; k_head; (case hw => w_witness2)
  k_fill
  refine Mf.walkG (l := PySem.Challenge.rw_mapflow_k42_whole_polynomials_through_po) (n := 63) (k := 8) (x := "script") (sp := Mf.sp_law) rfl (by decide) rfl ⟨rfl, by decide, by decide⟩ (fun w h Y => PySem.W.kIn_of Y) ?F (fun K H a ns hl _ hS => ⟨a, ns, rfl, hS, hl, fun _ => rfl⟩)
  case F =>
    intro w mg fa h KX G hmg
    refine' Mf.all_mk KX G hmg ?a0 ?l0 ?c0 ?k0 ?a1 ?l1 ?c1 ?k1 ?a2 ?l2 ?c2 ?k2 ?a3 ?l3 ?c3 ?k3 ?a4 ?l4 ?c4 ?k4 ?a5 ?l5 ?c5 ?k5 ?a6 ?l6 ?c6 ?k6 ?a7 ?l7 ?c7 ?k7 ?a8 ?l8 ?c8 ?k8 ?a9 ?l9 ?c9 ?k9 ?a10 ?l10 ?c10 ?k10 ?a11 ?l11 ?c11 ?k11 ?a12 ?l12 ?c12 ?k12 ?a13 ?l13 ?c13 ?k13 ?a14 ?l14 ?c14 ?k14 ?a15 ?l15 ?c15 ?k15 ?a16 ?l16 ?c16 ?k16 ?a17 ?l17 ?c17 ?k17 ?a18 ?l18 ?c18 ?k18 ?a19 ?l19 ?c19 ?k19 ?a20 ?l20 ?c20 ?k20 ?a21 ?l21 ?c21 ?k21 ?a22 ?l22 ?c22 ?k22 ?a23 ?l23 ?c23 ?k23 ?a24 ?l24 ?c24 ?k24 ?a25 ?l25 ?c25 ?k25 ?a26 ?l26 ?c26 ?k26 ?a27 ?l27 ?c27 ?k27 ?a28 ?l28 ?c28 ?k28 ?a29 ?l29 ?c29 ?k29 ?a30 ?l30 ?c30 ?k30 ?a31 ?l31 ?c31 ?k31 ?a32 ?l32 ?c32 ?k32 ?a33 ?l33 ?c33 ?k33 ?a34 ?l34 ?c34 ?k34 ?a35 ?l35 ?c35 ?k35 ?a36 ?l36 ?c36 ?k36 ?a37 ?l37 ?c37 ?k37 ?z0 ?z1 ?z2 ?z3 ?z4 ?z5 ?z6 ?z7 ?z8 ?z9 ?z10 ?z11 ?z12 ?z13 ?z14 ?z15 ?m0 ?m1 ?c90 ?c91
    (case a0 => k_is); (case l0 => k_is); (case c0 => k_is); (case k0 => k_is); (case a1 => k_is); (case l1 => k_is); (case c1 => k_is); (case k1 => k_is); (case a2 => k_is); (case l2 => k_is); (case c2 => k_is); (case k2 => k_is); (case a3 => k_is); (case l3 => k_is); (case c3 => k_is); (case k3 => k_is); (case a4 => k_is); (case l4 => k_is); (case c4 => k_is); (case k4 => k_is); (case a5 => k_is); (case l5 => k_is); (case c5 => k_is); (case k5 => k_is); (case a6 => k_is); (case l6 => k_is); (case c6 => k_is); (case k6 => k_is); (case a7 => k_is); (case l7 => k_is); (case c7 => k_is); (case k7 => k_is); (case a8 => k_is); (case l8 => k_is); (case c8 => k_is); (case k8 => k_is); (case a9 => k_is); (case l9 => k_is); (case c9 => k_is); (case k9 => k_is); (case a10 => k_is); (case l10 => k_is); (case c10 => k_is); (case k10 => k_is); (case a11 => k_is); (case l11 => k_is); (case c11 => k_is); (case k11 => k_is); (case a12 => k_is); (case l12 => k_is); (case c12 => k_is); (case k12 => k_is); (case a13 => k_is); (case l13 => k_is); (case c13 => k_is); (case k13 => k_is); (case a14 => k_is); (case l14 => k_is); (case c14 => k_is); (case k14 => k_is); (case a15 => k_is); (case l15 => k_is); (case c15 => k_is); (case k15 => k_is); (case a16 => k_is); (case l16 => k_is); (case c16 => k_is); (case k16 => k_is); (case a17 => k_is); (case l17 => k_is); (case c17 => k_is); (case k17 => k_is); (case a18 => k_is); (case l18 => k_is); (case c18 => k_is); (case k18 => k_is); (case a19 => k_is); (case l19 => k_is); (case c19 => k_is); (case k19 => k_is); (case a20 => k_is); (case l20 => k_is); (case c20 => k_is); (case k20 => k_is); (case a21 => k_is); (case l21 => k_is); (case c21 => k_is); (case k21 => k_is); (case a22 => k_is); (case l22 => k_is); (case c22 => k_is); (case k22 => k_is); (case a23 => k_is); (case l23 => k_is); (case c23 => k_is); (case k23 => k_is); (case a24 => k_is); (case l24 => k_is); (case c24 => k_is); (case k24 => k_is); (case a25 => k_is); (case l25 => k_is); (case c25 => k_is); (case k25 => k_is); (case a26 => k_is); (case l26 => k_is); (case c26 => k_is); (case k26 => k_is); (case a27 => k_is); (case l27 => k_is); (case c27 => k_is); (case k27 => k_is); (case a28 => k_is); (case l28 => k_is); (case c28 => k_is); (case k28 => k_is); (case a29 => k_is); (case l29 => k_is); (case c29 => k_is); (case k29 => k_is); (case a30 => k_is); (case l30 => k_is); (case c30 => k_is); (case k30 => k_is); (case a31 => k_is); (case l31 => k_is); (case c31 => k_is); (case k31 => k_is); (case a32 => k_is); (case l32 => k_is); (case c32 => k_is); (case k32 => k_is); (case a33 => k_is); (case l33 => k_is); (case c33 => k_is); (case k33 => k_is); (case a34 => k_is); (case l34 => k_is); (case c34 => k_is); (case k34 => k_is); (case a35 => k_is); (case l35 => k_is); (case c35 => k_is); (case k35 => k_is); (case a36 => k_is); (case l36 => k_is); (case c36 => k_is); (case k36 => k_is); (case a37 => k_is); (case l37 => k_is); (case c37 => k_is); (case k37 => k_is); (case z0 => k_is); (case z1 => k_is); (case z2 => k_is); (case z3 => k_is); (case z4 => k_is); (case z5 => k_is); (case z6 => k_is); (case z7 => k_is); (case z8 => k_is); (case z9 => k_is); (case z10 => k_is); (case z11 => k_is); (case z12 => k_is); (case z13 => k_is); (case z14 => k_is); (case z15 => k_is); (case m0 => k_is); (case m1 => k_is); (case c90 => apply Exists.intro; k_is); (case c91 => apply Exists.intro; k_is)
