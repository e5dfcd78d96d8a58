import PyProof.Rows.All
import Wide.All
import OpenK.AllK
import Wide.FinOn
import HandS.ForMost
import HandS.ForExc
import HandS.Defaults
import HandS.EndTab
import HandS.HeadWalk
import HandS.HeadHook4
import HandS.AnyAll
import HandS.Lambda
import HandS.TupAny
import HandS.TupMul
import HandS.WideBits
import HandS.Wide
import HandS.Zip
import HandS.IsInst
import HandS.Flow
import HandS.Style
import HandS.Gcd
import PyProof.ReprRoads
import HandS.Codes
import HandS.Iter
import HandS.ExcInit
import HandS.ExcOwn
import HandS.ExcValue
import HandS.ExcField
import KE.KExcIs
import PyProof.GenQ
import PyProof.ConsumeWalk
import HandS.GenOver
import HandS.GenList
import PyProof.ConsumeS
import KE.DataMinMax
import PyProof.ReprBulk
import KE.KStateDown
import HandS.HeadHook1
import HandS.HeadHook2
import HandS.HeadHook3
import HandS.Head0
import HandS.Head1
import HandS.Head2
import HandS.Head3
import HandS.HeadEnd
import PySem.Challenge.RW_trialground_k02_whole_trials_worlds_ques
set_option Elab.async false
set_option linter.all false
set_option maxRecDepth 100000
set_option maxHeartbeats 2000000
/-! Gd: a def's promise kept where no printing is under way (repr may be asked there); its rules; the end of a law. -/
namespace Gd
open PySem PySem.Spec PyProof.Rows L2

/-- nothing is being printed around here -/
def Cl (A : Around) : Prop := A.guards = some []
theorem cl_caller : Cl callerA := rfl
theorem cl_deeper {A : Around} (h : Cl A) (env : Env) : Cl (A.deeper env) := by
  unfold Cl at *
  first
    | exact h
    | (simp [Around.deeper, h]; done)
    | (show (A.deeper env).guards = some []; unfold Around.deeper; simpa using h)
theorem cl_in1 {A : Around} (h : Cl A) : Cl A.in1 := h

/-- a def keeps its promise, wherever nothing is being printed -/
structure FnG (P : Program) (w : World) (K : PySem.W.Frag) (mg : Str → Option Value) (base : Heap) (CX : CXT) (k : Nat) (f : Addr) (fd : FuncData) (ps : List Str) (sp : Sp) : Prop where
  len : ∀ vs H Q E, sp vs H Q E → vs.length = ps.length
  run : ∀ (A : Around) (outer : List Env) (s : Shared) (H : Hp) (args : Args) (us : List Value) (vs : List V) (Q : VK) (E : XK), Cl A → Room k A → Env0 P w K mg base A outer s H → BindsTo s fd args (ps.zip us) → Vals vs us → sp vs H Q E →
    codeAny (model P w) A (.call (.ref f) args) (CR CX outer P w H s Q E) s

section
variable {P : Program} {w : World} {K : PySem.W.Frag} {mg : Str → Option Value} {base : Heap} {CX : CXT} {j k : Nat} {f : Addr} {fd : FuncData} {ps : List Str} {sp sp' : Sp}
theorem FnG.of (F : FnOk P w K mg base CX k f fd ps sp) : FnG P w K mg base CX k f fd ps sp :=
  ⟨F.len, fun A o s H a us vs Q E _ => F.run A o s H a us vs Q E⟩
theorem FnG.up (F : FnG P w K mg base CX j f fd ps sp) (h : j ≤ k) : FnG P w K mg base CX k f fd ps sp :=
  ⟨F.len, fun A o s H a us vs Q E g r => F.run A o s H a us vs Q E g (r.mono h)⟩
theorem FnG.imp (F : FnG P w K mg base CX k f fd ps sp) (h : ∀ vs H Q E, sp' vs H Q E → sp vs H Q E) : FnG P w K mg base CX k f fd ps sp' :=
  ⟨fun vs H Q E q => F.len vs H Q E (h vs H Q E q), fun A o s H a us vs Q E g r e b v q => F.run A o s H a us vs Q E g r e b v (h vs H Q E q)⟩

/-- the rule of a def, by its body -/
theorem FnG.ok {x qual : Str} {params : Arguments} {body : List Stmt} {scope : Scope} {dvs : List V} {kws : List (Str × V)} {N : List Str}
    (F : FunD K x qual params body scope dvs kws f fd) (S : FnScope N ps scope) (len : ∀ vs H Q E, sp vs H Q E → vs.length = ps.length)
    (hb : ∀ (cdv : Value) (A : Around) (outer : List Env) (s : Shared) (H : Hp) (vs : List V) (Q : VK) (E : XK), Cl (A.deeper (envOfC qual scope s.heap.objs.size f cdv)) → Room k (A.deeper (envOfC qual scope s.heap.objs.size f cdv)) → PySem.W.codeIn K cdv qual = true → (∀ c, K.lookup f = some c → ∃ fd', c.data = .func fd' ∧ fd'.code = cdv) → sp vs H Q E →
      ∃ t, PSs (cxOf CX P w K mg base N qual scope f cdv A outer s H E) body t ∧ t { nx := fun _ H' => Q .non H', rt := Q } (start N vs) H) :
    FnG P w K mg base CX (k + 1) f fd ps sp := by
  obtain ⟨oc, od, dV, kV, doc, pm, an, cdv, ct, osl, rfl, lk, hcd, _, _⟩ := F.ex
  refine ⟨len, fun A outer s H args us vs Q E hG hr e0 hbi r hsp => ?_⟩
  have hl := len _ _ _ _ hsp
  have old : ∀ b o, base.get? b = some o → s.heap.get? b = some o := fun b o e => (e0.bs b o e).1
  have KX : K.In s.heap := e0.mod.kin.keeps old
  have params_ok : ∀ y ∈ ps.zip us, scope.names.lookup y.1 = some .local ∨ (scope.names.lookup y.1 = some .cell ∧ ((cellsFrom (s.heap.objs.size + 1) scope.names []).lookup y.1).isSome = true) := by
    rintro ⟨n, v⟩ hy
    exact (S.par n (List.of_mem_zip hy).1).imp id fun q => ⟨q, PySem.W.cellsFrom_some _ _ _ (.inl q)⟩
  refine codeAny_call_function hr.depth (KX _ _ lk) rfl S.co S.gen rfl (PySem.W.codeRec_of KX hcd) (hbi _ _ _ _ ?_)
  refine wpAny_newFunctionEnv_cells S.kind params_ok fun env he s1 x => ?_
  subst he
  refine ⟨(e0.mod.nolimit.keeps old).keeps x.toInCall.keep, codeAny_func ?_⟩
  obtain ⟨t, ht, hq⟩ := hb cdv A outer s H vs Q E (cl_deeper hG _) (hr.deeper _) hcd (fun c hc => by rw [lk] at hc; cases hc; exact ⟨_, rfl, rfl⟩) hsp
  have I := inv_start (CX := CX) (P := P) (w := w) (E := E) S hr.hd e0 hl r x
  refine wpAny_mono (ht.run [] s1 _ H _ I hq) (fun fl s' hs => ?_) fun e s' hs => hs
  cases fl with
  | ret u =>
    obtain ⟨v, σ', H', J, rv, q⟩ := hs
    exact ⟨v, H', J.os, J.bare, J.base, J.hok, rv, q⟩
  | next =>
    obtain ⟨σ', H', J, q⟩ := hs
    exact ⟨.non, H', J.os, J.bare, J.base, J.hok, rfl, q⟩
  | brk => exact (show False from let ⟨_, _, _, q⟩ := hs; q).elim
  | cont => exact (show False from let ⟨_, _, _, q⟩ := hs; q).elim
end

/-! ### calls -/
section
variable {X : Cx} {CX : CXT} {k : Nat} {f : Addr} {fd : FuncData} {ps ks : List Str} {sp : Sp} {dvs : List V} {ds : List Value} {E : XK} {x : Str} {p pos : Pos} {e : Expr} {es : List Expr} {t tk : TA} {kws : List Keyword}
  {g : List Value → List Value → List Value} {gV : List V → List V → List V}
theorem run_g {pins : List (Addr × Obj)} {σ : L2.St} {H : Hp} {s : Shared} {Q : VK} {us vs' : List Value} {zs : List V} {args : Args} (F : FnG X.prog X.w X.K X.mg X.base CX k f fd ps sp) (hG : Cl X.A) (hr : Room k X.A) (hx : Passes CX X E)
    (I : Inv X pins σ H s) (hb : us.length = ps.length → BindsTo s fd args (ps.zip us)) (r : Vals zs us) (h : sp zs H Q E) : codeAny (model X.prog X.w) X.A (.call (.ref f) args) (fun r s' => match r with
      | .ok (.ret u) => EP X pins σ Q u s'
      | .ok _ => False
      | .error e => X.xe e s') s := by
  have hl : us.length = ps.length := by rw [← Paired.length r]; exact F.len _ _ _ _ h
  refine codeAny_mono (F.run X.A X.stack s H args us zs Q E hG hr I.env0 (hb hl) r h) fun r s' hq => ?_
  cases r with
  | error e => exact hx pins σ H s e s' I hq
  | ok fl =>
    cases fl with
    | ret u => exact I.after hq
    | next => exact hq
    | brk => exact hq
    | cont => exact hq
theorem call_g {pins : List (Addr × Obj)} {σ : L2.St} {H : Hp} {s : Shared} {Q : VK} {us : List Value} {zs : List V} {us0 : List Value} {kw : List (Str × Value)} (F : FnG X.prog X.w X.K X.mg X.base CX k f fd ps sp) (hG : Cl X.A) (hr : Room k X.A) (hx : Passes CX X E)
    (I : Inv X pins σ H s) (hb : us.length = ps.length → BindsTo s fd ⟨us0, kw⟩ (ps.zip us)) (r : Vals zs us) (h : sp zs H Q E) : wpAny (model X.prog X.w) X.A (call (.ref f) us0 kw) (EP X pins σ Q) X.xe s := by
  refine wpAny_call (codeAny_mono (run_g (vs' := us0) F hG hr hx I hb r h) fun r s' hq => ?_)
  cases r with
  | error e => exact hq
  | ok fl =>
    cases fl with
    | ret u => exact hq
    | next => exact hq.elim
    | brk => exact hq.elim
    | cont => exact hq.elim
/-- f(e, ..) -/
theorem pe_cg (F : FnG X.prog X.w X.K X.mg X.base CX k f fd ps sp) (hG : Cl X.A) (hr : Room k X.A) (hg : Gl X x) (hm : X.mg x = some (.ref f)) (hk : PySem.W.keepIn X.K (.ref f) = true) (hb : Binds X.K fd ps ds) (hd : Vals dvs ds) (hx : Passes CX X E)
    (ha : PA X (e :: es) t) (hdb : (x == ("__debug__" : Str)) = false := by decide) (he : starEach (e :: es) X.env = (false, eval e X.env) :: starEach es X.env := by rfl) (hpl : (backTo pos (starEach es X.env)).any (·.1) = false := by rfl) :
    PE X (.Call (.Name x p) (e :: es) [] pos) (tCall sp dvs E t) :=
  ⟨fun pins s σ H Q I h => wpAny_Call_Name_kw (ld_glob I hg hm (PySem.W.callWith_K (h₀ := X.base) I.ok.mod.kin hk (thn (ha.run pos pins s σ H _ I h) fun us s1 ⟨vs, H1, I1, r, q⟩ =>
    ⟨I1.kIn, call_g F hG hr hx I1 (hb s1 us I1.kIn) (r.append hd) q⟩) he hpl) hdb)⟩
/-- f() -/
theorem pe_cg0 (F : FnG X.prog X.w X.K X.mg X.base CX k f fd ps sp) (hG : Cl X.A) (hr : Room k X.A) (hg : Gl X x) (hm : X.mg x = some (.ref f)) (hk : PySem.W.keepIn X.K (.ref f) = true) (hb : Binds X.K fd ps ds) (hd : Vals dvs ds) (hx : Passes CX X E)
    (hdb : (x == ("__debug__" : Str)) = false := by decide) : PE X (.Call (.Name x p) [] [] pos) (tCall sp dvs E tNil) :=
  ⟨fun pins s σ H Q I h => wpAny_Call_Name_kw (ld_glob I hg hm (PySem.W.callWith_K0 I.kIn hk (call_g (us0 := []) F hG hr hx I (hb s [] I.kIn) (.append .nil hd) h)) hdb)⟩
end

section
variable {X : Cx} {CX : CXT} {k : Nat} {f : Addr} {fd : FuncData} {ps ks : List Str} {sp : Sp} {E : XK} {x : Str} {p pos : Pos} {e : Expr} {es : List Expr} {t tk : TA} {kws : List Keyword} {n m : Nat}
  {g : {α : Type} → List α → List α → List α}
/-- n values by position, m by name (ks): g puts them in the parameters' order -/
structure KwB (K : PySem.W.Frag) (fd : FuncData) (ps ks : List Str) (n : Nat) (g : {α : Type} → List α → List α → List α) : Prop where
  to : ∀ (s : Shared) (us ws : List Value), us.length = n → ws.length = ks.length → BindsTo s fd ⟨us, ks.zip ws⟩ (ps.zip (g us ws))
  rel : ∀ {vs zs : List V} {us ws : List Value}, Vals vs us → Vals zs ws → vs.length = n → zs.length = ks.length → Vals (g vs zs) (g us ws)
/-- f(e, .., k = v, ..) -/
def tCK (sp : Sp) (n m : Nat) (g : {α : Type} → List α → List α → List α) (E : XK) (t tk : TA) : TE := fun σ H Q => t σ H fun vs H1 => tk σ H1 fun zs H2 => vs.length = n ∧ zs.length = m ∧ sp (g vs zs) H2 Q E
theorem pe_ck0 (F : FnG X.prog X.w X.K X.mg X.base CX k f fd ps sp) (hG : Cl X.A) (hr : Room k X.A) (hg : Gl X x) (hm : X.mg x = some (.ref f)) (hk : PySem.W.keepIn X.K (.ref f) = true) (hb : KwB X.K fd ps ks 0 g) (hx : Passes CX X E) (hkw : PK X kws tk)
    (hall : (backToKw pos (keywordEach kws X.env)).all (·.1.isSome) = true := by rfl) (hks : (backToKw pos (keywordEach kws X.env)).filterMap (·.1) = ks := by rfl) (hdb : (x == ("__debug__" : Str)) = false := by decide)
    (hpl : ((backTo pos (starEach [] X.env)).any (·.1) || (backToKw pos (keywordEach kws X.env)).any (·.1.isNone)) = false := by rfl) :
    PE X (.Call (.Name x p) [] kws pos) (tCK sp 0 ks.length g E tNil tk) := by
  refine ⟨fun pins s σ H Q I h => wpAny_Call_Name_kw (ld_glob I hg hm (PySem.W.callWith_KW0 (h₀ := X.base) I.ok.mod.kin hk hall (thn (hkw.run pos pins s σ H _ I h) fun ws s2 ⟨zs, H2, I2, rz, l1, l2, q2⟩ => ⟨I2.kIn, ?_⟩) hpl) hdb)⟩
  rw [hks]
  have lw : ws.length = ks.length := by rw [← Paired.length rz]; exact l2
  exact call_g (us := g [] ws) (zs := g [] zs) F hG hr hx I2 (fun _ => hb.to s2 [] ws rfl lw) (hb.rel .nil rz rfl l2) q2
end

/-! ### the end of a law -/
/-- what is known of the tables: cs, code objects and their tables -/
theorem law_end {P : Program} {w : World} {K : PySem.W.Frag} {mg mb : Str → Option Value} {CX : CXT} {k : Nat} {fa a : Addr} {cs : List (Addr × Addr)} {x : Str} {sp : Sp} {s₁ : Shared} {vs : List Value} {ns : List Int}
    (KX : K.In s₁.heap) (hns : s₁.heap.Ns mainGlobals mg) (hb : s₁.heap.Ns builtinsNs mb) (hbb : ∀ x : Str, x ≠ "__name__" → mb x = bootBuiltins x) (hlim : s₁.heap.NoLimit) (hg : s₁.gens = #[])
    (hT : ∀ p ∈ cs, s₁.heap.get? p.2 = some { cls := .none, data := .fields #[] }) (nT : ∀ p ∈ cs, K.lookup p.2 = none) (C : ∀ p ∈ cs, PySem.W.CodeHd s₁.heap p.1 p.2)
    (hbm : ∃ (bm : Addr) (ob : Obj), mg "__builtins__" = some (.ref bm) ∧ bm ≠ builtinsNs ∧ s₁.heap.get? bm = some ob ∧ ob.cls = .type "module" ∧ ob.dict = some builtinsNs ∧ ob.data = .plain)
    (ha : s₁.heap.get? a = some { cls := .type "list", data := .seq vs.toArray }) (hi : IntsAre vs ns) (hl : ns.length ≤ sizeLine) (hr : Room k callerA)
    (hsys : ∃ m, s₁.heap.Ns sysModules m) (F : ∀ base : Heap, K.In base → base.Ns mainGlobals mg → (∃ m, base.Ns sysModules m) → (∀ p ∈ cs, LamX.TabB base mg p.1 p.2) → ∃ fd, FnG P w K mg base CX k fa fd [x] sp ∧ Binds K fd [x] [])
    (hsp : ∀ H : Hp, (∀ p ∈ cs, H p.2 = some (.tbl #[])) → SqL K H a (ns.map V.int) → sp [.ref a] H (fun v _ => v = .bl true) fun _ _ _ => False)
    (hCX : ∀ H e s', CX [] H s₁ (fun _ _ _ => False) e s' → False) :
    codeAny (model P w) callerA (.call (.ref fa) ⟨[.ref a], []⟩) (fun r s' => r = .ok (.ret (.bool true)) ∧ OldK s₁.heap s'.heap ∧ s'.os = s₁.os ∧ AllBare s'.gens) s₁ := by
  let T : Addr → Prop := fun b => ∃ p ∈ cs, p.2 = b
  have isT : ∀ b, T b → s₁.heap.get? b = some { cls := .none, data := .fields #[] } := by
    rintro b ⟨p, hp, rfl⟩
    exact hT p hp
  have aT : ¬ T a := fun z => by
    have q := isT a z
    rw [ha] at q
    exact absurd (congrArg Obj.cls (Option.some.inj q)) (by simp)
  have main : ∀ H : Hp, (∀ b, T b → H b = some (.tbl #[])) → (∀ b u, H b = some u → T b ∨ (b = a ∧ K.lookup a = none ∧ u = .frz { cls := .type "list", data := .seq vs.toArray } (.lst (ns.map V.int)))) → SqL K H a (ns.map V.int) →
      codeAny (model P w) callerA (.call (.ref fa) ⟨[.ref a], []⟩) (fun r s' => r = .ok (.ret (.bool true)) ∧ OldK s₁.heap s'.heap ∧ s'.os = s₁.os ∧ AllBare s'.gens) s₁ := by
    intro H hH hO hS
    have hok : HOk P w H s₁.heap := fun b u e => by
      rcases hO b u e with z | ⟨rfl, _, rfl⟩
      · rw [hH b z] at e
        cases e
        exact isT b z
      · exact ⟨ha, by rw [List.length_map]; exact hl, vs, _, vals_ints hi, ha⟩
    have free : ∀ {b : Addr} {o : Obj}, s₁.heap.get? b = some o → o.cls ≠ .type "list" → o.cls ≠ .none → H b = none := fun {b o} e h1 h2 => by
      cases q : H b with
      | none => rfl
      | some u =>
        rcases hO b u q with z | ⟨rfl, _, _⟩
        · rw [isT b z] at e
          cases e
          exact absurd rfl h2
        · rw [ha] at e
          cases e
          exact absurd rfl h1
    have freeD : ∀ {b : Addr} {o : Obj}, s₁.heap.get? b = some o → (∀ ws n, o.data ≠ .seq ws n) → o.data ≠ .fields #[] → H b = none := fun {b o} e h1 h2 => by
      cases q : H b with
      | none => rfl
      | some u =>
        rcases hO b u q with z | ⟨rfl, _, _⟩
        · rw [isT b z] at e
          cases e
          exact absurd rfl h2
        · rw [ha] at e
          cases e
          exact absurd rfl (h1 _ _)
    have ns' : ∀ {b : Addr} {m : Str → Option Value}, s₁.heap.Ns b m → (hidT s₁.heap H).Ns b m := fun {b m} ⟨o, es, ep, e, d, r⟩ => ⟨o, es, ep, hidT_get e (freeD e (fun _ _ z => by rw [d] at z; cases z) fun z => by rw [d] at z; cases z), d, r⟩
    have hKb : K.In (hidT s₁.heap H) := fun b o e => hidT_get (KX b o e) (by
      cases q : H b with
      | none => rfl
      | some u =>
        rcases hO b u q with ⟨p, hp, rfl⟩ | ⟨rfl, z, _⟩
        · rw [nT p hp] at e
          cases e
        · rw [z] at e
          cases e)
    have hM : L2.Mod K mg (hidT s₁.heap H) := ⟨hKb, ns' hns, ⟨mb, ns' hb, hbb⟩, let ⟨mc, h1, h2⟩ := hlim; ⟨mc, ns' h1, h2⟩⟩
    have TB : ∀ p ∈ cs, LamX.TabB (hidT s₁.heap H) mg p.1 p.2 := fun p hp => by
      refine ⟨?_, ?_, ?_⟩
      · obtain ⟨o, us, file, tf, flags, tg, inF, text, tt, e1, r1, r2, r3, r4, r5, r6, r7, r8, hne⟩ := C p hp
        refine ⟨o, us, file, tf, flags, tg, inF, text, tt, hidT_get e1 (freeD e1 (fun _ _ z => by rw [r2] at z; cases z) fun z => ?_), r1, r2, r3, r4, r5, r6, r7, r8, hne⟩
        rw [r2] at z
        injection z with z
        rw [z] at r3
        simp at r3
      · obtain ⟨bm, ob, b1, b2, b3, b4, b5, b6⟩ := hbm
        have nd : ∀ {c : Addr} {oc : Obj}, s₁.heap.get? c = some oc → oc.data ≠ .plain → bm ≠ c := fun {c oc} e hne z => by
          rw [← z, b3] at e
          cases e
          exact hne b6
        refine ⟨bm, ob, b1, b2, ?_, nd (hT p hp) (fun z => by cases z), hidT_get b3 (freeD b3 (fun _ _ z => by rw [b6] at z; cases z) fun z => by rw [b6] at z; cases z), b4, b5, b6⟩
        obtain ⟨o, es, ep, e, hd, _⟩ := hns
        exact nd e fun z => by rw [hd] at z; cases z
      · intro z
        obtain ⟨o, es, ep, e, hd, _⟩ := hns
        rw [z, hT p hp] at e
        cases e
        cases hd
    have e0 : Env0 P w K mg (hidT s₁.heap H) callerA [] s₁ H := ⟨rfl, hM, fun b o e => of_hidT e, Nat.le_of_eq (hidT_size _ _), trivial, fun b hb => absurd (show b ∈ ([] : List Addr) from hb) (by simp), hok, .of_eq hg⟩
    obtain ⟨fd, FF, hbind⟩ := F _ hKb (ns' hns) (let ⟨m, q⟩ := hsys; ⟨m, ns' q⟩) TB
    refine codeAny_mono (FF.run callerA [] s₁ H ⟨[.ref a], []⟩ [.ref a] [.ref a] _ _ cl_caller hr e0 (hbind s₁ [.ref a] KX rfl) (.cons rfl .nil) (hsp H (fun p hp => hH p.2 ⟨p, hp, rfl⟩) hS)) fun r s' h => ?_
    cases r with
    | error e => exact (hCX H e s' h).elim
    | ok fl =>
      cases fl with
      | next => exact False.elim h
      | brk => exact False.elim h
      | cont => exact False.elim h
      | ret u =>
        obtain ⟨v, H', os, bare, un, hok', r', q⟩ := h
        obtain rfl : v = .bl true := q
        obtain rfl : u = Value.bool true := r'
        have key : ∀ b o, ¬ T b → s₁.heap.get? b = some o → s'.heap.get? b = some o := fun b o nb e => by
          cases q : H b with
          | none => exact un.keep b o e q (fun z => absurd (show b ∈ ([] : List Addr) from z) (by simp)) (by simp)
          | some u =>
            rcases hO b u q with z | ⟨rfl, _, rfl⟩
            · exact absurd z nb
            · rw [(hok _ _ q).1] at e
              cases e
              exact (hok' _ _ (un.frzs _ _ _ q)).1
        have grown : ∀ b, T b → ∃ more : Array Value, s'.heap.get? b = some { cls := .none, data := .fields more } := fun b hb => by
          obtain ⟨more, z⟩ := un.tbls b #[] (hH b hb)
          exact ⟨_, hok' b _ z⟩
        refine ⟨rfl, ⟨fun b o e => ?_, fun b o e => ?_⟩, os, bare⟩
        · by_cases hb : T b
          · obtain ⟨p, hp, rfl⟩ := id hb
            obtain ⟨more, hm⟩ := grown _ hb
            rw [hT p hp] at e
            cases e
            exact .inr (.inl ⟨((C p hp).tab (hT p hp)).isCodeTable, rfl, #[], more, rfl, by rw [Array.empty_append]; exact hm⟩)
          · exact .inl (key b o hb e)
        · by_cases hb : T b
          · obtain ⟨more, hm⟩ := grown b hb
            exact ⟨_, hm⟩
          · exact ⟨o, key b o hb e⟩
  classical
  cases hk : K.lookup a with
  | some o =>
    have e := KX a o hk
    rw [ha] at e
    cases e
    refine main (fun b => if T b then some (.tbl #[]) else none) (fun b z => if_pos z) (fun b u e => ?_) (.inr ⟨_, vs.toArray, _, hk, rfl, rfl, rfl, by rw [List.size_toArray, hi.length]; exact hl, by simpa using vals_ints hi⟩)
    by_cases hb : T b
    · exact .inl hb
    · have e' := (if_neg hb).symm.trans e
      cases e'
  | none =>
    refine main (fun b => if T b then some (.tbl #[]) else if b = a then some (.frz { cls := .type "list", data := .seq vs.toArray } (.lst (ns.map V.int))) else none) (fun b z => if_pos z) (fun b u e => ?_)
      (.inl (.inr ⟨{ cls := .type "list", data := .seq vs.toArray }, (if_neg aT).trans (if_pos rfl)⟩))
    by_cases hb : T b
    · exact .inl hb
    · have e1 := (if_neg hb).symm.trans e
      by_cases h2 : b = a
      · have e2 := (if_pos h2).symm.trans e1
        cases e2
        exact .inr ⟨h2, hk, rfl⟩
      · have e2 := (if_neg h2).symm.trans e1
        cases e2
/-- what is known of the law at the head's heap -/
def LawG (l : PySem.W.OpenLaw) (w : World) (K : PySem.W.Frag) (CX : CXT) (k n : Nat) (x : Str) (mg : Str → Option Value) (fa : Addr) (h : Heap) : Prop :=
  ∃ (cs : List (Addr × Addr)) (sp : Sp), (∀ p ∈ cs, h.get? p.2 = some { cls := .none, data := .fields #[] }) ∧ (∀ p ∈ cs, K.lookup p.2 = none) ∧ (∀ p ∈ cs, PySem.W.CodeHd h p.1 p.2) ∧
    (∀ (H : Hp) (a : Addr) (ns : List Int), ns.length ≤ n → (∀ z ∈ ns, Builtin.Int.intBits z ≤ 1048576) → (∀ p ∈ cs, H p.2 = some (.tbl #[])) → SqL K H a (ns.map V.int) → sp [.ref a] H (fun v _ => v = .bl true) fun _ _ _ => False) ∧
    ∀ base : Heap, K.In base → base.Ns mainGlobals mg → (∃ m, base.Ns sysModules m) → (∀ p ∈ cs, LamX.TabB base mg p.1 p.2) → ∃ fd, FnG l.prog w K mg base CX k fa fd [x] sp ∧ Binds K fd [x] []
theorem sys_of {h : Heap} (q : h.NoSeer) : ∃ m, h.Ns sysModules m := by
  have z := q.mods
  obtain ⟨m, a, _⟩ := z
  exact ⟨m, a⟩
theorem walk_g {l : PySem.W.OpenLaw} {n k : Nat} {q : Program} {loose : List Str} {XP : (Str → Option Value) → Heap → Prop} {YP : World → Heap → Prop} {d : DefRec} {CX : World → CXT} {x : Str}
    (hn : l.most = some n) (hn2 : n ≤ sizeLine) (hdf : d.params.defaults = []) (hr : Room k callerA) (hq : importsNone q = true)
    (F : ∀ (w : World) (mg : Str → Option Value) (fa : Addr) (h : Heap), YP w h → h.Ns mainGlobals mg → mg d.name = some (.ref fa) → ∃ K : PySem.W.Frag, K.In h ∧ LawG l w K (CX w) k n x mg fa h)
    (hCX : ∀ (w : World) (H : Hp) (s : Shared) (e : Value) (s' : Shared), CX w [] H s (fun _ _ _ => False) e s' → False) :
    PySem.W.WalkO q loose XP YP l.row.toRowW d [] (fun f vs => PySem.call f vs) := by
  refine Att.attach_callB hn hdf fun w s₀ s₁ mg mb fa o pm cd doc a vs ns G Y ho hd hcd hmg hobj hints hlen hbits hg => ?_
  obtain ⟨K, KX, cs, sp, hT, nT, C, hsp, hF⟩ := F w mg fa _ Y G.T.g hmg
  exact law_end KX G.T.g G.T.b G.T.builtins G.T.nolimit hg hT nT C G.T.bmain hobj hints (Nat.le_trans hlen hn2) hr (sys_of (G.T.seer hq)) hF (fun H hH hS => hsp H a ns hlen hbits hH hS) fun H e s' => hCX w H s₁ e s'
end Gd

set_option Elab.async false
set_option linter.all false
set_option maxRecDepth 100000
set_option maxHeartbeats 2000000
/-! Rp: plain data in the abstract heap, its printing, comparisons; rules of either kind. -/
namespace Gd
open PySem PySem.Spec PyProof.Rows L2

/-! ### data -/
mutual
/-- at the value v there is the datum: none, a bool, an int, a text, a list, a tuple of such, an empty dict -/
inductive Dt (w : Addr) (K : PySem.W.Frag) (H : Hp) : V → PyData → Prop
  | non : Dt w K H .non .none
  | bl (b : Bool) : Dt w K H (.bl b) (.bool b)
  | int (i : Int) : Dt w K H (.int i) (.int i)
  | str (x : Str) : Dt w K H (.str x) (.str x)
  | lst {a : Addr} {xs : List V} {ds : List PyData} (n : a ≠ w) (h : SqL K H a xs) (r : DtL w K H xs ds) : Dt w K H (.ref a) (.list ds)
  | tup {a : Addr} {xs : List V} {ds : List PyData} (h : SqT K H a xs) (r : DtL w K H xs ds) : Dt w K H (.ref a) (.tuple ds)
  | dic {a : Addr} (h : H a = some (.dK [])) : Dt w K H (.ref a) (.dict [])
inductive DtL (w : Addr) (K : PySem.W.Frag) (H : Hp) : List V → List PyData → Prop
  | nil : DtL w K H [] []
  | cons {v : V} {vs : List V} {d : PyData} {ds : List PyData} (h : Dt w K H v d) (r : DtL w K H vs ds) : DtL w K H (v :: vs) (d :: ds)
end
/-- all but the list at w stands as it stood -/
def Kp (w : Addr) (H H' : Hp) : Prop := ∀ b o, b ≠ w → H b = some o → H' b = some o
theorem Kp.refl (w : Addr) (H : Hp) : Kp w H H := fun _ _ _ h => h
theorem Kp.trans {w : Addr} {H H1 H2 : Hp} (a : Kp w H H1) (b : Kp w H1 H2) : Kp w H H2 := fun c o n h => b c o n (a c o n h)
theorem Kp.same {w : Addr} {H H' : Hp} (a : Same H H') : Kp w H H' := fun b o _ h => a b o h
theorem Kp.new {w p : Addr} {H : Hp} {o : HO} (h : H p = none) : Kp w H (upd H p o) := fun b u _ e => by rw [upd_ne (ne_of_none e h)]; exact e
theorem Kp.put {w : Addr} {H : Hp} {o : HO} : Kp w H (upd H w o) := fun b u n e => by rw [upd_ne n]; exact e
theorem same_new {p : Addr} {H : Hp} {o : HO} (h : H p = none) : Same H (upd H p o) := fun b u e => by rw [upd_ne (ne_of_none e h)]; exact e

/-- H' holds what H holds of such things -/
structure Hd (H H' : Hp) : Prop where
  rd : ∀ a u, (∃ xs, u = .lst xs) ∨ (∃ xs, u = .tup xs) → Rd H a u → Rd H' a u
  dk : ∀ a, H a = some (.dK []) → H' a = some (.dK [])
theorem Hd.of {H H' : Hp} (s : Same H H') : Hd H H' := ⟨fun a u _ h => by
  rcases h with h | ⟨o, h⟩
  · exact .inl (s _ _ h)
  · exact .inr ⟨o, s _ _ h⟩, fun a h => s _ _ h⟩
theorem Same.sqT {K : PySem.W.Frag} {H H' : Hp} {a : Addr} {xs : List V} (s : Same H H') (h : SqT K H a xs) : SqT K H' a xs := by
  rcases h with (h | ⟨o, h⟩) | h
  · exact .inl (.inl (s _ _ h))
  · exact .inl (.inr ⟨o, s _ _ h⟩)
  · exact .inr h
mutual
theorem Dt.same {w : Addr} {K : PySem.W.Frag} {H H' : Hp} (s : Same H H') : ∀ {v : V} {d : PyData}, Dt w K H v d → Dt w K H' v d
  | _, _, .non => .non
  | _, _, .bl b => .bl b
  | _, _, .int i => .int i
  | _, _, .str x => .str x
  | _, _, .lst n h r => .lst n (s.seq h) (DtL.same s r)
  | _, _, .tup h r => .tup (Same.sqT s h) (DtL.same s r)
  | _, _, .dic h => .dic (s _ _ h)
theorem DtL.same {w : Addr} {K : PySem.W.Frag} {H H' : Hp} (s : Same H H') : ∀ {vs : List V} {ds : List PyData}, DtL w K H vs ds → DtL w K H' vs ds
  | _, _, .nil => .nil
  | _, _, .cons h r => .cons (Dt.same s h) (DtL.same s r)
end
theorem DtL.length {w : Addr} {K : PySem.W.Frag} {H : Hp} : ∀ {vs : List V} {ds : List PyData}, DtL w K H vs ds → vs.length = ds.length
  | _, _, .nil => rfl
  | _, _, .cons _ r => congrArg Nat.succ (DtL.length r)
theorem DtL.get {w : Addr} {K : PySem.W.Frag} {H : Hp} : ∀ {vs : List V} {ds : List PyData}, DtL w K H vs ds → ∀ {i : Nat} {v : V}, vs[i]? = some v → ∃ d, ds[i]? = some d ∧ Dt w K H v d
  | _, _, .nil, _, _, e => by simp at e
  | _, _, .cons h r, 0, _, e => by simp at e; subst e; exact ⟨_, rfl, h⟩
  | _, _, .cons h r, i + 1, _, e => by simpa using DtL.get r (i := i) (by simpa using e)
theorem DtL.append {w : Addr} {K : PySem.W.Frag} {H : Hp} : ∀ {vs us : List V} {ds es : List PyData}, DtL w K H vs ds → DtL w K H us es → DtL w K H (vs ++ us) (ds ++ es)
  | _, _, _, _, .nil, s => s
  | _, _, _, _, .cons h r, s => .cons h (DtL.append r s)
theorem DtL.rep {w : Addr} {K : PySem.W.Frag} {H : Hp} {v : V} {d : PyData} (h : Dt w K H v d) : ∀ n, DtL w K H (List.replicate n v) (List.replicate n d)
  | 0 => .nil
  | n + 1 => .cons h (DtL.rep h n)

/-- the first fact of a base: where the table of modules stands -/
def SysM (base : Heap) : Prop := ∃ m, base.Ns sysModules m
section
variable {X : Cx} {pins : List (Addr × Obj)} {σ : L2.St} {H : Hp} {s : Shared} {w : Addr}
theorem sys_ne (S : SysM X.base) (I : Inv X pins σ H s) {a : Addr} {o : Obj} (e : s.heap.get? a = some o) (h : ∀ es n, o.data ≠ .dict es n) : sysModules ≠ a := fun z => by
  obtain ⟨m, os, es, ep, e1, e2, _⟩ := S
  have e3 := I.bk _ _ e1
  rw [z, e] at e3
  cases e3
  exact h _ _ e2
mutual
theorem Dt.reads (S : SysM X.base) (I : Inv X pins σ H s) : ∀ (d : PyData) (v : V) (u : Value), Dt w X.K H v d → RelV v u → ∃ as, Reads s.heap u d as ∧ sysModules ∉ as
  | .none, _, _, h, r => by cases h; cases r; exact ⟨_, .none, by simp⟩
  | .bool b, _, _, h, r => by cases h; cases r; exact ⟨_, .bool b, by simp⟩
  | .int i, _, _, h, r => by cases h; obtain ⟨t, rfl⟩ := r; exact ⟨_, .int i t, by simp⟩
  | .str x, _, _, h, r => by cases h; obtain ⟨t, rfl⟩ := r; exact ⟨_, .str x t, by simp⟩
  | .list ds, _, _, h, r => by
    cases h with
    | lst hw hs ha =>
      cases r
      obtain ⟨its, rv, ⟨o, n, ho, hc, _, hd⟩, _⟩ := I.list hs
      obtain ⟨as, hr, hn⟩ := DtL.reads S I ds _ its ha rv
      refine ⟨_, .list ho hc hd hr, fun z => ?_⟩
      rcases List.mem_cons.mp z with z | z
      · exact sys_ne S I ho (fun es n q => by rw [hd] at q; cases q) z
      · exact hn z
  | .tuple ds, _, _, h, r => by
    cases h with
    | tup hs ha =>
      cases r
      obtain ⟨its, rv, ⟨o, ho, hc, n, hd⟩, _⟩ := I.tuple hs
      obtain ⟨as, hr, hn⟩ := DtL.reads S I ds _ its ha rv
      exact ⟨_, .tuple ho hc hd hr, hn⟩
  | .dict kvs, _, _, h, r => by
    cases h with
    | dic h =>
      cases r
      obtain ⟨_, hne, vs, rv, o, es, ep, e1, e2, e3, _, e4, _⟩ := I.hok _ _ h
      cases rv
      have e4' : es = #[] := by
        have z : es.toList = [] := by
          generalize es.toList = l at e4
          cases e4
          rfl
        exact Array.toList_eq_nil_iff.mp z
      subst e4'
      refine ⟨[_] ++ [], .dict (as := []) (bs := []) e1 e2.1 e3 .nil .nil, fun z => ?_⟩
      simp only [List.append_nil, List.mem_cons, List.not_mem_nil, or_false] at z
      rw [← z] at hne
      exact absurd hne (by simp)
theorem DtL.reads (S : SysM X.base) (I : Inv X pins σ H s) : ∀ (ds : List PyData) (vs : List V) (us : List Value), DtL w X.K H vs ds → Vals vs us → ∃ as, ReadsAll s.heap us ds as ∧ sysModules ∉ as
  | [], _, _, h, r => by cases h; cases r; exact ⟨_, .nil, by simp⟩
  | d :: ds, _, _, h, r => by
    cases h with
    | cons h1 h2 =>
      cases r with
      | cons r1 r2 =>
        obtain ⟨as, q1, n1⟩ := Dt.reads S I d _ _ h1 r1
        obtain ⟨bs, q2, n2⟩ := DtL.reads S I ds _ _ h2 r2
        exact ⟨_, .cons q1 q2, fun z => (List.mem_append.mp z).elim n1 n2⟩
end
/-- repr(x), x an object -/
def rRepr (K : PySem.W.Frag) : List V → Hp → VK → Prop := fun xs H Q => ∃ w a d, xs = [.ref a] ∧ Dt w K H (.ref a) d ∧ d.showable = true ∧ d.depth ≤ 100 ∧ d.shown.length ≤ sizeLine ∧ Q (.str d.shown) H
theorem call_repr (S : SysM X.base) (hG : Cl X.A) (hu : X.A.units + 150 < cLine) : CallR X (.builtin "repr") (rRepr X.K) := by
  intro pins s σ H xs us Q I r h
  obtain ⟨w, a, d, rfl, hd, h1, h2, h3, q⟩ := h
  cases r with
  | cons r1 r2 =>
    cases r2
    obtain ⟨as, hr, hn⟩ := Dt.reads S I d _ _ hd r1
    cases r1
    exact repr_of_reads' (A := X.A) hr h1 (fun _ => hn) hG (by omega) (fun _ _ e => e) (fun h' u tk hk => ⟨.str d.shown, H, I.kept hk, ⟨u, rfl⟩, q⟩) h3
end
end Gd

set_option Elab.async false
set_option linter.all false
set_option maxRecDepth 100000
set_option maxHeartbeats 2000000
/-! Ru: operators of either kind, a called def in one word. -/
namespace Gd
open PySem PySem.Spec PyProof.Rows L2
section
variable {X : Cx}
def rAddA (K : PySem.W.Frag) : R2 := fun x y H Q => rI0 (fun i j => .int (i + j)) x y H Q ∨ rCatA K x y H Q ∨ rCat x y H Q
theorem op_addA : OpR X (binaryOp .Add) (rAddA X.K) := op_add.or (op_catA.or op_cat)
def CMulA (i j : Int) : Prop := CMul i j ∨ CMulW i j
theorem op_mulI : OpR X (binaryOp .Mult) (rI CMulA fun i j => .int (i * j)) := by
  intro pins s σ H x y v u Q I rx ry h
  obtain ⟨i, j, rfl, rfl, hc, q⟩ := h
  rcases hc with hc | hc
  · exact op_mul pins s σ H _ _ v u Q I rx ry ⟨i, j, rfl, rfl, hc, q⟩
  · exact op_mulW pins s σ H _ _ v u Q I rx ry ⟨i, j, rfl, rfl, hc, q⟩
def rMulA (K : PySem.W.Frag) : R2 := fun x y H Q => rI CMulA (fun i j => .int (i * j)) x y H Q ∨ rRepT K x y H Q ∨ rRep x y H Q
theorem op_mulA : OpR X (binaryOp .Mult) (rMulA X.K) := op_mulI.or (op_repT.or op_rep)
def rEqA (K : PySem.W.Frag) : R2 := fun x y H Q => rEq x y H Q ∨ rEqD K x y H Q
theorem op_eqA (hu : X.A.units + 64 < cLine) : OpR X (compareOp .Eq) (rEqA X.K) := op_eq.or (op_eqD hu)
def rNeA (K : PySem.W.Frag) : R2 := fun x y H Q => rNe x y H Q ∨ rNeD K x y H Q
theorem op_neA (hu : X.A.units + 64 < cLine) : OpR X (compareOp .NotEq) (rNeA X.K) := op_ne.or (op_neD hu)
abbrev rSub : R2 := rI0 fun i j => .int (i - j)
abbrev rDiv : R2 := rI CDivW fun i j => .int (i / j)
abbrev rMod : R2 := rI (fun _ j => 0 < j) fun i j => .int (i % j)
abbrev rPow : R2 := rI CPow fun i j => .int (i ^ j.toNat)
def rSlS (K : PySem.W.Frag) : V → Option Int → Option Int → Hp → VK → Prop := fun x lo hi H Q => rSlL K x lo hi H Q ∨ rSlA K x lo hi H Q
theorem sl_any : SlR X (rSlS X.K) := sl_list.or sl_tupA
end
/-- a def that may be called: it keeps its promise, its name, its binding -/
def Cal (P : Program) (w : World) (K : PySem.W.Frag) (mg : Str → Option Value) (base : Heap) (x : Str) (k : Nat) (ps : List Str) (sp : Sp) : Prop :=
  ∃ f fd, FnG P w K mg base CX0 k f fd ps sp ∧ mg x = some (.ref f) ∧ PySem.W.keepIn K (.ref f) = true ∧ Binds K fd ps []
/-- a def of the text as it stands behind the top -/
def Def1 (K : PySem.W.Frag) (mg : Str → Option Value) (x : Str) (st : Stmt) : Prop :=
  ∃ f fd, FunD K x x (defArgs st) (defBody st) (defScope st) [] [] f fd ∧ mg x = some (.ref f)
section
variable {X : Cx} {k : Nat} {ps : List Str} {sp : Sp} {x : Str} {p pos : Pos} {e : Expr} {es : List Expr} {t : TA}
theorem pe_cal (C : Cal X.prog X.w X.K X.mg X.base x k ps sp) (hG : Cl X.A) (hr : Room k X.A) (hg : Gl X x) (ha : PA X (e :: es) t) (hdb : (x == ("__debug__" : Str)) = false := by decide) (he : starEach (e :: es) X.env = (false, eval e X.env) :: starEach es X.env := by rfl) (hpl : (backTo pos (starEach es X.env)).any (·.1) = false := by rfl) :
    PE X (.Call (.Name x p) (e :: es) [] pos) (tCall sp [] E0 t) := by
  obtain ⟨f, fd, F, hm, hk, hb⟩ := C
  exact pe_cg F hG hr hg hm hk hb .nil pass0 ha hdb he hpl
end
section
variable {P : Program} {w : World} {K : PySem.W.Frag} {mg : Str → Option Value} {base : Heap} {x : Str} {st : Stmt} {N ps : List Str} {k : Nat} {sp : Sp}
/-- a def of the text may be called -/
theorem Def1.cal (D : Def1 K mg x st) (S : FnScope N ps (defScope st)) (len : ∀ vs H Q E, sp vs H Q E → vs.length = ps.length)
    (hbi : ∀ (kV doc pm : Value) (an : Option Addr) (cdv ct : Value) (us : List Value), us.length = ps.length → bindArgs (PySem.W.fnOf x x (defArgs st) (defBody st) (defScope st) .none kV doc pm an cdv ct) ⟨us, []⟩ = pure (ps.zip us))
    (hb : ∀ (f : Addr) (cdv : Value) (A : Around) (outer : List Env) (s : Shared) (H : Hp) (vs : List V) (Q : VK) (E : XK), Cl (A.deeper (envOfC x (defScope st) s.heap.objs.size f cdv)) → Room k (A.deeper (envOfC x (defScope st) s.heap.objs.size f cdv)) → sp vs H Q E →
      ∃ t, PSs (cxOf CX0 P w K mg base N x (defScope st) f cdv A outer s H E).nox (defBody st) t ∧ t { nx := fun _ H' => Q .non H', rt := Q } (start N vs) H) :
    Cal P w K mg base x (k + 1) ps sp := by
  obtain ⟨f, fd, F, g⟩ := D
  refine ⟨f, fd, FnG.ok F S len (fun cdv A outer s H vs Q E hG hr _ _ h => ?_), g, F.kp, F.bindsN hbi⟩
  obtain ⟨t, h1, h2⟩ := hb f cdv A outer s H vs Q E hG hr h
  exact ⟨t, h1.nox, h2⟩
end
end Gd

set_option Elab.async false
set_option linter.all false
set_option maxRecDepth 100000
set_option maxHeartbeats 4000000
set_option autoImplicit false
/-! Wr: readings, a step at a time. -/
namespace Gd
open PySem PySem.Spec PyProof.Rows L2
/-! ### readings with names -/
def rInt : List V → Hp → VK → Prop := fun xs H Q => (∃ i, xs = [.int i] ∧ Q (.int i) H) ∨ ∃ k, xs = [.bl k] ∧ Q (.int (if k then 1 else 0)) H
def rAbs : List V → Hp → VK → Prop := fun xs H Q => ∃ i, xs = [.int i] ∧ Q (.int (if i < 0 then -i else i)) H
def rLen (K : PySem.W.Frag) : List V → Hp → VK → Prop := fun xs H Q => ∃ p ys, xs = [.ref p] ∧ (SqL K H p ys ∨ SqT K H p ys) ∧ Q (.int ys.length) H
def rDvm : List V → Hp → VK → Prop := fun xs H Q => ∃ i j, xs = [.int i, .int j] ∧ CDivP i j ∧ ∀ p, H p = none → Q (.ref p) (upd H p (.tup [.int (i / j), .int (i % j)]))
def rTup (K : PySem.W.Frag) : List V → Hp → VK → Prop := fun xs H Q => ∃ p ys, xs = [.ref p] ∧ ((SqL K H p ys ∧ ∀ l, H l = none → Q (.ref l) (upd H l (.tup ys))) ∨ (SqT K H p ys ∧ Q (.ref p) H))
def rLst (K : PySem.W.Frag) : List V → Hp → VK → Prop := fun xs H Q => ∃ p ys, xs = [.ref p] ∧ (SqL K H p ys ∨ SqT K H p ys) ∧ ∀ l, H l = none → Q (.ref l) (upd H l (.lst ys))
def rGt : R2 := rI0 fun i j => .bl (decide (j < i))
def rGe : R2 := rI0 fun i j => .bl (decide (j ≤ i))
def rLt : R2 := rI0 fun i j => .bl (decide (i < j))
def rLe : R2 := rI0 fun i j => .bl (decide (i ≤ j))
section
variable {X : Cx}
theorem call_intA : CallR X (.type "int") rInt := call_int1
theorem call_absA : CallR X (.builtin "abs") rAbs := call_abs
theorem call_lenA : CallR X (.builtin "len") (rLen X.K) := call_len_seq
theorem call_dvmA : CallR X (.builtin "divmod") rDvm := call_divmodW
theorem call_tupA : CallR X (.type "tuple") (rTup X.K) := call_tuple_of
theorem call_lstA : CallR X (.type "list") (rLst X.K) := call_list_of
theorem op_gtA : OpR X (compareOp .Gt) rGt := op_gt
theorem op_geA : OpR X (compareOp .GtE) rGe := op_ge
theorem op_ltA : OpR X (compareOp .Lt) rLt := op_lt
theorem op_leA : OpR X (compareOp .LtE) rLe := op_le
end
section
variable {n : L2.St → Hp → Prop} {r : VK} {b c : L2.St → Hp → Prop} {σ : L2.St} {H : Hp} {Q : VK} {t u : TS} {te ta tb : TE} {tt tu : TT} {g : TG} {a v x y : V} {K : PySem.W.Frag}
theorem w_seq (h : t ⟨u ⟨n, r, b, c⟩, r, b, c⟩ σ H) : tSeq t u ⟨n, r, b, c⟩ σ H := h
theorem w_next (h : n σ H) : tNext ⟨n, r, b, c⟩ σ H := h
theorem w_brk (h : b σ H) : tBreak ⟨n, r, b, c⟩ σ H := h
theorem w_cont (h : c σ H) : tCont ⟨n, r, b, c⟩ σ H := h
theorem w_asg (h : te σ H fun x H1 => g x σ H1 n) : tAsg te g ⟨n, r, b, c⟩ σ H := h
theorem w_ret (h : te σ H r) : tRet te ⟨n, r, b, c⟩ σ H := h
theorem w_retN (h : r .non H) : tRetN ⟨n, r, b, c⟩ σ H := h
theorem w_drop (h : te σ H fun _ H1 => n σ H1) : tDrop te ⟨n, r, b, c⟩ σ H := h
theorem w_if (h : tt σ H fun k H1 => if k = true then t ⟨n, r, b, c⟩ σ H1 else u ⟨n, r, b, c⟩ σ H1) : tIfS tt t u ⟨n, r, b, c⟩ σ H := h
theorem w_c (h : Q v H) : tC v σ H Q := h
theorem w_op {q : R2} (h : ta σ H fun x H1 => tb σ H1 fun y H2 => q x y H2 Q) : tOp q ta tb σ H Q := h
theorem w_un {q : V → Hp → VK → Prop} (h : ta σ H fun x H1 => q x H1 Q) : tUn q ta σ H Q := h
theorem w_cb {q : List V → Hp → VK → Prop} {tz : TA} (h : tz σ H fun vs H1 => q vs H1 Q) : tCB q tz σ H Q := h
theorem w_nil {R : List V → Hp → Prop} (h : R [] H) : tNil σ H R := h
theorem w_cons {R : List V → Hp → Prop} {tz : TA} (h : ta σ H fun x H1 => tz σ H1 fun xs H2 => R (x :: xs) H2) : tCons ta tz σ H R := h
theorem w_tup {tz : TA} (h : tz σ H fun xs H1 => xs.length ≤ sizeLine ∧ ∀ p, H1 p = none → Q (.ref p) (upd H1 p (.tup xs))) : tTup tz σ H Q := h
theorem w_lst {tz : TA} (h : tz σ H fun xs H1 => xs.length ≤ sizeLine ∧ ∀ p, H1 p = none → Q (.ref p) (upd H1 p (.lst xs))) : tLst tz σ H Q := h
theorem w_test {R : Bool → Hp → Prop} (h : te σ H fun x H1 => ∃ k, x = .bl k ∧ R k H1) : tTest te σ H R := h
theorem w_tB {R : Bool → Hp → Prop} (h : te σ H fun x H1 => ∃ k, x = .bl k ∧ R k H1) : tB te σ H R := h
theorem w_bl {k : Bool} {R : Bool → Prop} (h : R k) : ∃ k', V.bl k = .bl k' ∧ R k' := ⟨k, rfl, h⟩
theorem w_and {R : Bool → Hp → Prop} (h : tt σ H fun k H1 => if k = true then tu σ H1 R else R false H1) : tAnd tt tu σ H R := h
theorem w_or {R : Bool → Hp → Prop} (h : tt σ H fun k H1 => if k = true then R true H1 else tu σ H1 R) : tOr tt tu σ H R := h
theorem w_not {R : Bool → Hp → Prop} (h : tt σ H fun k H1 => R (!k) H1) : tNot tt σ H R := h
theorem w_ife (h : tt σ H fun k H1 => if k = true then ta σ H1 Q else tb σ H1 Q) : tIf tt ta tb σ H Q := h
theorem w_andV (h : ta σ H fun x H1 => ∃ k, x = .bl k ∧ if k = true then tb σ H1 Q else Q (.bl false) H1) : tAndV ta tb σ H Q := h
theorem w_orV (h : ta σ H fun x H1 => ∃ k, x = .bl k ∧ if k = true then Q (.bl true) H1 else tb σ H1 Q) : tOrV ta tb σ H Q := h
theorem w_notV (h : ta σ H fun x H1 => ∃ k, x = .bl k ∧ Q (.bl (!k)) H1) : tNotV ta σ H Q := h
theorem w_sub {to ti : TE} {s : TSet} {N : L2.St → Hp → Prop} (h : to σ H fun o H1 => ti σ H1 fun i H2 => s o i v H2 fun H3 => N σ H3) : gSub to ti s v σ H N := h
theorem w_gtup {k : Nat} {z : TGs} {N : L2.St → Hp → Prop} {p : Addr} {xs : List V} (h : SqT K H p xs) (l : xs.length = k) (q : z xs σ H N) : gTup K k z (.ref p) σ H N := ⟨p, xs, rfl, h, l, q⟩
theorem w_gnil {N : L2.St → Hp → Prop} (h : N σ H) : gNil [] σ H N := ⟨rfl, h⟩
theorem w_gcons {z : TGs} {vs : List V} {N : L2.St → Hp → Prop} (h : g v σ H fun σ' H' => z vs σ' H' N) : gCons g z (v :: vs) σ H N := ⟨v, vs, rfl, h⟩
theorem w_call {sp : Sp} {E : XK} {tz : TA} (h : tz σ H fun vs H1 => sp (vs ++ []) H1 Q E) : tCall sp [] E tz σ H Q := h
theorem w_forL {tl : TE} {g : TG} {tb : TS} (h : tl σ H fun x H1 => ∃ a, x = .ref a ∧ (∃ xs, SqL K H1 a xs) ∧ ∃ W : Nat → Nat → L2.St → Hp → Prop, (∃ m, W 0 m σ H1) ∧ ∀ i m σ H, W i m σ H →
    ((Itl K a).stop i H ∧ n σ H) ∨ ((Itl K a).go i H ∧ ∃ N : L2.St → Hp → Prop, (∀ σ' H', N σ' H' → ∃ m', m' < m ∧ W (i + 1) m' σ' H') ∧ ∀ x H', (Itl K a).yld i H x H' → g x σ H' fun σ2 H2 => tb ⟨N, r, n, N⟩ σ2 H2)) : tFor (iList K tl) g tb ⟨n, r, b, c⟩ σ H := h
theorem w_forT {tl : TE} {g : TG} {tb : TS} (h : tl σ H fun x H1 => ∃ a, x = .ref a ∧ (∃ xs, SqT K H1 a xs) ∧ ∃ W : Nat → Nat → L2.St → Hp → Prop, (∃ m, W 0 m σ H1) ∧ ∀ i m σ H, W i m σ H →
    ((Itt K a).stop i H ∧ n σ H) ∨ ((Itt K a).go i H ∧ ∃ N : L2.St → Hp → Prop, (∀ σ' H', N σ' H' → ∃ m', m' < m ∧ W (i + 1) m' σ' H') ∧ ∀ x H', (Itt K a).yld i H x H' → g x σ H' fun σ2 H2 => tb ⟨N, r, n, N⟩ σ2 H2)) : tFor (iTup K tl) g tb ⟨n, r, b, c⟩ σ H := h
theorem f_list {K : PySem.W.Frag} {a : Addr} {xs : List V} {g : TG} {tb : TS} (Pv : Nat → L2.St → Hp → Prop) (h0 : Pv 0 σ H) (hl : ∀ i σ H, i ≤ xs.length → Pv i σ H → SqL K H a xs)
    (hs : ∀ i x σ H, xs[i]? = some x → Pv i σ H → g x σ H fun σ2 H2 => tb ⟨Pv (i + 1), r, n, Pv (i + 1)⟩ σ2 H2) (hd : ∀ σ H, Pv xs.length σ H → n σ H) :
    ∃ W : Nat → Nat → L2.St → Hp → Prop, (∃ m, W 0 m σ H) ∧ ∀ i m σ H, W i m σ H →
      ((Itl K a).stop i H ∧ n σ H) ∨ ((Itl K a).go i H ∧ ∃ N : L2.St → Hp → Prop, (∀ σ' H', N σ' H' → ∃ m', m' < m ∧ W (i + 1) m' σ' H') ∧ ∀ x H', (Itl K a).yld i H x H' → g x σ H' fun σ2 H2 => tb ⟨N, r, n, N⟩ σ2 H2) := for_list (D := ⟨n, r, n, n⟩) Pv h0 hl hs hd
theorem f_tup {K : PySem.W.Frag} {a : Addr} {xs : List V} {g : TG} {tb : TS} (Pv : Nat → L2.St → Hp → Prop) (h0 : Pv 0 σ H) (hl : ∀ i σ H, i ≤ xs.length → Pv i σ H → SqT K H a xs)
    (hs : ∀ i x σ H, xs[i]? = some x → Pv i σ H → g x σ H fun σ2 H2 => tb ⟨Pv (i + 1), r, n, Pv (i + 1)⟩ σ2 H2) (hd : ∀ σ H, Pv xs.length σ H → n σ H) :
    ∃ W : Nat → Nat → L2.St → Hp → Prop, (∃ m, W 0 m σ H) ∧ ∀ i m σ H, W i m σ H →
      ((Itt K a).stop i H ∧ n σ H) ∨ ((Itt K a).go i H ∧ ∃ N : L2.St → Hp → Prop, (∀ σ' H', N σ' H' → ∃ m', m' < m ∧ W (i + 1) m' σ' H') ∧ ∀ x H', (Itt K a).yld i H x H' → g x σ H' fun σ2 H2 => tb ⟨N, r, n, N⟩ σ2 H2) := for_tup (D := ⟨n, r, n, n⟩) Pv h0 hl hs hd
theorem w_forR {tz : TA} {g : TG} {tb : TS} (h : tz σ H fun vs H1 => ∃ j : Int, vs = [.int j] ∧ -(2 ^ 62) ≤ j ∧ j < 2 ^ 62 ∧ ∃ W : Nat → Nat → L2.St → Hp → Prop, (∃ m, W 0 m σ H1) ∧ ∀ i m σ H, W i m σ H →
    ((Itr 0 j.toNat).stop i H ∧ n σ H) ∨ ((Itr 0 j.toNat).go i H ∧ ∃ N : L2.St → Hp → Prop, (∀ σ' H', N σ' H' → ∃ m', m' < m ∧ W (i + 1) m' σ' H') ∧ ∀ x H', (Itr 0 j.toNat).yld i H x H' → g x σ H' fun σ2 H2 => tb ⟨N, r, n, N⟩ σ2 H2)) : tFor (iRng1 tz) g tb ⟨n, r, b, c⟩ σ H := h
theorem f_range {lo : Int} {k : Nat} {g : TG} {tb : TS} (Pv : Nat → L2.St → Hp → Prop) (h0 : Pv 0 σ H)
    (hs : ∀ i σ H, i < k → Pv i σ H → g (.int (lo + i)) σ H fun σ2 H2 => tb ⟨Pv (i + 1), r, n, Pv (i + 1)⟩ σ2 H2) (hd : ∀ σ H, Pv k σ H → n σ H) :
    ∃ W : Nat → Nat → L2.St → Hp → Prop, (∃ m, W 0 m σ H) ∧ ∀ i m σ H, W i m σ H →
      ((Itr lo k).stop i H ∧ n σ H) ∨ ((Itr lo k).go i H ∧ ∃ N : L2.St → Hp → Prop, (∀ σ' H', N σ' H' → ∃ m', m' < m ∧ W (i + 1) m' σ' H') ∧ ∀ x H', (Itr lo k).yld i H x H' → g x σ H' fun σ2 H2 => tb ⟨N, r, n, N⟩ σ2 H2) := for_range (D := ⟨n, r, n, n⟩) Pv h0 hs hd
/-- a while by what holds between the turns -/
theorem w_while {tt : TT} {tb : TS} (Pv : L2.St → Hp → Prop) (μ : L2.St → Hp → Nat) (h0 : Pv σ H)
    (hs : ∀ σ H, Pv σ H → tt σ H fun k H1 => if k = true then tb ⟨fun σ' H' => Pv σ' H' ∧ μ σ' H' < μ σ H, r, n, fun σ' H' => Pv σ' H' ∧ μ σ' H' < μ σ H⟩ σ H1 else n σ H1)
    (mono : ∀ σ H Q Q', (∀ b H1, Q b H1 → Q' b H1) → tt σ H Q → tt σ H Q') : tWhile tt tb ⟨n, r, b, c⟩ σ H := while_by (D := ⟨n, r, b, c⟩) Pv μ h0 hs mono
theorem w_par {i j : Nat} {tz : TA} (h : tz σ H fun vs H1 => ∃ u v, vs = [u, v] ∧ n ((σ.set i (some u)).set j (some v)) H1) : tPar i j tz ⟨n, r, b, c⟩ σ H := h
theorem w_par3 {i j l : Nat} {tz : TA} (h : tz σ H fun vs H1 => ∃ u v w, vs = [u, v, w] ∧ n (((σ.set i (some u)).set j (some v)).set l (some w)) H1) : tPar3 i j l tz ⟨n, r, b, c⟩ σ H := h
theorem w_sl {q : V → Option Int → Option Int → Hp → VK → Prop} {tl th : TO} (h : te σ H fun x H1 => tl σ H1 fun l H2 => th σ H2 fun u H3 => q x l u H3 Q) : tSl q te tl th σ H Q := h
theorem w_nop {R : Option Int → Hp → Prop} (h : R none H) : tNoPart σ H R := h
theorem w_part {R : Option Int → Hp → Prop} (h : te σ H fun x H1 => ∃ i, x = .int i ∧ R (some i) H1) : tPart te σ H R := h
theorem w_len {k : Nat} {B : Prop} (h : k ≤ 1000) (q : B) : k ≤ sizeLine ∧ B := ⟨Nat.le_trans h (by decide), q⟩
theorem w_vint {j : Int} {R : Int → Prop} (h : R j) : ∃ i, V.int j = .int i ∧ R i := ⟨j, rfl, h⟩
theorem w_vbl2 {x y : V} {R : V → V → Prop} (h : R x y) : ∃ u v, [x, y] = [u, v] ∧ R u v := ⟨x, y, rfl, h⟩
theorem w_vbl3 {x y z : V} {R : V → V → V → Prop} (h : R x y z) : ∃ u v w, [x, y, z] = [u, v, w] ∧ R u v w := ⟨x, y, z, rfl, h⟩
theorem cutV_mem {xs : List V} {lo hi : Option Int} {x : V} (h : x ∈ cutV xs lo hi) : x ∈ xs := List.mem_of_mem_drop (List.mem_of_mem_take h)
theorem cut_int {ns : List Int} {lo hi : Option Int} {i : Nat} {x : V} (h : (cutV (ns.map V.int) lo hi)[i]? = some x) : ∃ z, x = .int z := by
  obtain ⟨z, _, e⟩ := List.mem_map.mp (cutV_mem (List.mem_of_getElem? h))
  exact ⟨z, e.symm⟩
/-- name.append(e) -/
theorem w_appV {tz : TA} {l : Addr} {xs : List V} {i : Nat} (e : σ[i]? = some (some (.ref l))) (hl : H l = some (.lst xs)) (h : tz σ H fun vs H2 => rAppend (.ref l) vs H2 Q) : tBM K "list" rAppend (tVar i) tz σ H Q :=
  ⟨_, e, .inl ⟨rfl, _, .inl (.inl hl)⟩, h⟩
theorem w_apd {l : Addr} {xs : List V} {y : V} (hl : H l = some (.lst xs)) (z : xs.length < sizeLine) (h : Q .non (upd H l (.lst (xs ++ [y])))) : rAppend (.ref l) [y] H Q := ⟨l, xs, y, rfl, rfl, hl, z, h⟩
/-! values -/
variable {i j : Int} {k : Bool} {p : Addr} {xs ys : List V}
theorem w_gt (h : Q (.bl (decide (j < i))) H) : rGt (.int i) (.int j) H Q := ⟨i, j, rfl, rfl, h⟩
theorem w_ge (h : Q (.bl (decide (j ≤ i))) H) : rGe (.int i) (.int j) H Q := ⟨i, j, rfl, rfl, h⟩
theorem w_lt (h : Q (.bl (decide (i < j))) H) : rLt (.int i) (.int j) H Q := ⟨i, j, rfl, rfl, h⟩
theorem w_le (h : Q (.bl (decide (i ≤ j))) H) : rLe (.int i) (.int j) H Q := ⟨i, j, rfl, rfl, h⟩
theorem w_subI (h : Q (.int (i - j)) H) : rI0 (fun i j => V.int (i - j)) (.int i) (.int j) H Q := ⟨i, j, rfl, rfl, h⟩
theorem w_neg (h : Q (.int (-i)) H) : rU (fun i => V.int (-i)) (.int i) H Q := ⟨i, rfl, h⟩
theorem w_addI (h : Q (.int (i + j)) H) : rAddA K (.int i) (.int j) H Q := .inl ⟨i, j, rfl, rfl, h⟩
theorem w_mulI (z : CMulA i j) (h : Q (.int (i * j)) H) : rMulA K (.int i) (.int j) H Q := .inl ⟨i, j, rfl, rfl, z, h⟩
theorem w_mod (z : 0 < j) (h : Q (.int (i % j)) H) : rI (fun _ j => 0 < j) (fun i j => V.int (i % j)) (.int i) (.int j) H Q := ⟨i, j, rfl, rfl, z, h⟩
theorem w_div (z : CDivW i j) (h : Q (.int (i / j)) H) : rI CDivW (fun i j => V.int (i / j)) (.int i) (.int j) H Q := ⟨i, j, rfl, rfl, z, h⟩
theorem w_pow (z : CPow i j) (h : Q (.int (i ^ j.toNat)) H) : rI CPow (fun i j => V.int (i ^ j.toNat)) (.int i) (.int j) H Q := ⟨i, j, rfl, rfl, z, h⟩
theorem w_eqS (z : scal x y = true) (h : Q (.bl (decide (x = y))) H) : rEqA K x y H Q := .inl ⟨z, h⟩
theorem w_neS (z : scal x y = true) (h : Q (.bl (!decide (x = y))) H) : rNeA K x y H Q := .inl ⟨z, h⟩
theorem w_eqD {d e : PyData} (h1 : Dp K H x d) (h2 : Dp K H y e) (s1 : SeqAt.shaped d = true) (s2 : SeqAt.shaped e = true) (h : Q (.bl (PyData.eqv d e)) H) : rEqA K x y H Q := .inr ⟨d, e, h1, h2, s1, s2, h⟩
theorem w_neD {d e : PyData} (h1 : Dp K H x d) (h2 : Dp K H y e) (s1 : SeqAt.shaped d = true) (s2 : SeqAt.shaped e = true) (h : Q (.bl (!PyData.eqv d e)) H) : rNeA K x y H Q := .inr ⟨d, e, h1, h2, s1, s2, h⟩
theorem w_ixL (h : SqL K H p xs) (e : atI xs i = some v) (q : Q v H) : rIx K (.ref p) (.int i) H Q := .inl ⟨p, xs, i, v, rfl, rfl, h, e, q⟩
theorem w_ixT (h : SqT K H p xs) (e : atI xs i = some v) (q : Q v H) : rIx K (.ref p) (.int i) H Q := .inr (.inl ⟨p, xs, i, v, rfl, rfl, h, e, q⟩)
theorem w_set {m : Nat} {N : Hp → Prop} (h : H p = some (.lst xs)) (e : ixN xs.length i = some m) (q : N (upd H p (.lst (xs.set m v)))) : rSetL (.ref p) (.int i) v H N := ⟨p, xs, i, m, rfl, rfl, h, e, q⟩
theorem hold_new {H : Hp} {q : Addr} {u o : HO} (h : H p = some u) (hn : H q = none) : upd H q o p = some u := by rw [upd_ne (ne_of_none h hn)]; exact h
theorem w_set0 {N : Hp → Prop} (h : H p = some (.lst (x :: xs))) (q : N (upd H p (.lst (v :: xs)))) : rSetL (.ref p) (.int 0) v H N := ⟨p, _, 0, 0, rfl, rfl, h, by unfold ixN; simp, q⟩
theorem w_set1 {N : Hp → Prop} {x1 : V} (h : H p = some (.lst (x :: x1 :: xs))) (q : N (upd H p (.lst (x :: v :: xs)))) : rSetL (.ref p) (.int 1) v H N := ⟨p, _, 1, 1, rfl, rfl, h, by unfold ixN; simp; omega, q⟩
theorem w_set2 {N : Hp → Prop} {x1 x2 : V} (h : H p = some (.lst (x :: x1 :: x2 :: xs))) (q : N (upd H p (.lst (x :: x1 :: v :: xs)))) : rSetL (.ref p) (.int 2) v H N := ⟨p, _, 2, 2, rfl, rfl, h, by unfold ixN; simp; omega, q⟩
theorem w_int (h : Q (.int i) H) : rInt [.int i] H Q := .inl ⟨i, rfl, h⟩
theorem w_intB (h : Q (.int (if k then 1 else 0)) H) : rInt [.bl k] H Q := .inr ⟨k, rfl, h⟩
theorem w_abs (h : Q (.int (if i < 0 then -i else i)) H) : rAbs [.int i] H Q := ⟨i, rfl, h⟩
theorem w_lenL (h : SqL K H p xs) (q : Q (.int xs.length) H) : rLen K [.ref p] H Q := ⟨p, xs, rfl, .inl h, q⟩
theorem w_lenT (h : SqT K H p xs) (q : Q (.int xs.length) H) : rLen K [.ref p] H Q := ⟨p, xs, rfl, .inr h, q⟩
theorem w_dvm (z : CDivP i j) (h : ∀ p, H p = none → Q (.ref p) (upd H p (.tup [.int (i / j), .int (i % j)]))) : rDvm [.int i, .int j] H Q := ⟨i, j, rfl, z, h⟩
theorem w_tupL (h : SqL K H p xs) (q : ∀ l, H l = none → Q (.ref l) (upd H l (.tup xs))) : rTup K [.ref p] H Q := ⟨p, xs, rfl, .inl ⟨h, q⟩⟩
theorem w_ite {A B : Prop} {q : Prop} {_ : Decidable q} (h1 : q → A) (h2 : ¬ q → B) : if decide q = true then A else B := by
  by_cases h : q
  · rw [decide_eq_true h, if_pos rfl]; exact h1 h
  · rw [decide_eq_false h, if_neg Bool.false_ne_true]; exact h2 h
theorem w_iteB {A B : Prop} {k : Bool} (h1 : k = true → A) (h2 : k = false → B) : if k = true then A else B := by
  cases k
  · exact h2 rfl
  · exact h1 rfl
theorem w_iteT {A B : Prop} (h1 : A) : if true = true then A else B := by rw [if_pos rfl]; exact h1
theorem w_iteF {A B : Prop} (h1 : B) : if false = true then A else B := by rw [if_neg Bool.false_ne_true]; exact h1
theorem w_slL {lo hi : Option Int} (h : SqL K H p xs) (q : ∀ l, H l = none → Q (.ref l) (upd H l (.lst (cutV xs lo hi)))) : rSlS K (.ref p) lo hi H Q := .inl ⟨p, xs, rfl, h, q⟩
end
/-! ### slots -/
section
variable {σ : L2.St} {H : Hp} {Q : VK} {N : L2.St → Hp → Prop} {v : V}

theorem w_var0 (h : Q v H) : tVar 0 (some v :: σ) H Q := ⟨v, rfl, h⟩
theorem w_nam0 {a0 : Option V} (h : N (some v :: σ) H) : gName 0 v (a0 :: σ) H N := h
theorem w_var1 {a0 : Option V} (h : Q v H) : tVar 1 (a0 :: some v :: σ) H Q := ⟨v, rfl, h⟩
theorem w_nam1 {a0 a1 : Option V} (h : N (a0 :: some v :: σ) H) : gName 1 v (a0 :: a1 :: σ) H N := h
theorem w_var2 {a0 a1 : Option V} (h : Q v H) : tVar 2 (a0 :: a1 :: some v :: σ) H Q := ⟨v, rfl, h⟩
theorem w_nam2 {a0 a1 a2 : Option V} (h : N (a0 :: a1 :: some v :: σ) H) : gName 2 v (a0 :: a1 :: a2 :: σ) H N := h
theorem w_var3 {a0 a1 a2 : Option V} (h : Q v H) : tVar 3 (a0 :: a1 :: a2 :: some v :: σ) H Q := ⟨v, rfl, h⟩
theorem w_nam3 {a0 a1 a2 a3 : Option V} (h : N (a0 :: a1 :: a2 :: some v :: σ) H) : gName 3 v (a0 :: a1 :: a2 :: a3 :: σ) H N := h
theorem w_var4 {a0 a1 a2 a3 : Option V} (h : Q v H) : tVar 4 (a0 :: a1 :: a2 :: a3 :: some v :: σ) H Q := ⟨v, rfl, h⟩
theorem w_nam4 {a0 a1 a2 a3 a4 : Option V} (h : N (a0 :: a1 :: a2 :: a3 :: some v :: σ) H) : gName 4 v (a0 :: a1 :: a2 :: a3 :: a4 :: σ) H N := h
theorem w_var5 {a0 a1 a2 a3 a4 : Option V} (h : Q v H) : tVar 5 (a0 :: a1 :: a2 :: a3 :: a4 :: some v :: σ) H Q := ⟨v, rfl, h⟩
theorem w_nam5 {a0 a1 a2 a3 a4 a5 : Option V} (h : N (a0 :: a1 :: a2 :: a3 :: a4 :: some v :: σ) H) : gName 5 v (a0 :: a1 :: a2 :: a3 :: a4 :: a5 :: σ) H N := h
theorem w_var6 {a0 a1 a2 a3 a4 a5 : Option V} (h : Q v H) : tVar 6 (a0 :: a1 :: a2 :: a3 :: a4 :: a5 :: some v :: σ) H Q := ⟨v, rfl, h⟩
theorem w_nam6 {a0 a1 a2 a3 a4 a5 a6 : Option V} (h : N (a0 :: a1 :: a2 :: a3 :: a4 :: a5 :: some v :: σ) H) : gName 6 v (a0 :: a1 :: a2 :: a3 :: a4 :: a5 :: a6 :: σ) H N := h
theorem w_var7 {a0 a1 a2 a3 a4 a5 a6 : Option V} (h : Q v H) : tVar 7 (a0 :: a1 :: a2 :: a3 :: a4 :: a5 :: a6 :: some v :: σ) H Q := ⟨v, rfl, h⟩
theorem w_nam7 {a0 a1 a2 a3 a4 a5 a6 a7 : Option V} (h : N (a0 :: a1 :: a2 :: a3 :: a4 :: a5 :: a6 :: some v :: σ) H) : gName 7 v (a0 :: a1 :: a2 :: a3 :: a4 :: a5 :: a6 :: a7 :: σ) H N := h
theorem w_var8 {a0 a1 a2 a3 a4 a5 a6 a7 : Option V} (h : Q v H) : tVar 8 (a0 :: a1 :: a2 :: a3 :: a4 :: a5 :: a6 :: a7 :: some v :: σ) H Q := ⟨v, rfl, h⟩
theorem w_nam8 {a0 a1 a2 a3 a4 a5 a6 a7 a8 : Option V} (h : N (a0 :: a1 :: a2 :: a3 :: a4 :: a5 :: a6 :: a7 :: some v :: σ) H) : gName 8 v (a0 :: a1 :: a2 :: a3 :: a4 :: a5 :: a6 :: a7 :: a8 :: σ) H N := h
theorem w_var9 {a0 a1 a2 a3 a4 a5 a6 a7 a8 : Option V} (h : Q v H) : tVar 9 (a0 :: a1 :: a2 :: a3 :: a4 :: a5 :: a6 :: a7 :: a8 :: some v :: σ) H Q := ⟨v, rfl, h⟩
theorem w_nam9 {a0 a1 a2 a3 a4 a5 a6 a7 a8 a9 : Option V} (h : N (a0 :: a1 :: a2 :: a3 :: a4 :: a5 :: a6 :: a7 :: a8 :: some v :: σ) H) : gName 9 v (a0 :: a1 :: a2 :: a3 :: a4 :: a5 :: a6 :: a7 :: a8 :: a9 :: σ) H N := h
theorem w_var10 {a0 a1 a2 a3 a4 a5 a6 a7 a8 a9 : Option V} (h : Q v H) : tVar 10 (a0 :: a1 :: a2 :: a3 :: a4 :: a5 :: a6 :: a7 :: a8 :: a9 :: some v :: σ) H Q := ⟨v, rfl, h⟩
theorem w_nam10 {a0 a1 a2 a3 a4 a5 a6 a7 a8 a9 a10 : Option V} (h : N (a0 :: a1 :: a2 :: a3 :: a4 :: a5 :: a6 :: a7 :: a8 :: a9 :: some v :: σ) H) : gName 10 v (a0 :: a1 :: a2 :: a3 :: a4 :: a5 :: a6 :: a7 :: a8 :: a9 :: a10 :: σ) H N := h
theorem w_var11 {a0 a1 a2 a3 a4 a5 a6 a7 a8 a9 a10 : Option V} (h : Q v H) : tVar 11 (a0 :: a1 :: a2 :: a3 :: a4 :: a5 :: a6 :: a7 :: a8 :: a9 :: a10 :: some v :: σ) H Q := ⟨v, rfl, h⟩
theorem w_nam11 {a0 a1 a2 a3 a4 a5 a6 a7 a8 a9 a10 a11 : Option V} (h : N (a0 :: a1 :: a2 :: a3 :: a4 :: a5 :: a6 :: a7 :: a8 :: a9 :: a10 :: some v :: σ) H) : gName 11 v (a0 :: a1 :: a2 :: a3 :: a4 :: a5 :: a6 :: a7 :: a8 :: a9 :: a10 :: a11 :: σ) H N := h
theorem w_var12 {a0 a1 a2 a3 a4 a5 a6 a7 a8 a9 a10 a11 : Option V} (h : Q v H) : tVar 12 (a0 :: a1 :: a2 :: a3 :: a4 :: a5 :: a6 :: a7 :: a8 :: a9 :: a10 :: a11 :: some v :: σ) H Q := ⟨v, rfl, h⟩
theorem w_nam12 {a0 a1 a2 a3 a4 a5 a6 a7 a8 a9 a10 a11 a12 : Option V} (h : N (a0 :: a1 :: a2 :: a3 :: a4 :: a5 :: a6 :: a7 :: a8 :: a9 :: a10 :: a11 :: some v :: σ) H) : gName 12 v (a0 :: a1 :: a2 :: a3 :: a4 :: a5 :: a6 :: a7 :: a8 :: a9 :: a10 :: a11 :: a12 :: σ) H N := h
theorem w_var13 {a0 a1 a2 a3 a4 a5 a6 a7 a8 a9 a10 a11 a12 : Option V} (h : Q v H) : tVar 13 (a0 :: a1 :: a2 :: a3 :: a4 :: a5 :: a6 :: a7 :: a8 :: a9 :: a10 :: a11 :: a12 :: some v :: σ) H Q := ⟨v, rfl, h⟩
theorem w_nam13 {a0 a1 a2 a3 a4 a5 a6 a7 a8 a9 a10 a11 a12 a13 : Option V} (h : N (a0 :: a1 :: a2 :: a3 :: a4 :: a5 :: a6 :: a7 :: a8 :: a9 :: a10 :: a11 :: a12 :: some v :: σ) H) : gName 13 v (a0 :: a1 :: a2 :: a3 :: a4 :: a5 :: a6 :: a7 :: a8 :: a9 :: a10 :: a11 :: a12 :: a13 :: σ) H N := h
theorem w_var14 {a0 a1 a2 a3 a4 a5 a6 a7 a8 a9 a10 a11 a12 a13 : Option V} (h : Q v H) : tVar 14 (a0 :: a1 :: a2 :: a3 :: a4 :: a5 :: a6 :: a7 :: a8 :: a9 :: a10 :: a11 :: a12 :: a13 :: some v :: σ) H Q := ⟨v, rfl, h⟩
theorem w_nam14 {a0 a1 a2 a3 a4 a5 a6 a7 a8 a9 a10 a11 a12 a13 a14 : Option V} (h : N (a0 :: a1 :: a2 :: a3 :: a4 :: a5 :: a6 :: a7 :: a8 :: a9 :: a10 :: a11 :: a12 :: a13 :: some v :: σ) H) : gName 14 v (a0 :: a1 :: a2 :: a3 :: a4 :: a5 :: a6 :: a7 :: a8 :: a9 :: a10 :: a11 :: a12 :: a13 :: a14 :: σ) H N := h
theorem w_var15 {a0 a1 a2 a3 a4 a5 a6 a7 a8 a9 a10 a11 a12 a13 a14 : Option V} (h : Q v H) : tVar 15 (a0 :: a1 :: a2 :: a3 :: a4 :: a5 :: a6 :: a7 :: a8 :: a9 :: a10 :: a11 :: a12 :: a13 :: a14 :: some v :: σ) H Q := ⟨v, rfl, h⟩
theorem w_nam15 {a0 a1 a2 a3 a4 a5 a6 a7 a8 a9 a10 a11 a12 a13 a14 a15 : Option V} (h : N (a0 :: a1 :: a2 :: a3 :: a4 :: a5 :: a6 :: a7 :: a8 :: a9 :: a10 :: a11 :: a12 :: a13 :: a14 :: some v :: σ) H) : gName 15 v (a0 :: a1 :: a2 :: a3 :: a4 :: a5 :: a6 :: a7 :: a8 :: a9 :: a10 :: a11 :: a12 :: a13 :: a14 :: a15 :: σ) H N := h
theorem ix_of {n k : Nat} (h : k < n) : ixN n (k : Int) = some k := by
  unfold ixN
  rw [if_pos (by omega), if_pos (by omega)]
  simp
theorem at_of {α : Type} {xs : List α} {k : Nat} {v : α} (h : xs[k]? = some v) : atI xs (k : Int) = some v := by
  unfold atI
  rw [ix_of (List.getElem?_eq_some_iff.mp h).1]
  exact h
theorem at_0 {α : Type} {a0 : α} {l : List α} : atI (a0 :: l) 0 = some a0 := at_of (k := 0) rfl
theorem ix_0 {α : Type} {a0 : α} {l : List α} : ixN (a0 :: l).length 0 = some 0 := ix_of (k := 0) (by simp only [List.length_cons]; omega)
theorem at_1 {α : Type} {a0 a1 : α} {l : List α} : atI (a0 :: a1 :: l) 1 = some a1 := at_of (k := 1) rfl
theorem ix_1 {α : Type} {a0 a1 : α} {l : List α} : ixN (a0 :: a1 :: l).length 1 = some 1 := ix_of (k := 1) (by simp only [List.length_cons]; omega)
theorem at_2 {α : Type} {a0 a1 a2 : α} {l : List α} : atI (a0 :: a1 :: a2 :: l) 2 = some a2 := at_of (k := 2) rfl
theorem ix_2 {α : Type} {a0 a1 a2 : α} {l : List α} : ixN (a0 :: a1 :: a2 :: l).length 2 = some 2 := ix_of (k := 2) (by simp only [List.length_cons]; omega)
theorem at_3 {α : Type} {a0 a1 a2 a3 : α} {l : List α} : atI (a0 :: a1 :: a2 :: a3 :: l) 3 = some a3 := at_of (k := 3) rfl
theorem ix_3 {α : Type} {a0 a1 a2 a3 : α} {l : List α} : ixN (a0 :: a1 :: a2 :: a3 :: l).length 3 = some 3 := ix_of (k := 3) (by simp only [List.length_cons]; omega)
theorem at_4 {α : Type} {a0 a1 a2 a3 a4 : α} {l : List α} : atI (a0 :: a1 :: a2 :: a3 :: a4 :: l) 4 = some a4 := at_of (k := 4) rfl
theorem ix_4 {α : Type} {a0 a1 a2 a3 a4 : α} {l : List α} : ixN (a0 :: a1 :: a2 :: a3 :: a4 :: l).length 4 = some 4 := ix_of (k := 4) (by simp only [List.length_cons]; omega)
theorem at_5 {α : Type} {a0 a1 a2 a3 a4 a5 : α} {l : List α} : atI (a0 :: a1 :: a2 :: a3 :: a4 :: a5 :: l) 5 = some a5 := at_of (k := 5) rfl
theorem ix_5 {α : Type} {a0 a1 a2 a3 a4 a5 : α} {l : List α} : ixN (a0 :: a1 :: a2 :: a3 :: a4 :: a5 :: l).length 5 = some 5 := ix_of (k := 5) (by simp only [List.length_cons]; omega)
theorem at_6 {α : Type} {a0 a1 a2 a3 a4 a5 a6 : α} {l : List α} : atI (a0 :: a1 :: a2 :: a3 :: a4 :: a5 :: a6 :: l) 6 = some a6 := at_of (k := 6) rfl
theorem ix_6 {α : Type} {a0 a1 a2 a3 a4 a5 a6 : α} {l : List α} : ixN (a0 :: a1 :: a2 :: a3 :: a4 :: a5 :: a6 :: l).length 6 = some 6 := ix_of (k := 6) (by simp only [List.length_cons]; omega)
theorem at_7 {α : Type} {a0 a1 a2 a3 a4 a5 a6 a7 : α} {l : List α} : atI (a0 :: a1 :: a2 :: a3 :: a4 :: a5 :: a6 :: a7 :: l) 7 = some a7 := at_of (k := 7) rfl
theorem ix_7 {α : Type} {a0 a1 a2 a3 a4 a5 a6 a7 : α} {l : List α} : ixN (a0 :: a1 :: a2 :: a3 :: a4 :: a5 :: a6 :: a7 :: l).length 7 = some 7 := ix_of (k := 7) (by simp only [List.length_cons]; omega)
end
/-! ### the written part -/
theorem kof {CX : CXT} {P : Program} {w : World} {K : PySem.W.Frag} {mg : Str → Option Value} {base : Heap} {N : List Str} {q : Str} {sc : Scope} {f : Addr} {cd : Value} {A : Around} {outer : List Env} {s : Shared} {H : Hp} {E : XK} {xe : Value → Shared → Prop} :
    ((cxOf CX P w K mg base N q sc f cd A outer s H E).wish xe).K = K := rfl
theorem kof2 {CX : CXT} {P : Program} {w : World} {K : PySem.W.Frag} {mg : Str → Option Value} {base : Heap} {N : List Str} {q : Str} {sc : Scope} {f : Addr} {cd : Value} {A : Around} {outer : List Env} {s : Shared} {H : Hp} {E : XK} :
    (cxOf CX P w K mg base N q sc f cd A outer s H E).K = K := rfl
theorem kofB {X : Cx} {s : Shared} {H : Hp} {sc : Scope} {e : Env} {fp : List Addr} : (X.blk s H sc e fp).K = X.K := rfl
/-! ### sides -/
theorem cmul_l {i j : Int} (h : -(2 ^ 64) < i ∧ i < 2 ^ 64) : CMulA i j := .inl (.inl h)
theorem cmul_r {i j : Int} (h : -(2 ^ 64) < j ∧ j < 2 ^ 64) : CMulA i j := .inl (.inr h)
theorem cdiv_s {i j : Int} (h : 0 < j) (h2 : j < 1073741824) : CDivW i j := ⟨h, Nat.lt_of_lt_of_le (PySem.Flt.log2_lt_of (k := 30) (by decide) (show j.natAbs < 2 ^ 30 by omega)) (by decide)⟩
theorem cdvm_s {i j : Int} (h : 0 < j) (h2 : j < 1073741824) : CDivP i j := ⟨h, PyProof.noPylong_small (by omega)⟩
end Gd

set_option Elab.async false
set_option linter.all false
set_option maxRecDepth 100000
set_option maxHeartbeats 4000000
/-! Wl: the law's wells, and what the drawing defs promise. -/
namespace Gd
open PySem PySem.Spec PyProof.Rows L2
/-- the list of three at w from which numbers are drawn -/
def Wl (H : Hp) (w : Addr) : Prop := ∃ a m n : Int, H w = some (.lst [.int a, .int m, .int n]) ∧ 0 ≤ a ∧ 0 ≤ m ∧ m < 2147483489
/-- what a drawing def leaves -/
def Dr (w : Addr) (H : Hp) (R : Hp → Prop) : Prop := ∀ H', Kp w H H' → Wl H' w → R H'
/-- draw(well, few) -/
def spDraw : Sp := fun vs H Q _ => ∃ (w : Addr) (few : Int), vs = [.ref w, .int few] ∧ 0 < few ∧ few ≤ 1000000000 ∧ Wl H w ∧ ∀ k : Int, 0 ≤ k → k < few → Dr w H fun H' => Q (.int k) H'
end Gd
namespace Gd
open PySem PySem.Spec PyProof.Rows L2
/-- well(script, lap) -/
def spWell (K : PySem.W.Frag) : Sp := fun vs H Q _ => ∃ (a : Addr) (ns : List Int) (lap : Int), vs = [.ref a, .int lap] ∧ SqL K H a (ns.map V.int) ∧ 0 ≤ lap ∧ lap < 1000 ∧ ∀ w H', H w = none → Same H H' → Wl H' w → Q (.ref w) H'
/-- one(well, some), some a tuple or another list -/
def spOne (K : PySem.W.Frag) : Sp := fun vs H Q _ => ∃ (w t : Addr) (xs : List V), vs = [.ref w, .ref t] ∧ (SqT K H t xs ∨ (SqL K H t xs ∧ t ≠ w)) ∧ xs ≠ [] ∧ xs.length ≤ 1000000000 ∧ Wl H w ∧ ∀ v ∈ xs, Dr w H fun H' => Q v H'
/-- lean(top, base): the fraction in lowest terms, base above 0 -/
def leanV (n d : Int) : List V := [.int (n / (Int.gcd n d : Int)), .int (d / (Int.gcd n d : Int))]
def spLean : Sp := fun vs H Q _ => ∃ n d : Int, vs = [.int n, .int d] ∧ 0 < d ∧ d.natAbs < 2 ^ 8000 ∧ ∀ p, H p = none → Q (.ref p) (upd H p (.tup (leanV n d)))
/-- reading ends in the well kept -/
theorem Wl.kp {H H' : Hp} {w v : Addr} (h : Wl H v) (hne : v ≠ w) (k : Kp w H H') : Wl H' v := by
  obtain ⟨a, m, n, e, r⟩ := h
  exact ⟨a, m, n, k _ _ hne e, r⟩
theorem Wl.same {H H' : Hp} {w : Addr} (h : Wl H w) (k : Same H H') : Wl H' w := by
  obtain ⟨a, m, n, e, r⟩ := h
  exact ⟨a, m, n, k _ _ e, r⟩
theorem sqT_ne {K : PySem.W.Frag} {H : Hp} {t w : Addr} {xs ys : List V} (h : H t = some (.tup xs)) (hw : H w = some (.lst ys)) : t ≠ w := fun e => by
  rw [e, hw] at h
  cases h
/-- a tuple stands behind a draw -/
theorem SqT.kp {K : PySem.W.Frag} {H H' : Hp} {t w : Addr} {xs : List V} (h : SqT K H t xs) (hw : Wl H w) (k : Kp w H H') : SqT K H' t xs := by
  obtain ⟨a, m, n, e, _⟩ := hw
  have ne : ∀ o, H t = some o → (∀ z, o ≠ .lst z) → t ≠ w := fun o h1 h2 e1 => by
    rw [e1, e] at h1
    exact h2 _ (Option.some.inj h1).symm
  rcases h with (h | ⟨o, h⟩) | h
  · exact .inl (.inl (k _ _ (ne _ h (by simp)) h))
  · exact .inl (.inr ⟨o, k _ _ (ne _ h (by simp)) h⟩)
  · exact .inr h
theorem SqL.kp {K : PySem.W.Frag} {H H' : Hp} {t w : Addr} {xs : List V} (h : SqL K H t xs) (hn : t ≠ w) (k : Kp w H H') : SqL K H' t xs := by
  rcases h with (h | ⟨o, h⟩) | h
  · exact .inl (.inl (k _ _ hn h))
  · exact .inl (.inr ⟨o, k _ _ hn h⟩)
  · exact .inr h
end Gd
namespace Gd
theorem gcd_abs (n d : Int) : Int.gcd (if n < 0 then -n else n) (if d < 0 then -d else d) = Int.gcd n d := by
  unfold Int.gcd
  congr 1 <;> split <;> simp
theorem gcd_step {x y : Int} (hx : 0 ≤ x) (hy : 0 ≤ y) : Int.gcd y (x % y) = Int.gcd x y := by
  obtain ⟨a, rfl⟩ := Int.eq_ofNat_of_zero_le hx
  obtain ⟨b, rfl⟩ := Int.eq_ofNat_of_zero_le hy
  show Nat.gcd b ((a : Int) % (b : Int)).natAbs = Nat.gcd a b
  rw [← Int.natCast_emod, Int.natAbs_natCast, Nat.gcd_comm b, ← Nat.gcd_rec, Nat.gcd_comm]
theorem gcd_end {x : Int} (hx : 0 ≤ x) : ((Int.gcd x 0 : Nat) : Int) = x := by
  simp [Int.gcd]
  omega
theorem gcd_pos {n d : Int} (h : 0 < d) : (0 : Int) < (Int.gcd n d : Nat) := by
  have := Int.gcd_pos_of_ne_zero_right n (show d ≠ 0 by omega)
  omega
theorem gcd_le {n d : Int} (h : 0 < d) : Int.gcd n d ≤ d.natAbs := Nat.le_of_dvd (by omega) (Nat.gcd_dvd_right _ _)
end Gd
namespace Gd
theorem Wl.apart {H : L2.Hp} {w l : PySem.Addr} (h : Wl H w) (n : H l = none) : w ≠ l := fun e => by
  subst e
  exact h.elim fun _ ⟨_, _, q, _⟩ => by rw [n] at q; cases q
end Gd

set_option Elab.async false
set_option linter.all false
set_option maxRecDepth 100000
set_option maxHeartbeats 4000000
set_option autoImplicit false
/-! Pd: written data, in one word. -/
namespace Gd
open PySem PySem.Spec PyProof.Rows L2
section
variable {w : Addr} {K : PySem.W.Frag} {H H' : Hp}
mutual
theorem Dt.kp (hw : Wl H w) (k : Kp w H H') : ∀ {v : V} {d : PyData}, Dt w K H v d → Dt w K H' v d
  | _, _, .non => .non
  | _, _, .bl b => .bl b
  | _, _, .int i => .int i
  | _, _, .str x => .str x
  | _, _, .lst n h r => .lst n (SqL.kp h n k) (DtL.kp hw k r)
  | _, _, .tup h r => .tup (SqT.kp h hw k) (DtL.kp hw k r)
  | _, _, .dic (a := a) h => .dic (k _ _ (fun e => by
      obtain ⟨_, _, _, e2, _⟩ := hw
      rw [e, e2] at h
      cases h) h)
theorem DtL.kp (hw : Wl H w) (k : Kp w H H') : ∀ {vs : List V} {ds : List PyData}, DtL w K H vs ds → DtL w K H' vs ds
  | _, _, .nil => .nil
  | _, _, .cons h r => .cons (Dt.kp hw k h) (DtL.kp hw k r)
end
theorem DtL.mem : ∀ {vs : List V} {ds : List PyData}, DtL w K H vs ds → ∀ {v : V}, v ∈ vs → ∃ d ∈ ds, Dt w K H v d
  | _, _, .nil, _, e => by cases e
  | _, _, .cons h r, v, e => by
    rcases List.mem_cons.mp e with rfl | e
    · exact ⟨_, List.mem_cons_self .., h⟩
    · obtain ⟨d, m, q⟩ := DtL.mem r e
      exact ⟨d, List.mem_cons_of_mem _ m, q⟩
end
/-- a written datum: what it comes to -/
def tDat (K : PySem.W.Frag) (d : PyData) : TE := fun _ H Q => ∃ w, H w ≠ none ∧ ∀ H' v, Same H H' → Dt w K H' v d → Q v H'
def tDats (K : PySem.W.Frag) (ds : List PyData) : TA := fun _ H Q => ∃ w, H w ≠ none ∧ ∀ H' vs, Same H H' → DtL w K H' vs ds → Q vs H'
section
variable {X : Cx} {e : Expr} {es : List Expr} {t t' : TE} {ta ta' : TA} {d : PyData} {ds : List PyData} {pos : Pos}
theorem pe_weak (h : PE X e t) (f : ∀ σ H Q, t' σ H Q → t σ H Q) : PE X e t' := ⟨fun pins s σ H Q I q => h.run pins s σ H Q I (f σ H Q q)⟩
theorem pa_weak (h : PA X es ta) (f : ∀ σ H Q, ta' σ H Q → ta σ H Q) : PA X es ta' := ⟨fun pos pins s σ H Q I q => h.run pos pins s σ H Q I (f σ H Q q)⟩
theorem pd_int {i j} : PE X (.Constant (.int i) j pos) (tDat X.K (.int i)) := pe_weak pe_int fun _ H _ ⟨_, _, q⟩ => q H _ (Same.refl H) (.int i)
theorem pd_bl {b j} : PE X (.Constant (.bool b) j pos) (tDat X.K (.bool b)) := pe_weak pe_bl fun _ H _ ⟨_, _, q⟩ => q H _ (Same.refl H) (.bl b)
theorem pd_non {j} : PE X (.Constant .none j pos) (tDat X.K .none) := pe_weak pe_non fun _ H _ ⟨_, _, q⟩ => q H _ (Same.refl H) .non
theorem pd_str {x j} : PE X (.Constant (.str x) j pos) (tDat X.K (.str x)) := pe_weak pe_str fun _ H _ ⟨_, _, q⟩ => q H _ (Same.refl H) (.str x)
theorem pd_neg {i j p2} : PE X (.UnaryOp .USub (.Constant (.int i) j p2) pos) (tDat X.K (.int (-i))) := pe_weak (pe_un un_neg pe_int) fun _ H _ ⟨_, _, q⟩ => ⟨i, rfl, q H _ (Same.refl H) (.int (-i))⟩
theorem pd_pow {i k j j2 p2 p3} (h : CPow i k) : PE X (.BinOp (.Constant (.int i) j p2) .Pow (.Constant (.int k) j2 p3) pos) (tDat X.K (.int (i ^ k.toNat))) :=
  pe_weak (pe_op op_pow pe_int pe_int) fun _ H _ ⟨_, _, q⟩ => ⟨i, k, rfl, rfl, h, q H _ (Same.refl H) (.int _)⟩
theorem pds_nil : PA X [] (tDats X.K []) := pa_weak pa_nil fun _ H _ ⟨_, _, q⟩ => q H _ (Same.refl H) .nil
theorem pds_cons (h : PE X e (tDat X.K d)) (r : PA X es (tDats X.K ds)) (hs : starEach (e :: es) X.env = (false, eval e X.env) :: starEach es X.env := by rfl) : PA X (e :: es) (tDats X.K (d :: ds)) :=
  pa_weak (pa_cons h r hs) fun _ H _ ⟨w, n, q⟩ => ⟨w, n, fun H1 v s1 h1 => ⟨w, fun z => n (s1.free z), fun H2 vs s2 h2 => q H2 _ (s1.trans s2) (.cons (Dt.same s2 h1) h2)⟩⟩
theorem pd_tup {x1} (h : PA X es (tDats X.K ds)) (hz : ds.length ≤ 1000 := by decide) : PE X (.Tuple es x1 pos) (tDat X.K (.tuple ds)) :=
  pe_weak (pe_tup h) fun _ H _ ⟨w, n, q⟩ => ⟨w, n, fun H1 vs s1 h1 => ⟨Nat.le_trans (by rw [h1.length]; exact hz) (by decide), fun p hp => q _ _ (s1.trans (same_new hp)) (.tup (SqT.of upd_same) (DtL.same (same_new hp) h1))⟩⟩
theorem pd_lst (h : PA X es (tDats X.K ds)) (hz : ds.length ≤ 1000 := by decide) : PE X (.List es pos) (tDat X.K (.list ds)) :=
  pe_weak (pe_lst h) fun _ H _ ⟨w, n, q⟩ => ⟨w, n, fun H1 vs s1 h1 => ⟨Nat.le_trans (by rw [h1.length]; exact hz) (by decide), fun p hp => q _ _ (s1.trans (same_new hp)) (.lst (fun z => n (s1.free (z ▸ hp))) (SqL.of upd_same) (DtL.same (same_new hp) h1))⟩⟩
theorem pd_dic : PE X (.Dict [] [] pos) (tDat X.K (.dict [])) := by
  refine pe_weak (pe_dnewK) fun σ H Q h => ?_
  obtain ⟨w, n, q⟩ := h
  exact fun p hp => q _ _ (same_new hp) (.dic upd_same)
end
theorem w_dat {K : PySem.W.Frag} {d : PyData} {σ : L2.St} {H : Hp} {Q : VK} {w : Addr} (n : H w ≠ none) (h : ∀ H' v, Same H H' → Dt w K H' v d → Q v H') : tDat K d σ H Q := ⟨w, n, h⟩
theorem Wl.ne {H : Hp} {w : Addr} (h : Wl H w) : H w ≠ none := by
  obtain ⟨a, m, n, e, _⟩ := h
  rw [e]
  simp
/-- one(well, some), some a tuple of data -/
def spOneD (K : PySem.W.Frag) : Sp := fun vs H Q _ => ∃ (w : Addr) (t : V) (ds : List PyData), vs = [.ref w, t] ∧ Dt w K H t (.tuple ds) ∧ ds ≠ [] ∧ ds.length ≤ 1000000 ∧ Wl H w ∧ ∀ d ∈ ds, ∀ H' v, Kp w H H' → Wl H' w → Dt w K H' v d → Q v H'
theorem one_d {K : PySem.W.Frag} {vs : List V} {H : Hp} {Q : VK} {E : XK} (h : spOneD K vs H Q E) : spOne K vs H Q E := by
  obtain ⟨w, t, ds, rfl, hd, n, z, hw, hq⟩ := h
  cases hd with
  | tup hs hr =>
    refine ⟨w, _, _, rfl, .inl hs, fun e => n (by have := hr.length; rw [e] at this; exact List.length_eq_zero_iff.mp this.symm), by rw [hr.length]; omega, hw, fun v hv H' k wl => ?_⟩
    obtain ⟨d, m, q⟩ := hr.mem hv
    exact hq d m H' v k wl (Dt.kp hw k q)
end Gd
namespace Gd
open PySem PySem.Spec PyProof.Rows L2
/-! ### data of tuples alone: they stand whatever lists change -/
mutual
inductive Tt (K : PySem.W.Frag) (H : Hp) : V → PyData → Prop
  | non : Tt K H .non .none
  | bl (b : Bool) : Tt K H (.bl b) (.bool b)
  | int (i : Int) : Tt K H (.int i) (.int i)
  | str (x : Str) : Tt K H (.str x) (.str x)
  | tup {a : Addr} {xs : List V} {ds : List PyData} (h : SqT K H a xs) (r : TtL K H xs ds) : Tt K H (.ref a) (.tuple ds)
inductive TtL (K : PySem.W.Frag) (H : Hp) : List V → List PyData → Prop
  | nil : TtL K H [] []
  | cons {v : V} {vs : List V} {d : PyData} {ds : List PyData} (h : Tt K H v d) (r : TtL K H vs ds) : TtL K H (v :: vs) (d :: ds)
end
/-- tuples stand -/
def TK (H H' : Hp) : Prop := ∀ b o, ((∃ xs, o = .tup xs) ∨ ∃ u v, o = .frz u v) → H b = some o → H' b = some o
theorem TK.refl (H : Hp) : TK H H := fun _ _ _ h => h
theorem TK.trans {H H1 H2 : Hp} (a : TK H H1) (b : TK H1 H2) : TK H H2 := fun c o n h => b c o n (a c o n h)
theorem TK.same {H H' : Hp} (a : Same H H') : TK H H' := fun b o _ h => a b o h
theorem TK.put {H : Hp} {l : Addr} {xs : List V} {o : HO} (h : H l = some (.lst xs)) : TK H (upd H l o) := fun b u n e => by
  rw [upd_ne]
  · exact e
  · rintro rfl
    rw [h] at e
    cases e
    rcases n with ⟨_, n⟩ | ⟨_, _, n⟩ <;> cases n
theorem TK.kp {H H' : Hp} {w : Addr} (hw : Wl H w) (k : Kp w H H') : TK H H' := fun b o n e => k b o (by
  rintro rfl
  obtain ⟨_, _, _, e2, _⟩ := hw
  rw [e2] at e
  cases e
  rcases n with ⟨_, n⟩ | ⟨_, _, n⟩ <;> cases n) e
section
variable {w : Addr} {K : PySem.W.Frag} {H H' : Hp}
theorem SqT.tk {a : Addr} {xs : List V} (k : TK H H') (h : SqT K H a xs) : SqT K H' a xs := by
  rcases h with (h | ⟨o, h⟩) | h
  · exact .inl (.inl (k _ _ (.inl ⟨_, rfl⟩) h))
  · exact .inl (.inr ⟨o, k _ _ (.inr ⟨_, _, rfl⟩) h⟩)
  · exact .inr h
mutual
theorem Tt.tk (k : TK H H') : ∀ {v : V} {d : PyData}, Tt K H v d → Tt K H' v d
  | _, _, .non => .non
  | _, _, .bl b => .bl b
  | _, _, .int i => .int i
  | _, _, .str x => .str x
  | _, _, .tup h r => .tup (SqT.tk k h) (TtL.tk k r)
theorem TtL.tk (k : TK H H') : ∀ {vs : List V} {ds : List PyData}, TtL K H vs ds → TtL K H' vs ds
  | _, _, .nil => .nil
  | _, _, .cons h r => .cons (Tt.tk k h) (TtL.tk k r)
end
mutual
theorem Tt.dt : ∀ {v : V} {d : PyData}, Tt K H v d → Dt w K H v d
  | _, _, .non => .non
  | _, _, .bl b => .bl b
  | _, _, .int i => .int i
  | _, _, .str x => .str x
  | _, _, .tup h r => .tup h (TtL.dt r)
theorem TtL.dt : ∀ {vs : List V} {ds : List PyData}, TtL K H vs ds → DtL w K H vs ds
  | _, _, .nil => .nil
  | _, _, .cons h r => .cons (Tt.dt h) (TtL.dt r)
end
theorem TtL.length : ∀ {vs : List V} {ds : List PyData}, TtL K H vs ds → vs.length = ds.length
  | _, _, .nil => rfl
  | _, _, .cons _ r => congrArg Nat.succ (TtL.length r)
theorem TtL.append : ∀ {vs us : List V} {ds es : List PyData}, TtL K H vs ds → TtL K H us es → TtL K H (vs ++ us) (ds ++ es)
  | _, _, _, _, .nil, s => s
  | _, _, _, _, .cons h r, s => .cons h (TtL.append r s)
theorem TtL.one {v : V} {d : PyData} (h : Tt K H v d) : TtL K H [v] [d] := .cons h .nil
theorem TtL.mem : ∀ {vs : List V} {ds : List PyData}, TtL K H vs ds → ∀ {v : V}, v ∈ vs → ∃ d ∈ ds, Tt K H v d
  | _, _, .nil, _, e => by cases e
  | _, _, .cons h r, v, e => by
    rcases List.mem_cons.mp e with rfl | e
    · exact ⟨_, List.mem_cons_self .., h⟩
    · obtain ⟨d, m, q⟩ := TtL.mem r e
      exact ⟨d, List.mem_cons_of_mem _ m, q⟩
theorem TtL.get : ∀ {vs : List V} {ds : List PyData}, TtL K H vs ds → ∀ {i : Nat} {v : V}, vs[i]? = some v → ∃ d, ds[i]? = some d ∧ Tt K H v d
  | _, _, .nil, _, _, e => by simp at e
  | _, _, .cons h r, 0, _, e => by simp at e; subst e; exact ⟨_, rfl, h⟩
  | _, _, .cons h r, i + 1, _, e => by simpa using TtL.get r (i := i) (by simpa using e)
end
/-! ### fractions, rows -/
def frD (q : Int × Int) : PyData := .tuple [.int q.1, .int q.2]
def rowD (qs : List (Int × Int)) : PyData := .tuple (qs.map frD)
theorem dt_fr {w : Addr} {K : PySem.W.Frag} {H : Hp} {v : V} {q : Int × Int} (h : Dt w K H v (frD q)) : Tt K H v (frD q) := by
  unfold frD at *
  cases h with
  | tup h r =>
    cases r with
    | cons a r =>
      cases r with
      | cons b r =>
        cases r
        cases a
        cases b
        exact .tup h (.cons (.int _) (.cons (.int _) .nil))
theorem tt_fr {K : PySem.W.Frag} {H : Hp} {v : V} {q : Int × Int} (h : Tt K H v (frD q)) : ∃ a, v = .ref a ∧ SqT K H a [.int q.1, .int q.2] := by
  unfold frD at *
  cases h with
  | tup h r =>
    cases r with
    | cons a r =>
      cases r with
      | cons b r =>
        cases r
        cases a
        cases b
        exact ⟨_, rfl, h⟩
theorem tt_row {K : PySem.W.Frag} {H : Hp} {v : V} {qs : List (Int × Int)} (h : Tt K H v (rowD qs)) : ∃ a xs, v = .ref a ∧ SqT K H a xs ∧ TtL K H xs (qs.map frD) := by
  unfold rowD at *
  cases h with
  | tup h r => exact ⟨_, _, rfl, h, r⟩
def NumOk (q : Int × Int) : Prop := 0 < q.2 ∧ Int.gcd q.1 q.2 = 1 ∧ q.1.natAbs ≤ 1000000 ∧ q.2 ≤ 60
instance (q : Int × Int) : Decidable (NumOk q) := by unfold NumOk; infer_instance
def leanF (n d : Int) : Int × Int := (n / (Int.gcd n d : Nat), d / (Int.gcd n d : Nat))
theorem leanF_gcd {n d : Int} (h : 0 < d) : Int.gcd (leanF n d).1 (leanF n d).2 = 1 := by
  have p : 0 < Int.gcd n d := Int.gcd_pos_of_ne_zero_right n (by omega)
  unfold leanF
  exact Int.gcd_ediv_gcd_ediv_gcd p
theorem leanF_pos {n d : Int} (h : 0 < d) : 0 < (leanF n d).2 := by
  have p := gcd_pos (n := n) h
  exact Int.ediv_pos_of_pos_of_dvd h (by omega) (Int.gcd_dvd_right n d)
theorem leanF_n {n d : Int} (h : 0 < d) : (leanF n d).1.natAbs ≤ n.natAbs := by
  unfold leanF
  have p := gcd_pos (n := n) h
  rw [Int.natAbs_ediv_of_dvd (Int.gcd_dvd_left n d)]
  exact Nat.div_le_self _ _
theorem leanF_d {n d : Int} (h : 0 < d) : (leanF n d).2 ≤ d := by
  unfold leanF
  exact Int.ediv_le_self _ (by omega)
def spNumber (K : PySem.W.Frag) : Sp := fun vs H Q _ => ∃ w, vs = [.ref w] ∧ Wl H w ∧ ∀ q, NumOk q → ∀ H' v, Kp w H H' → Wl H' w → Tt K H' v (frD q) → Q v H'
def spNumbers (K : PySem.W.Frag) : Sp := fun vs H Q _ => ∃ (w : Addr) (few : Nat), vs = [.ref w, .int few] ∧ few ≤ 1000 ∧ Wl H w ∧ ∀ qs : List (Int × Int), qs.length = few → (∀ q ∈ qs, NumOk q) → ∀ H' v, Kp w H H' → Wl H' w → Tt K H' v (rowD qs) → Q v H'
def spMinus (K : PySem.W.Frag) : Sp := fun vs H Q _ => ∃ (a b : Addr) (x y : Int × Int), vs = [.ref a, .ref b] ∧ SqT K H a [.int x.1, .int x.2] ∧ SqT K H b [.int y.1, .int y.2] ∧ 0 < x.2 ∧ 0 < y.2 ∧ x.1.natAbs < 2 ^ 4000 ∧ x.2.natAbs < 2 ^ 4000 ∧ y.1.natAbs < 2 ^ 4000 ∧ y.2.natAbs < 2 ^ 4000 ∧
  ∀ p, H p = none → Q (.ref p) (upd H p (.tup [.int (leanF (x.1 * y.2 - y.1 * x.2) (x.2 * y.2)).1, .int (leanF (x.1 * y.2 - y.1 * x.2) (x.2 * y.2)).2]))
end Gd
namespace Gd
open PySem PySem.Spec PyProof.Rows L2
theorem Cal.imp {P : Program} {w : World} {K : PySem.W.Frag} {mg : Str → Option Value} {base : Heap} {x : Str} {k : Nat} {ps : List Str} {sp sp' : Sp} (c : Cal P w K mg base x k ps sp) (h : ∀ vs H Q E, sp' vs H Q E → sp vs H Q E) : Cal P w K mg base x k ps sp' := by
  obtain ⟨f, fd, F, r⟩ := c
  exact ⟨f, fd, F.imp h, r⟩
end Gd
namespace Gd
open PySem PySem.Spec PyProof.Rows L2
/-- a tuple of data and another one -/
theorem w_catD {w : Addr} {K : PySem.W.Frag} {H : Hp} {Q : VK} {x y : V} {ds es : List PyData} (hx : Dt w K H x (.tuple ds)) (hy : Dt w K H y (.tuple es)) (n1 : ds ≠ []) (n2 : es ≠ []) (z : ds.length + es.length ≤ 1000)
    (h : ∀ p xs, H p = none → Dt w K (upd H p (.tup xs)) (.ref p) (.tuple (ds ++ es)) → Q (.ref p) (upd H p (.tup xs))) : rAddA K x y H Q := by
  cases hx with
  | tup hx rx =>
    cases hy with
    | tup hy ry =>
      refine .inr (.inl ⟨_, _, _, _, rfl, rfl, hx, hy, Nat.le_trans (by rw [rx.length, ry.length]; exact z) (by decide), fun e => ?_, fun _ e => ?_, fun _ _ p hp => h p _ hp (.tup (SqT.of upd_same) (DtL.same (same_new hp) (rx.append ry)))⟩)
      · exact absurd (List.length_eq_zero_iff.mp (by rw [← rx.length, e]; rfl)) n1
      · exact absurd (List.length_eq_zero_iff.mp (by rw [← ry.length, e]; rfl)) n2
end Gd

set_option Elab.async false
set_option linter.all false
set_option maxRecDepth 100000
set_option maxHeartbeats 4000000
set_option autoImplicit false
/-! Kv: the rules that name the written part, by its own letter. -/
namespace Gd
open PySem PySem.Spec PyProof.Rows L2 RZ
section
variable {X : Cx} {K : PySem.W.Frag}
theorem k_add (e : X.K = K) : OpR X (binaryOp .Add) (rAddA K) := e ▸ op_addA
theorem k_mul (e : X.K = K) : OpR X (binaryOp .Mult) (rMulA K) := e ▸ op_mulA
theorem k_eq (e : X.K = K) (hu : X.A.units + 64 < cLine) : OpR X (compareOp .Eq) (rEqA K) := e ▸ op_eqA hu
theorem k_ne (e : X.K = K) (hu : X.A.units + 64 < cLine) : OpR X (compareOp .NotEq) (rNeA K) := e ▸ op_neA hu
theorem k_ix (e : X.K = K) : IxR X (rIx K) := e ▸ ix_seq
theorem k_sl (e : X.K = K) : SlR X (rSlS K) := e ▸ sl_any
theorem k_len (e : X.K = K) : CallR X (.builtin "len") (rLen K) := e ▸ call_lenA
theorem k_tupT (e : X.K = K) : CallR X (.type "tuple") (rTup K) := e ▸ call_tupA
theorem k_lstT (e : X.K = K) : CallR X (.type "list") (rLst K) := e ▸ call_lstA
theorem k_isi (e : X.K = K) : CallR X (.builtin "isinstance") (rIsi K) := e ▸ call_isi
theorem k_all (e : X.K = K) (hc : X.calm = true) : CallR X (.builtin "all") (rAll K) := e ▸ cr_all hc
theorem k_any (e : X.K = K) (hc : X.calm = true) : CallR X (.builtin "any") (rAny K) := e ▸ cr_any hc
theorem k_maxL (e : X.K = K) (hc : X.calm = true) : CallR X (.builtin "max") (rMax K) := e ▸ cr_max hc
theorem k_repr (e : X.K = K) (S : SysM X.base) (hG : Cl X.A) (hu : X.A.units + 150 < cLine) : CallR X (.builtin "repr") (rRepr K) := e ▸ call_repr S hG hu
theorem k_gtup {pos : Pos} {es : List Expr} {k : Nat} {t : TGs} {n : Nat} (e : X.K = K) (hc : X.calm = true) (h : PGs X es t)
    (hn : (assignEach es X.env).length = n := by rfl) (hst : (assignEach es X.env).findIdx? (·.1) = none := by rfl) : PG X (.Tuple es k pos) (gTup K n t) := e ▸ pg_tup hc h hn hst
theorem k_list {tg l : Expr} {tl : TE} (e : X.K = K) (hl : PE X l tl) : PI X tg l (iList K tl) := e ▸ pi_list hl
theorem k_tup {tg l : Expr} {tl : TE} (e : X.K = K) (hl : PE X l tl) : PI X tg l (iTup K tl) := e ▸ pi_tup hl
theorem k_enum {e' : Expr} {ta : TA} {p pos tpos : Pos} {elts : List Expr} {kk : Nat} (e : X.K = K) (hg : Gl X "enumerate") (hm : X.mg "enumerate" = none) (ha : PA X [e'] ta) (hs : starEach [e'] X.env = [(false, eval e' X.env)] := by rfl) :
    PI X (.Tuple elts kk tpos) (.Call (.Name "enumerate" p) [e'] [] pos) (iEnum K ta) := e ▸ pi_enum hg hm ha hs
theorem k_zip {e1 e2 : Expr} {ta : TA} {p pos tpos : Pos} {elts : List Expr} {kk : Nat} (e : X.K = K) (hg : Gl X "zip") (hm : X.mg "zip" = none) (ha : PA X [e1, e2] ta)
    (hs : starEach [e1, e2] X.env = (false, eval e1 X.env) :: starEach [e2] X.env := by rfl) (hpl : (backTo pos (starEach [e2] X.env)).any (·.1) = false := by rfl) :
    PI X (.Tuple elts kk tpos) (.Call (.Name "zip" p) [e1, e2] [] pos) (iZipA K ta) := e ▸ pi_zipA hg hm ha hs hpl
theorem k_dat {e' : Expr} {d : PyData} (e : X.K = K) (h : PE X e' (tDat X.K d)) : PE X e' (tDat K d) := e ▸ h
end
end Gd

set_option Elab.async false
set_option linter.all false
set_option maxRecDepth 100000
set_option maxHeartbeats 4000000
set_option autoImplicit false
/-! Er: errors as values: made by position and by name, their fields read. -/
namespace Gd
open PySem PySem.HandSPX
section
variable {M : Model} {prog : Program} {w : World} {A : Around} {E : Value → Shared → Prop} {R : Result → Shared → Prop} {h : Heap} {g : Array GenState} {d : Drawn} {t : Nat} {os : OsState}
variable {nm q : Str} {C N : Addr} {bs bm bmB : List Value} {hdct : Bool} {sn : List Str} {sub : List Value} {ab : Bool} {col : Option Bool} {dd : Option Addr} {k0 k1 k2 k3 k5 : Option Value} {B newId initId : String} {kw : List (Str × Value)}
theorem chk_call {rest : List Value} {Q : Unit → Shared → Prop} (hC : h.get? C = some (excClassObj nm q C N bs bm hdct sn sub ab col dd k0 k1 k2 k3 k5 newId))
    (hq : Q () ⟨h, g, d, t, os⟩) : wpAny M A (checkBuiltinCall "type.__call__" ⟨.ref C :: rest, kw⟩) Q E ⟨h, g, d, t, os⟩ := by
  have f3 := tc_sub
  have hT : (⟨h, g, d, t, os⟩ : Shared).TypeIs (.ref C) "type" := ⟨_, hC, rfl⟩
  simp only [checkBuiltinCall, tc_kind, tc_split]
  repeat (any_goals (first | assumption | with_reducible refine wpAny_loadPart_at hC ?_ | with_reducible refine wpAny_onRaise ?_ | with_reducible refine wpAny_map ?_ | wp_step))
theorem chk_new (F : ExcBaseFacts B newId initId bmB) (hT : ∀ X : String, bm.contains (.type X) = bmB.contains (.type X)) {rest : List Value} {Q : Unit → Shared → Prop}
    (hC : h.get? C = some (excClassObj nm q C N bs bm hdct sn sub ab col dd k0 k1 k2 k3 k5 newId)) (hq : Q () ⟨h, g, d, t, os⟩) : wpAny M A (checkBuiltinCall newId ⟨.ref C :: rest, kw⟩) Q E ⟨h, g, d, t, os⟩ := by
  have hcont : (Value.ref C :: bm).contains (.type B) = true := by rw [List.contains_cons, hT, F.hasB, Bool.or_true]
  have hstar := F.noStar
  simp only [checkBuiltinCall, F.newKind, F.newSplit, F.newRow]
  repeat (first | refine wpAny_loadPart_at hC ?_ | (refine wpAny_isSubtype_exc hC ?_; rw [hcont]) | refine wpAny_staticBase_exc hC ?_ | refine wpAny_madeBy_exc hC ?_ | simp only [bne_self_eq_false, Bool.false_eq_true, if_false] | wp_step)
  exact hq
theorem new_kw (F : ExcBaseFacts B newId initId bmB) (hT : ∀ X : String, bm.contains (.type X) = bmB.contains (.type X)) {rest : List Value}
    (hC : h.get? C = some (excClassObj nm q C N bs bm hdct sn sub ab col dd k0 k1 k2 k3 k5 newId))
    (hq : R (.ok (.ret (.ref (h.objs.size + 1)))) ⟨(h.push (W.kdv_tup rest)).push (excO C h.objs.size), g, d, t, os⟩) (hrest : rest.length ≤ sizeLine) :
    codeAny (model prog w) A (.builtin newId ⟨.ref C :: rest, kw⟩) R ⟨h, g, d, t, os⟩ := by
  have hends := F.ends
  have hcB : (Value.ref C :: bm).contains (.type B) = true := by rw [List.contains_cons, hT, F.hasB, Bool.or_true]
  have hcA : (Value.ref C :: bm).contains (.type "AttributeError") = false := by rw [List.contains_cons, hT, F.noAttr]; rfl
  have hcN : (Value.ref C :: bm).contains (.type "NameError") = false := by rw [List.contains_cons, hT, F.noName]; rfl
  refine codeAny_builtinAt F.entry ?_
  unfold Builtin.«BaseException.__new__»
  refine wpAt_bind ?_
  show wpAt _ _ _ (stack >>= _) _ _ _
  refine wpAt_bind (wpAt_stack fun p below => wpAt_of_wpAny ?_)
  wp_walk
  refine wpAt_of_wpAny ?_
  rw [F.owner]
  repeat (first | with_reducible refine wpAny_madeHere_exc F.canon hC ?_ | with_reducible refine wpAny_loadPart_at hC ?_ | (with_reducible refine wpAny_isSubtype_exc hC ?_; first | rw [hcB] | rw [hcA] | rw [hcN]) | wp_step)
  show R _ _
  rw [Heap.size_push]
  exact hq
theorem type_kw (F : ExcBaseFacts B newId initId bmB) (hT : ∀ X : String, bm.contains (.type X) = bmB.contains (.type X)) {rest : List Value} {fI : Addr} {Q : Fin → Shared → Prop}
    (hC : h.get? C = some (excClassObj nm q C N bs bm hdct sn sub ab col dd k0 k1 k2 k3 k5 newId))
    (hi : W.Looks (model prog w) h (typeLookup (.ref C) "__init__") (some (.ref fI))) (hb : ∀ self, W.Looks (model prog w) h (bindSpecial (.ref fI) self) (.ref fI, [self])) (hrest : rest.length ≤ sizeLine)
    (hq : codeAny (model prog w) A (.call (.ref fI) ⟨.ref (h.objs.size + 1) :: rest, kw⟩)
      (fun r s' => match r with | .ok (.ret v) => v = .none ∧ Q (.done (.ret (.ref (h.objs.size + 1)))) s' | .ok _ => False | .error e => E e s')
      ⟨(h.push (W.kdv_tup rest)).push (excO C h.objs.size), g, d, t, os⟩) :
    wpAny (model prog w) A (Builtin.«type.__call__» ⟨.ref C :: rest, kw⟩) Q E ⟨h, g, d, t, os⟩ := by
  repeat (first | with_reducible refine wpAny_loadPart_at hC ?_ | with_reducible refine wpAny_madeBy_exc hC ?_ | wp_step)
  refine codeAny_call_builtin_code (Code.quiet_builtin _ F.quiet) (chk_new F hT hC ?_)
  refine new_kw F hT hC ?_ hrest
  show wpAny _ _ _ _ _ _
  have k : ∀ b o, h.get? b = some o → ((h.push (W.kdv_tup rest)).push (excO C h.objs.size)).get? b = some o := fun b o e => Heap.get?_push_of_some _ (Heap.get?_push_of_some _ e)
  have hC₁ := k _ _ hC
  have hget : ((h.push (W.kdv_tup rest)).push (excO C h.objs.size)).get? (h.objs.size + 1) = some (excO C h.objs.size) := by heap_get
  have hcC : (Value.ref C :: bm).contains (.ref C) = true := by simp
  have i1 := hi.keeps k
  have b1 := (hb (.ref (h.objs.size + 1))).keeps k
  unfold isInstance
  repeat (first | with_reducible refine wpAny_loadPart_at hget ?_ | (with_reducible refine wpAny_isSubtype_exc hC₁ ?_; rw [hcC]) | wp_step)
  show wpAny _ _ (typeLookup (.ref C) _) _ _ _
  refine i1.at ?_
  refine wpAny_holding (wpAny_bind (b1.at ?_))
  refine wpAny_bind (wpAny_call (codeAny_mono hq fun r s' z => ?_))
  rcases r with e | (v | _ | _ | _) <;> first | exact z | exact z.elim | skip
  obtain ⟨rfl, z⟩ := z
  first
    | exact wpAny_pure (wpAny_pure z)
    | (wp_walk; exact z)
/-- C(.., k = ..), C's own __init__ called -/
theorem call_kw (F : ExcBaseFacts B newId initId bmB) (hT : ∀ X : String, bm.contains (.type X) = bmB.contains (.type X)) {rest : List Value} {fI : Addr}
    (hC : h.get? C = some (excClassObj nm q C N bs bm hdct sn sub ab col dd k0 k1 k2 k3 k5 newId))
    (hi : W.Looks (model prog w) h (typeLookup (.ref C) "__init__") (some (.ref fI))) (hb : ∀ self, W.Looks (model prog w) h (bindSpecial (.ref fI) self) (.ref fI, [self])) (hrest : rest.length ≤ sizeLine)
    (hq : codeAny (model prog w) (A.under (.builtin "type.__call__" ⟨.ref C :: rest, kw⟩)) (.call (.ref fI) ⟨.ref (h.objs.size + 1) :: rest, kw⟩) (W.InitBack (h.objs.size + 1) R)
      ⟨(h.push (W.kdv_tup rest)).push (excO C h.objs.size), g, d, t, os⟩) :
    codeAny (model prog w) A (.call (.ref C) ⟨rest, kw⟩) R ⟨h, g, d, t, os⟩ := by
  have f1 := tc_lookup
  have f2 := tc_bind (.ref C)
  have hTy : (⟨h, g, d, t, os⟩ : Shared).TypeIs (.ref C) "type" := ⟨_, hC, rfl⟩
  refine codeAny_of_tree ?_
  show wpAny _ _ (callAny (.ref C) _) _ _ _
  repeat (any_goals (first | assumption | with_reducible refine wpAny_loadPart_at hC ?_ | wp_step))
  refine ⟨rfl, ?_⟩
  refine codeAny_call_builtin_at (Code.quiet_builtin _ (by decide +kernel)) entry_typeCall (chk_call hC (type_kw F hT hC hi hb hrest ?_))
  refine codeAny_mono hq fun r s' z => ?_
  rcases r with e | (v | _ | _ | _) <;> exact z
end
end Gd

set_option Elab.async false
set_option linter.all false
set_option maxRecDepth 100000
set_option maxHeartbeats 4000000
set_option autoImplicit false
/-! Eh: errors as values, by the hand layer. -/
namespace Gd
open PySem PySem.Spec PyProof.Rows L2
/-- an error that keeps a value: at a, of the class at C, f its field -/
def Xo (H : Hp) (a C : Addr) (f : Str) (v : V) : Prop := ∃ d, H a = some (exo a C (some d)) ∧ H d = some (exd d [(f, v)])
/-- self.f = v, on one that has no dict yet -/
def spInit (K : PySem.W.Frag) (f : Str) : Sp := fun vs H Q _ => ∃ (a C : Addr) (v : V), vs = [.ref a, v] ∧ OexC K C ∧ PySem.W.findIn K (.ref C) f = some none ∧ H a = some (exo a C none) ∧
  ∀ dx, H dx = none → dx ≠ a → Q .non (upd (upd H dx (exd dx [(f, v)])) a (exo a C (some dx)))
/-- what the text says of an error class, its name x, at C -/
structure ErC (K : PySem.W.Frag) (mg : Str → Option Value) (x : Str) (C : Addr) : Prop where
  g : mg x = some (.ref C)
  o : OexC K C
  ga : PySem.W.findIn K (.ref C) "__getattribute__" = some (some (.builtin "BaseException.__getattribute__"))
  gg : PySem.W.findIn K (.ref C) "__getattr__" = some none
  hd : PySem.W.hasDictIn K C = true
/-- .. that keeps its argument as the field f -/
structure ErI (P : Program) (w : World) (K : PySem.W.Frag) (mg : Str → Option Value) (base : Heap) (x f : Str) (C : Addr) : Prop where
  c : ErC K mg x C
  no : PySem.W.findIn K (.ref C) f = some none
  ini : ∃ fI fd, PySem.W.findIn K (.ref C) "__init__" = some (some (.ref fI)) ∧ PySem.W.typeIn K (.ref fI) = some (.type "function") ∧ FnOk P w K mg base CX0 1 fI fd ["self", f] (spInit K f) ∧ Binds K fd ["self", f] [] ∧
    ∀ (s : Shared) (u v : Value), BindsTo s fd ⟨[u], [(f, v)]⟩ [("self", u), (f, v)]
section
variable {X : Cx} {pins : List (Addr × Obj)} {σ : L2.St} {H1 : Hp} {s1 : Shared}
/-- C(us, **kw) with C's own __init__: the one value v -/
theorem mk_val {x f : Str} {C : Addr} {Q : VK} {us : List Value} {kw : List (Str × Value)} {u : Value} {v : V} (T : ErI X.prog X.w X.K X.mg X.base x f C) (hr : Room 2 X.A) (I1 : Inv X pins σ H1 s1) (rv : RelV v u) (hus : us.length ≤ 1)
    (hbd : ∀ (fd : FuncData), Binds X.K fd ["self", f] [] → (∀ (s : Shared) (u v : Value), BindsTo s fd ⟨[u], [(f, v)]⟩ [("self", u), (f, v)]) → ∀ (s : Shared) (z : Value), X.K.In s.heap → BindsTo s fd ⟨z :: us, kw⟩ [("self", z), (f, u)])
    (hq : ∀ a d, H1 a = none → H1 d = none → d ≠ a → Q (.ref a) (upd (upd (upd H1 a (exo a C none)) d (exd d [(f, v)])) a (exo a C (some d)))) :
    wpAny (model X.prog X.w) X.A (call (.ref C) us kw) (EP X pins σ Q) X.xe s1 := by
  obtain ⟨fI, fd, iC, tI, F1, hb, hk⟩ := T.ini
  obtain ⟨nm, q, N, bs, bm, sn, sub, ab, col, dd, k0, k1, k2, k3, k5, hC, hbm⟩ := T.c.o.cls
  obtain ⟨hp, g, dr, tk, os⟩ := s1
  have hsz : hp.objs.size ≤ hp.objs.size + 1 := Nat.le_succ _
  have hn : H1 (hp.objs.size + 1) = none := I1.hok.fresh hsz
  have kk : ∀ b o, hp.get? b = some o → ((hp.push (PySem.W.kdv_tup us)).push (PySem.HandSPX.excO C hp.objs.size)).get? b = some o := fun b o e => Heap.get?_push_of_some _ (Heap.get?_push_of_some _ e)
  have hget : ((hp.push (PySem.W.kdv_tup us)).push (PySem.HandSPX.excO C hp.objs.size)).get? (hp.objs.size + 1) = some (PySem.HandSPX.excO C hp.objs.size) := by heap_get
  have I2 : Inv X pins σ (upd H1 (hp.objs.size + 1) (exo (hp.objs.size + 1) C none)) ⟨(hp.push (PySem.W.kdv_tup us)).push (PySem.HandSPX.excO C hp.objs.size), g, dr, tk, os⟩ :=
    I1.laid (t' := tk) (a := hp.objs.size + 1) (o := exo (hp.objs.size + 1) C none) (h' := (hp.push (PySem.W.kdv_tup us)).push (PySem.HandSPX.excO C hp.objs.size)) kk hsz (exo_ok hget)
  have r2 : Vals [V.ref (hp.objs.size + 1), v] [Value.ref (hp.objs.size + 1), u] := .cons rfl (.cons rv .nil)
  have hus2 : us.length ≤ sizeLine := Nat.le_trans hus (by decide)
  have hsp : spInit X.K f [V.ref (hp.objs.size + 1), v] (upd H1 (hp.objs.size + 1) (exo (hp.objs.size + 1) C none)) (fun z H2 => z = .non ∧ Q (.ref (hp.objs.size + 1)) H2) (fun _ _ _ => False) :=
    ⟨_, C, v, rfl, T.c.o, T.no, upd_same, fun dx hdx ne => ⟨rfl, hq _ dx hn (by rwa [upd_ne ne] at hdx) ne⟩⟩
  refine wpAny_call (call_kw F.excBase_ValueError (fun Y => PySem.HandSPX.refsVE_contains Y bm hbm) (I1.kIn _ _ hC) (PySem.W.looks_findIn I1.kIn iC) (fun self => PySem.W.bind_fn I1.kIn self tI) hus2
    (codeAny_mono (F1.run _ X.stack _ _ ⟨Value.ref (hp.objs.size + 1) :: us, kw⟩ _ _ _ _ (hr.make C us kw) (I2.env0.make C us kw) (hbd fd hb hk _ _ I2.kIn) r2 hsp) fun r s' hq' => ?_))
  cases r with
  | error er => exact hq'.elim
  | ok fl =>
    cases fl with
    | ret z =>
      have hq2 := I2.after hq'
      obtain ⟨vz, H2, J, rz, ez, q2⟩ := hq2
      subst ez
      exact ⟨rz, ⟨V.ref (hp.objs.size + 1), H2, J, rfl, q2⟩⟩
    | next => exact False.elim hq'
    | brk => exact False.elim hq'
    | cont => exact False.elim hq'
end
/-- what the making of an error tells -/
def tMkV (C : Addr) (f : Str) (ta : TA) : TE := fun σ H Q => ta σ H fun vs H1 => ∃ v, vs = [v] ∧ ∀ a d, H1 a = none → H1 d = none → d ≠ a → Q (.ref a) (upd (upd (upd H1 a (exo a C none)) d (exd d [(f, v)])) a (exo a C (some d)))
section
variable {X : Cx} {x f : Str} {C : Addr} {e : Expr} {te : TE} {ta : TA} {p pos kpos : Pos}
/-- C(e) -/
theorem pe_exc (T : ErI X.prog X.w X.K X.mg X.base x f C) (hr : Room 2 X.A) (hg : Gl X x) (ha : PA X [e] ta) (hdb : (x == ("__debug__" : Str)) = false := by decide) (he : starEach [e] X.env = (false, eval e X.env) :: starEach [] X.env := by rfl) (hpl : (backTo pos (starEach [] X.env)).any (·.1) = false := by rfl) :
    PE X (.Call (.Name x p) [e] [] pos) (tMkV C f ta) := by
  refine ⟨fun pins s σ H Q I h => ?_⟩
  refine wpAny_Call_Name_kw (ld_glob I hg T.c.g ?_ hdb)
  refine PySem.W.callWith_K (h₀ := X.base) I.ok.mod.kin T.c.o.kC (thn (ha.run pos pins s σ H _ I h) fun us s1 ⟨vs, H1, I1, r1, v, ev, q1⟩ => ⟨I1.kIn, ?_⟩) he hpl
  subst ev
  cases r1 with
  | cons ru rn =>
    cases rn
    exact mk_val T hr I1 ru (by simp) (fun fd hb _ s z X' => hb s [z, _] X' rfl) q1
/-- C(f = e) -/
theorem pe_excK {nm : Option Str} (T : ErI X.prog X.w X.K X.mg X.base x f C) (hr : Room 2 X.A) (hg : Gl X x) (hkw : PK X [⟨nm, e, kpos⟩] ta) (hnm : nm = some f)
    (hall : (backToKw pos (keywordEach [⟨nm, e, kpos⟩] X.env)).all (·.1.isSome) = true := by rfl) (hks : (backToKw pos (keywordEach [⟨nm, e, kpos⟩] X.env)).filterMap (·.1) = [f] := by rfl) (hdb : (x == ("__debug__" : Str)) = false := by decide)
    (hpl : ((backTo pos (starEach [] X.env)).any (·.1) || (backToKw pos (keywordEach [⟨nm, e, kpos⟩] X.env)).any (·.1.isNone)) = false := by rfl) :
    PE X (.Call (.Name x p) [] [⟨nm, e, kpos⟩] pos) (tMkV C f ta) := by
  refine ⟨fun pins s σ H Q I h => wpAny_Call_Name_kw (ld_glob I hg T.c.g (PySem.W.callWith_KW0 (h₀ := X.base) I.ok.mod.kin T.c.o.kC hall (thn (hkw.run pos pins s σ H _ I h) fun ws s2 ⟨zs, H2, I2, rz, v, ev, q2⟩ => ⟨I2.kIn, ?_⟩) hpl) hdb)⟩
  rw [hks]
  subst ev
  cases rz with
  | cons ru rn =>
    cases rn
    exact mk_val (us := []) T hr I2 ru (by simp) (fun fd _ hk s z X' => hk s z _) q2
/-- C(), C without own __init__ -/
theorem pe_exc0 {bmB : List Value} {B newId initId : String} (F : ExcBaseFacts B newId initId bmB) (q : PySem.W.excIn X.K C bmB newId = true) (gC : X.mg x = some (.ref C)) (kC : PySem.W.keepIn X.K (.ref C) = true) (hg : Gl X x)
    (hdb : (x == ("__debug__" : Str)) = false := by decide) :
    PE X (.Call (.Name x p) [] [] pos) (fun σ H Q => ∀ a, H a = none → Q (.ref a) (upd H a (exo a C none))) := by
  refine ⟨fun pins s σ H Q I h => ?_⟩
  refine wpAny_Call_Name_kw (ld_glob I hg gC (PySem.W.callWith_K0 I.kIn kC ?_) hdb)
  obtain ⟨bm, N, nm, qn, bs, hdct, sn, sub, ab, col, dd, k0, k1, k2, k3, k5, mN, hC, hN, hni, T⟩ := exc_obj I.kIn q
  refine wpAny_call_exc_subT F T hC hN hni (fun h' a hm => ?_) (by show 0 ≤ sizeLine; exact Nat.zero_le _)
  have hn : H a = none := I.hok.gone hm.new
  obtain ⟨t, ht, _, _⟩ := hm.there
  exact ⟨.ref a, upd H a (exo a C none), I.laidN hm.keeps hm.new hn (exo_ok ht), rfl, h a hn⟩
/-- e.f -/
def tFld (K : PySem.W.Frag) (f : Str) (te : TE) : TE := fun σ H Q => te σ H fun x H1 => ∃ (a C : Addr) (v : V), x = .ref a ∧ XfC K C ∧ PySem.W.findIn K (.ref C) f = some none ∧ Xo H1 a C f v ∧ Q v H1
theorem pe_eat (he : PE X e te) (hb : attributeBase e f X.env (eval e X.env) = eval e X.env := by rfl) : PE X (.Attribute e f pos) (tFld X.K f te) := by
  refine ⟨fun pins s σ H Q I h => ?_⟩
  refine attr_of hb (thn (he.run pins s σ H _ I h) fun u s1 hh => ?_)
  obtain ⟨x, H1, I1, rx, a, C, v, ex, T, hno, ⟨d, e1, e2⟩, q⟩ := hh
  subst ex
  obtain rfl : u = Value.ref a := rx
  obtain ⟨t1, ho⟩ := exo_at I1.hok e1
  obtain ⟨mA, hns, hr⟩ := exd_at I1.hok e2
  obtain ⟨od, hod, hl⟩ := lookIn_ns hns
  obtain ⟨u, hu, ru⟩ := RelO.some_of (v := v) (o := mA f) (by have := hr f; rwa [show [(f, v)].lookup f = some v by simp [List.lookup]] at this)
  have J : PySem.W.InstAt s1.heap a _ C (some od) := ⟨ho, rfl, rfl, hod⟩
  exact HandSPX.exc_get I1.kIn J T.ga T.gg T.exC (PySem.W.findObj_own T.hdC hno rfl (by rw [hl, hu])) (handed_of ru) ⟨v, H1, I1.tok _, ru, q⟩
end
end Gd

set_option Elab.async false
set_option linter.all false
set_option maxRecDepth 100000
set_option maxHeartbeats 4000000
set_option autoImplicit false
/-! Tr: drawn trials. -/
namespace Gd
open PySem PySem.Spec PyProof.Rows L2 RZ
/-- the least common multiple of 1 .. 60 -/
def L60 : Nat := 9690712164777231700912800
theorem dvd60 {d : Int} (h : 0 < d) (h2 : d ≤ 60) : d ∣ (L60 : Int) := by
  have key : ∀ k : Nat, k < 61 → 0 < k → L60 % k = 0 := by decide
  obtain ⟨k, rfl⟩ := Int.eq_ofNat_of_zero_le (show 0 ≤ d by omega)
  exact Int.natCast_dvd_natCast.mpr (Nat.dvd_of_mod_eq_zero (key k (by omega) (by omega)))
/-- an entry of a row made in i turns -/
def Ent (i : Nat) (q : Int × Int) : Prop := 0 < q.2 ∧ Int.gcd q.1 q.2 = 1 ∧ q.2 ∣ (L60 : Int) ∧ (q.1.natAbs : Int) ≤ 1000000 * 2 ^ i * q.2
theorem Ent.up {i j : Nat} {q : Int × Int} (h : Ent i q) (l : i ≤ j) : Ent j q := by
  obtain ⟨a, b, c, d⟩ := h
  refine ⟨a, b, c, Int.le_trans d ?_⟩
  have e : (2 : Int) ^ i ≤ 2 ^ j := by
    have := Nat.pow_le_pow_right (n := 2) (by decide) l
    exact_mod_cast this
  have e2 : (1000000 : Int) * 2 ^ i ≤ 1000000 * 2 ^ j := by omega
  exact Int.mul_le_mul_of_nonneg_right e2 (by omega)
theorem NumOk.ent {q : Int × Int} (h : NumOk q) : Ent 0 q := by
  obtain ⟨a, b, c, d⟩ := h
  refine ⟨a, b, dvd60 a d, ?_⟩
  have : (q.1.natAbs : Int) ≤ 1000000 := by omega
  have e : (1000000 : Int) * 1 ≤ 1000000 * q.2 := by omega
  simp
  omega
theorem Ent.lt {i : Nat} {q : Int × Int} (h : Ent i q) (hi : i ≤ 10) : q.1.natAbs < 2 ^ 120 ∧ q.2.natAbs < 2 ^ 120 := by
  obtain ⟨a, b, c, d⟩ := h
  have l : q.2 ≤ (L60 : Int) := Int.le_of_dvd (by decide) c
  have e : (2 : Int) ^ i ≤ 2 ^ 10 := by
    have := Nat.pow_le_pow_right (n := 2) (by decide) hi
    exact_mod_cast this
  have e2 : (1000000 : Int) * 2 ^ i ≤ 1000000 * 2 ^ 10 := by omega
  have e3 : (1000000 : Int) * 2 ^ i * q.2 ≤ 1000000 * 2 ^ 10 * L60 := Int.le_trans (Int.mul_le_mul_of_nonneg_right e2 (by omega)) (Int.mul_le_mul_of_nonneg_left l (by decide))
  have e4 : (1000000 : Int) * 2 ^ 10 * L60 < 2 ^ 120 := by decide
  have e5 : (L60 : Int) < 2 ^ 120 := by decide
  have e6 : ((2 ^ 120 : Nat) : Int) = 2 ^ 120 := by decide
  constructor <;> omega
theorem Ent.minus {i : Nat} {x y : Int × Int} (hx : Ent i x) (hy : Ent i y) : Ent (i + 1) (leanF (x.1 * y.2 - y.1 * x.2) (x.2 * y.2)) := by
  obtain ⟨a1, b1, c1, d1⟩ := hx
  obtain ⟨a2, b2, c2, d2⟩ := hy
  have p : 0 < x.2 * y.2 := Int.mul_pos a1 a2
  generalize hn : x.1 * y.2 - y.1 * x.2 = n
  generalize hd : x.2 * y.2 = d at p
  have g0 := gcd_pos (n := n) p
  have gn : (leanF n d).1 * (Int.gcd n d : Nat) = n := Int.ediv_mul_cancel (Int.gcd_dvd_left n d)
  have gd : (leanF n d).2 * (Int.gcd n d : Nat) = d := Int.ediv_mul_cancel (Int.gcd_dvd_right n d)
  refine ⟨leanF_pos p, leanF_gcd p, ?_, ?_⟩
  · obtain ⟨u, hu⟩ := c1
    obtain ⟨v, hv⟩ := c2
    -- n * L = (x.1 u - y.1 v) d
    have e : n * (L60 : Int) = (x.1 * u - y.1 * v) * d := by
      have e1 : n * (L60 : Int) = x.1 * y.2 * L60 - y.1 * x.2 * L60 := by rw [← hn, Int.sub_mul]
      have e2 : x.1 * y.2 * (L60 : Int) = x.1 * u * (x.2 * y.2) := by rw [hu]; simp only [Int.mul_comm, Int.mul_assoc, Int.mul_left_comm]
      have e3 : y.1 * x.2 * (L60 : Int) = y.1 * v * (x.2 * y.2) := by rw [hv]; simp only [Int.mul_comm, Int.mul_assoc, Int.mul_left_comm]
      rw [e1, e2, e3, hd, ← Int.sub_mul]
    have e' : (leanF n d).1 * (L60 : Int) = (x.1 * u - y.1 * v) * (leanF n d).2 := by
      have q : (leanF n d).1 * (L60 : Int) * (Int.gcd n d : Nat) = (x.1 * u - y.1 * v) * (leanF n d).2 * (Int.gcd n d : Nat) := by
        rw [Int.mul_assoc _ (leanF n d).2, gd, ← e, Int.mul_right_comm, gn]
      exact Int.eq_of_mul_eq_mul_right (by omega) q
    have cop : Int.gcd (leanF n d).2 (leanF n d).1 = 1 := by rw [Int.gcd_comm]; exact leanF_gcd p
    have dv : (leanF n d).2 ∣ (leanF n d).1 * (L60 : Int) := ⟨x.1 * u - y.1 * v, by rw [e', Int.mul_comm]⟩
    have dn : (leanF n d).2.natAbs ∣ (leanF n d).1.natAbs * L60 := by
      have := Int.natAbs_dvd_natAbs.mpr dv
      rwa [Int.natAbs_mul, Int.natAbs_natCast] at this
    have := Nat.Coprime.dvd_of_dvd_mul_left (k := (leanF n d).2.natAbs) cop dn
    exact Int.natAbs_dvd_natAbs.mp (by rwa [Int.natAbs_natCast])
  · have s1 : ((x.1 * y.2).natAbs : Int) ≤ 1000000 * 2 ^ i * d := by
      rw [Int.natAbs_mul]
      push_cast
      have : (y.2.natAbs : Int) = y.2 := by omega
      rw [this, ← hd, ← Int.mul_assoc]
      exact Int.mul_le_mul_of_nonneg_right d1 (by omega)
    have s2 : ((y.1 * x.2).natAbs : Int) ≤ 1000000 * 2 ^ i * d := by
      rw [Int.natAbs_mul]
      push_cast
      have : (x.2.natAbs : Int) = x.2 := by omega
      rw [this, ← hd, Int.mul_comm x.2, ← Int.mul_assoc]
      exact Int.mul_le_mul_of_nonneg_right d2 (by omega)
    have s3 : (n.natAbs : Int) ≤ 1000000 * 2 ^ (i + 1) * d := by
      have t : 1000000 * 2 ^ (i + 1) * d = 1000000 * 2 ^ i * d + 1000000 * 2 ^ i * d := by
        rw [Int.pow_succ]
        have : (1000000 : Int) * (2 ^ i * 2) * d = 2 * (1000000 * 2 ^ i * d) := by simp only [Int.mul_comm, Int.mul_assoc, Int.mul_left_comm]
        omega
      rw [t]
      omega
    have g1 : (n.natAbs : Int) = ((leanF n d).1.natAbs : Int) * (Int.gcd n d : Nat) := by
      have := congrArg Int.natAbs gn
      rw [Int.natAbs_mul, Int.natAbs_natCast] at this
      exact_mod_cast this.symm
    have s4 : ((leanF n d).1.natAbs : Int) * (Int.gcd n d : Nat) ≤ 1000000 * 2 ^ (i + 1) * (leanF n d).2 * (Int.gcd n d : Nat) := by
      rw [← g1, Int.mul_assoc, gd]
      exact s3
    exact Int.le_of_mul_le_mul_right s4 (by omega)
end Gd
namespace Gd
open PySem PySem.Spec PyProof.Rows L2 RZ
open PySem.PyData (canLay0 canLayAll0 depth depthAll)
theorem canAll {α : Type} {f : α → PyData} : ∀ {l : List α}, (∀ a ∈ l, (f a).canLay0 = true) → canLayAll0 (l.map f) = true
  | [], _ => by simp [canLayAll0]
  | a :: l, h => by
    simp only [List.map_cons, canLayAll0, Bool.and_eq_true]
    exact ⟨h a (List.mem_cons_self ..), canAll fun b m => h b (List.mem_cons_of_mem _ m)⟩
theorem depAll {α : Type} {f : α → PyData} {k : Nat} : ∀ {l : List α}, (∀ a ∈ l, (f a).depth ≤ k) → depthAll (l.map f) ≤ k
  | [], _ => by simp [depthAll]
  | a :: l, h => by
    simp only [List.map_cons, depthAll]
    have h1 := h a (List.mem_cons_self ..)
    have h2 := depAll (l := l) fun b m => h b (List.mem_cons_of_mem _ m)
    omega
theorem can_fr (q : Int × Int) : (frD q).canLay0 = true := by simp [frD, canLay0, canLayAll0]
theorem dep_fr (q : Int × Int) : (frD q).depth = 1 := by simp [frD, depth, depthAll]
theorem can_row (qs : List (Int × Int)) : (rowD qs).canLay0 = true := by
  unfold rowD
  simp only [canLay0]
  exact canAll fun a _ => can_fr a
theorem dep_row (qs : List (Int × Int)) : (rowD qs).depth ≤ 2 := by
  unfold rowD
  simp only [depth]
  have := depAll (k := 1) (f := frD) (l := qs) fun a _ => by rw [dep_fr]; omega
  omega
theorem shaped_rows (rows : List (List (Int × Int))) : SeqAt.shaped (.list (rows.map rowD)) = true := by
  unfold SeqAt.shaped
  simp only [canLay0, depth, Bool.and_eq_true, decide_eq_true_eq]
  have := depAll (k := 2) (f := rowD) (l := rows) fun a _ => dep_row a
  exact ⟨canAll fun a _ => can_row a, decide_eq_true (show depthAll (rows.map rowD) + 1 ≤ 64 by omega)⟩
section
variable {K : PySem.W.Frag} {H : Hp}
mutual
theorem Tt.dp : ∀ {v : V} {d : PyData}, Tt K H v d → Dp K H v d
  | _, _, .non => .non
  | _, _, .bl b => .bl b
  | _, _, .int i => .int i
  | _, _, .str x => .str x
  | _, _, .tup h r => .tup h (TtL.dp r)
theorem TtL.dp : ∀ {vs : List V} {ds : List PyData}, TtL K H vs ds → DpAll K H vs ds
  | _, _, .nil => .nil
  | _, _, .cons h r => .cons (Tt.dp h) (TtL.dp r)
end
end
theorem eqv_nil (ds : List PyData) : PyData.eqv (.list ds) (.list []) = decide (ds = []) := by
  cases ds <;> simp [PyData.eqv, PyData.eqvAll]
/-- a drawn trial -/
structure Trl where
  rows : List (List (Int × Int))
  spreads : List (Int × Int)
  blocks : List Int
def Trl.d (t : Trl) : PyData := .tuple [.tuple (t.rows.map rowD), rowD t.spreads, .tuple (t.blocks.map .int)]
def SprOk (q : Int × Int) : Prop := q ∈ [((1, 1) : Int × Int), (2, 1), (1, 2), (1, 3), (5, 2)]
structure Trl.Ok (t : Trl) (most : Nat) : Prop where
  n1 : 1 ≤ t.rows.length
  n2 : t.rows.length ≤ most
  wide : ∃ k, 1 ≤ k ∧ k ≤ 5 ∧ ∀ r ∈ t.rows, r.length = k
  ent : ∀ r ∈ t.rows, ∀ q ∈ r, Ent 10 q
  spl : t.spreads.length = t.rows.length
  spr : ∀ q ∈ t.spreads, SprOk q
  bl : t.blocks = [] ∨ (t.blocks.length = t.rows.length ∧ ∀ b ∈ t.blocks, 0 ≤ b ∧ b ≤ 4)
def spTrial (K : PySem.W.Frag) : Sp := fun vs H Q _ => ∃ (w : Addr) (most : Nat), vs = [.ref w, .int most] ∧ 1 ≤ most ∧ most ≤ 10 ∧ Wl H w ∧ ∀ t : Trl, t.Ok most → ∀ H' v, Kp w H H' → Wl H' w → Tt K H' v t.d → Q v H'
/-! ### a comprehension over zip of two tuples -/
theorem c_zipT {K : PySem.W.Frag} {a b : Addr} {xs ys : List V} {g : TG} {tt : TT} {te : TE} {vs : List Nat} {σ : L2.St} {H1 : Hp} {D : Addr} {Qd : Hp → Prop} (hl : xs.length = ys.length) (Pv : Nat → Hp → Prop) (h0 : Pv 0 (upd H1 D (.lst []))) (hq : ∀ i H, Pv i H → SqT K H a xs ∧ SqT K H b ys)
    (hs : ∀ i x y T H, xs[i]? = some x → ys[i]? = some y → Pv i H → H T = none → g (.ref T) (wipe σ vs) (upd H T (.tup [x, y])) fun σ2 H2 => wipe σ2 vs = wipe σ vs ∧ tt σ2 H2 fun b H3 =>
      if b = true then te σ2 H3 fun y H4 => ∃ acc, H4 D = some (.lst acc) ∧ acc.length < sizeLine ∧ Pv (i + 1) (upd H4 D (.lst (acc ++ [y]))) else Pv (i + 1) H3) (hd : ∀ H, Pv xs.length H → Qd H) :
    ∃ W : Nat → Nat → Hp → Prop, (∃ m, W 0 m (upd H1 D (.lst []))) ∧ ∀ i m H, W i m H →
      ((ItzT K a b).stop i H ∧ Qd H) ∨ ((ItzT K a b).go i H ∧ ∃ Nx : Hp → Prop, (∀ H', Nx H' → ∃ m', m' < m ∧ W (i + 1) m' H') ∧ ∀ x H', (ItzT K a b).yld i H x H' → g x (wipe σ vs) H' fun σ2 H2 => wipe σ2 vs = wipe σ vs ∧ tt σ2 H2 fun b H3 =>
        if b = true then te σ2 H3 fun y H4 => ∃ acc, H4 D = some (.lst acc) ∧ acc.length < sizeLine ∧ Nx (upd H4 D (.lst (acc ++ [y]))) else Nx H3) := by
  refine ⟨fun i m H => m = xs.length - i ∧ i ≤ xs.length ∧ Pv i H, ⟨xs.length, by simp, Nat.zero_le _, h0⟩, ?_⟩
  rintro i m H ⟨rfl, hi, p⟩
  obtain ⟨qa, qb⟩ := hq i H p
  by_cases hlt : i < xs.length
  · have hx : xs[i]? = some xs[i] := List.getElem?_eq_getElem hlt
    have hy : ys[i]? = some (ys[i]'(by omega)) := List.getElem?_eq_getElem (by omega)
    refine .inr ⟨⟨xs, ys, _, _, qa, qb, hx, hy⟩, Pv (i + 1), fun H' p' => ⟨xs.length - (i + 1), by omega, rfl, hlt, p'⟩, ?_⟩
    rintro _ _ ⟨T, x, y, rfl, hT, rfl, fx, fy⟩
    exact hs i x y T H (fx xs qa) (fy ys qb) p hT
  · exact .inl ⟨⟨xs, ys, qa, qb, .inl (by omega)⟩, hd H ((show i = xs.length by omega) ▸ p)⟩
section
variable {n : L2.St → Hp → Prop} {r : VK} {b c : L2.St → Hp → Prop} {σ : L2.St} {H : Hp} {Q : VK} {K : PySem.W.Frag}
theorem w_lc {wi : TI} {g : TG} {tt : TT} {te : TE} {vs : List Nat} (h : wi σ H fun J H1 => ∀ D, H1 D = none → ∃ W : Nat → Nat → Hp → Prop, (∃ m, W 0 m (upd H1 D (.lst []))) ∧ ∀ i m H, W i m H →
      (J.stop i H ∧ Q (.ref D) H) ∨ (J.go i H ∧ ∃ Nx : Hp → Prop, (∀ H', Nx H' → ∃ m', m' < m ∧ W (i + 1) m' H') ∧ ∀ x H', J.yld i H x H' → g x (wipe σ vs) H' fun σ2 H2 => wipe σ2 vs = wipe σ vs ∧ tt σ2 H2 fun b H3 =>
        if b = true then te σ2 H3 fun y H4 => ∃ acc, H4 D = some (.lst acc) ∧ acc.length < sizeLine ∧ Nx (upd H4 D (.lst (acc ++ [y]))) else Nx H3)) : tLc wi g tt te vs σ H Q := h
theorem w_iz {tz : TA} {R : It → Hp → Prop} (h : tz σ H fun vs H1 => ∃ a b xs ys, vs = [.ref a, .ref b] ∧ ((SqL K H1 a xs ∧ SqL K H1 b ys ∧ R (Itz K a b) H1) ∨ (SqT K H1 a xs ∧ SqT K H1 b ys ∧ R (ItzT K a b) H1))) : iZipA K tz σ H R := h
theorem w_yes {R : Bool → Hp → Prop} (h : R true H) : tYes σ H R := h
end
end Gd

namespace Gd
open PySem PySem.Spec PyProof.Rows L2 RZ
theorem w_cut {n : L2.St → Hp → Prop} {r : VK} {b c : L2.St → Hp → Prop} {σ : L2.St} {H : Hp} {t u : TS} (Mid : L2.St → Hp → Prop) (h1 : t ⟨Mid, r, b, c⟩ σ H) (h2 : ∀ σ' H', Mid σ' H' → u ⟨n, r, b, c⟩ σ' H') : C8.tCut t u ⟨n, r, b, c⟩ σ H := ⟨Mid, h1, h2⟩
/-- what stands while a trial is drawn: three lists beside the well -/
structure TI (K : PySem.W.Frag) (w l1 l2 l3 : Addr) (H : Hp) (few i : Nat) (rows : List (List (Int × Int))) (sprs : List (Int × Int)) (blks : List Int) (xr xs : List V) (H' : Hp) : Prop where
  a1 : rows.length = i
  a2 : sprs.length = i
  a3 : blks.length = i
  a4 : ∀ r ∈ rows, r.length = few ∧ ∀ q ∈ r, Ent i q
  a5 : ∀ s ∈ sprs, SprOk s
  a6 : ∀ b ∈ blks, 0 ≤ b ∧ b ≤ 4
  h1 : H' l1 = some (.lst xr)
  t1 : TtL K H' xr (rows.map rowD)
  h2 : H' l2 = some (.lst xs)
  t2 : TtL K H' xs (sprs.map frD)
  h3 : H' l3 = some (.lst (blks.map V.int))
  n1 : w ≠ l1
  n2 : w ≠ l2
  n3 : w ≠ l3
  n12 : l1 ≠ l2
  n13 : l1 ≠ l3
  n23 : l2 ≠ l3
  z1 : H l1 = none
  z2 : H l2 = none
  z3 : H l3 = none
  kp : Kp w H H'
  wl : Wl H' w
section
variable {K : PySem.W.Frag} {w l1 l2 l3 : Addr} {H H' H2 : Hp} {few i : Nat} {rows : List (List (Int × Int))} {sprs : List (Int × Int)} {blks : List Int} {xr xs : List V}
theorem TI.dr (T : TI K w l1 l2 l3 H few i rows sprs blks xr xs H') (k : Kp w H' H2) (wl : Wl H2 w) : TI K w l1 l2 l3 H few i rows sprs blks xr xs H2 :=
  { T with h1 := k _ _ T.n1.symm T.h1, t1 := TtL.tk (TK.kp T.wl k) T.t1, h2 := k _ _ T.n2.symm T.h2, t2 := TtL.tk (TK.kp T.wl k) T.t2, h3 := k _ _ T.n3.symm T.h3, kp := T.kp.trans k, wl := wl }
theorem TI.new (T : TI K w l1 l2 l3 H few i rows sprs blks xr xs H') {p : Addr} {o : HO} (n : H' p = none) : TI K w l1 l2 l3 H few i rows sprs blks xr xs (upd H' p o) := T.dr (Kp.new n) (T.wl.same (same_new n))
/-- a list of its own is written: the rest stands -/
theorem kp_own {o : HO} {l : Addr} (k : Kp w H H') (z : H l = none) : Kp w H (upd H' l o) := fun b u n e => by
  rw [upd_ne (ne_of_none e z)]
  exact k _ _ n e
theorem wl_own {o : HO} {l : Addr} (wl : Wl H' w) (n : w ≠ l) : Wl (upd H' l o) w := by
  obtain ⟨a, m, k, e, r⟩ := wl
  exact ⟨a, m, k, by rw [upd_ne n]; exact e, r⟩
/-- a turn's three items are put behind -/
theorem TI.step (T : TI K w l1 l2 l3 H few i rows sprs blks xr xs H') {r : List (Int × Int)} {s : Int × Int} {b : Int} {vr vs : V} {H3 H5 : Hp} (hr : Tt K H' vr (rowD r)) (lr : r.length = few) (er : ∀ q ∈ r, Ent (i + 1) q)
    (k3 : Kp w (upd H' l1 (.lst (xr ++ [vr]))) H3) (w3 : Wl H3 w) (hs : Tt K H3 vs (frD s)) (os : SprOk s) (k5 : Kp w (upd H3 l2 (.lst (xs ++ [vs]))) H5) (w5 : Wl H5 w) (hb : 0 ≤ b ∧ b ≤ 4) :
    TI K w l1 l2 l3 H few (i + 1) (rows ++ [r]) (sprs ++ [s]) (blks ++ [b]) (xr ++ [vr]) (xs ++ [vs]) (upd H5 l3 (.lst ((blks ++ [b]).map V.int))) := by
  have p1 := TK.put (o := .lst (xr ++ [vr])) T.h1
  have w1 : Wl (upd H' l1 (.lst (xr ++ [vr]))) w := wl_own T.wl T.n1
  have q3 := TK.kp w1 k3
  have e2 : H3 l2 = some (.lst xs) := k3 _ _ T.n2.symm (by rw [upd_ne T.n12.symm]; exact T.h2)
  have p4 := TK.put (o := .lst (xs ++ [vs])) e2
  have w4 : Wl (upd H3 l2 (.lst (xs ++ [vs]))) w := wl_own w3 T.n2
  have q5 := TK.kp w4 k5
  have e3 : H5 l3 = some (.lst (blks.map V.int)) := k5 _ _ T.n3.symm (by
    rw [upd_ne T.n23.symm]
    exact k3 _ _ T.n3.symm (by rw [upd_ne T.n13.symm]; exact T.h3))
  have p6 := TK.put (o := .lst ((blks ++ [b]).map V.int)) e3
  have all : TK H' (upd H5 l3 (.lst ((blks ++ [b]).map V.int))) := (((p1.trans q3).trans p4).trans q5).trans p6
  have tail : TK H3 (upd H5 l3 (.lst ((blks ++ [b]).map V.int))) := (p4.trans q5).trans p6
  refine { T with a1 := by rw [List.length_append, T.a1]; rfl, a2 := by rw [List.length_append, T.a2]; rfl, a3 := by rw [List.length_append, T.a3]; rfl, a4 := fun x hx => ?_, a5 := fun x hx => ?_, a6 := fun x hx => ?_, h1 := ?_, t1 := ?_, h2 := ?_, t2 := ?_, h3 := upd_same, kp := ?_, wl := wl_own w5 T.n3 }
  · rcases List.mem_append.mp hx with h | h
    · exact ⟨(T.a4 x h).1, fun q hq => ((T.a4 x h).2 q hq).up (Nat.le_succ _)⟩
    · rw [List.mem_singleton.mp h]
      exact ⟨lr, er⟩
  · rcases List.mem_append.mp hx with h | h
    · exact T.a5 x h
    · rw [List.mem_singleton.mp h]
      exact os
  · rcases List.mem_append.mp hx with h | h
    · exact T.a6 x h
    · rw [List.mem_singleton.mp h]
      exact hb
  · rw [upd_ne T.n13]
    refine k5 _ _ T.n1.symm ?_
    rw [upd_ne T.n12]
    exact k3 _ _ T.n1.symm upd_same
  · rw [show (rows ++ [r]).map rowD = rows.map rowD ++ [rowD r] from List.map_append]
    exact (TtL.tk all T.t1).append (.one (hr.tk all))
  · rw [upd_ne T.n23]
    exact k5 _ _ T.n2.symm upd_same
  · rw [show (sprs ++ [s]).map frD = sprs.map frD ++ [frD s] from List.map_append]
    exact (TtL.tk all T.t2).append (.one (hs.tk tail))
  · refine kp_own (fun c o n e => k5 _ _ n ?_) T.z3
    rw [upd_ne (ne_of_none e T.z2)]
    refine k3 _ _ n ?_
    rw [upd_ne (ne_of_none e T.z1)]
    exact T.kp _ _ n e
end
end Gd

namespace Gd
open PySem PySem.Spec PyProof.Rows L2 RZ
theorem TtL.nth {K : PySem.W.Frag} {H : Hp} {α : Type} {f : α → PyData} {vs : List V} {l : List α} (h : TtL K H vs (l.map f)) {i : Nat} {v : V} (e : vs[i]? = some v) : ∃ a, l[i]? = some a ∧ Tt K H v (f a) := by
  obtain ⟨d, h1, h2⟩ := h.get e
  rw [List.getElem?_map] at h1
  cases q : l[i]? with
  | none => rw [q] at h1; cases h1
  | some a => rw [q] at h1; cases h1; exact ⟨a, rfl, h2⟩
theorem TtL.memf {K : PySem.W.Frag} {H : Hp} {α : Type} {f : α → PyData} {vs : List V} {l : List α} (h : TtL K H vs (l.map f)) {v : V} (e : v ∈ vs) : ∃ a ∈ l, Tt K H v (f a) := by
  obtain ⟨i, hi⟩ := List.mem_iff_getElem?.mp e
  obtain ⟨a, h1, h2⟩ := h.nth hi
  exact ⟨a, List.mem_of_getElem? h1, h2⟩
theorem TtL.len {K : PySem.W.Frag} {H : Hp} {α : Type} {f : α → PyData} {vs : List V} {l : List α} (h : TtL K H vs (l.map f)) : vs.length = l.length := by
  rw [h.length, List.length_map]
theorem TtL.ints {K : PySem.W.Frag} {H : Hp} : ∀ l : List Int, TtL K H (l.map V.int) (l.map PyData.int)
  | [] => .nil
  | i :: l => .cons (.int i) (TtL.ints l)
end Gd

set_option Elab.async false
set_option linter.all false
set_option maxRecDepth 100000
set_option maxHeartbeats 4000000
set_option autoImplicit false
/-! Ei: isinstance of errors as values; what is stepped over. -/
namespace Gd
open PySem PySem.Spec PyProof.Rows L2 RZ
/-- what the class at D must say, so that isinstance asks its instances rightly -/
structure IxC (K : PySem.W.Frag) (D : Addr) : Prop where
  hc : (PySem.W.clsIn K D).isSome = true
  hg : PySem.W.findIn K (.ref D) "__getattribute__" = some (some (.builtin "BaseException.__getattribute__"))
  hk : PySem.W.findIn K (.ref D) "__getattr__" = some none
  hs : PySem.W.subIn K (.ref D) (.type "BaseException") = some true
  ha : PySem.W.findIn K (.ref D) "__class__" = some (some (.builtin "object.__class__"))
  hn : PySem.W.specialIn K (.builtin "object.__class__") "__get__" = some (some (.builtin "getset_descriptor.__get__"))
  ht : PySem.W.takesIn K (.builtin "object.__class__") = some true
  hm : PySem.W.mroIn K D (.type "object") = some true
/-- an error of the class at C -/
def Er (H : Hp) (a C : Addr) : Prop := ∃ d, H a = some (exo a C d) ∧ ∀ dd, d = some dd → ∃ fs, H dd = some (exd dd fs)
theorem Er.same {H H' : Hp} {a C : Addr} (s : Same H H') (h : Er H a C) : Er H' a C := by
  obtain ⟨d, h1, h2⟩ := h
  exact ⟨d, s _ _ h1, fun dd e => let ⟨fs, q⟩ := h2 dd e; ⟨fs, s _ _ q⟩⟩
theorem Xo.same {H H' : Hp} {a C : Addr} {f : Str} {v : V} (s : Same H H') (h : Xo H a C f v) : Xo H' a C f v := by
  obtain ⟨d, h1, h2⟩ := h
  exact ⟨d, s _ _ h1, s _ _ h2⟩
theorem Xo.er {H : Hp} {a C : Addr} {f : Str} {v : V} (h : Xo H a C f v) : Er H a C := by
  obtain ⟨d, h1, h2⟩ := h
  exact ⟨some d, h1, fun dd e => by cases e; exact ⟨_, h2⟩⟩
theorem Er.new {H : Hp} {a C p : Addr} {o : HO} (h : Er H a C) (n : H p = none) : Er (upd H p o) a C := h.same (same_new n)
/-- isinstance(e, c), e an error -/
def rIsX (K : PySem.W.Frag) : List V → Hp → VK → Prop := fun xs H Q => ∃ (a D : Addr) (c : V) (u : Value) (b : Bool), xs = [.ref a, c] ∧ Er H a D ∧ IxC K D ∧ ClsV c u ∧ PySem.W.kitOne K (.ref D) u = some b ∧ Q (.bl b) H
theorem call_isX {X : Cx} : CallR X (.builtin "isinstance") (rIsX X.K) := by
  intro pins s σ H xs us Q I r h
  obtain ⟨a, D, c, u, b, rfl, ⟨d, h1, h2⟩, C, k, e, q⟩ := h
  obtain ⟨u1, u2, rfl, r1, r2⟩ := vals2 r
  have e2 := k.eq r2
  subst e2
  obtain rfl : u1 = Value.ref a := r1
  obtain ⟨t1, ho⟩ := exo_at I.hok h1
  have J : ∃ od, PySem.W.InstAt s.heap a { cls := .ref D, dict := d, data := .fields #[.ref t1, .none, .none, .none, .bool false, .none] } D od := by
    cases d with
    | none => exact ⟨none, ho, rfl, rfl, trivial⟩
    | some dd =>
      obtain ⟨fs, hf⟩ := h2 dd rfl
      obtain ⟨mA, hns, hr⟩ := exd_at I.hok hf
      obtain ⟨od, hod, hl⟩ := lookIn_ns hns
      exact ⟨some od, ho, rfl, rfl, hod⟩
  obtain ⟨od, J⟩ := J
  exact PySem.W.kia_one (PySem.W.kitx_exc C.hc C.hg C.hk C.hs C.ha C.hn C.ht C.hm) I.kIn J e (fun z => nomatch z) fun tk => ⟨.bl b, H, I.tok tk, rfl, q⟩
theorem k_isx {X : Cx} {K : PySem.W.Frag} (e : X.K = K) : CallR X (.builtin "isinstance") (rIsX K) := e ▸ call_isX
theorem k_eat {X : Cx} {K : PySem.W.Frag} {e : Expr} {te : TE} {pos : Pos} {f : Str} (eK : X.K = K) (he : PE X e te) (hb : attributeBase e f X.env (eval e X.env) = eval e X.env := by rfl) : PE X (.Attribute e f pos) (tFld K f te) := eK ▸ pe_eat he hb
section
variable {K : PySem.W.Frag} {σ : L2.St} {H : Hp} {Q : VK} {a D : Addr} {c : V} {u : Value} {b : Bool} {f : Str} {v : V} {ta : TA} {te : TE}
theorem w_isx (h : Er H a D) (C : IxC K D) (k : ClsV c u) (e : PySem.W.kitOne K (.ref D) u = some b) (q : Q (.bl b) H) : rIsX K [.ref a, c] H Q := ⟨a, D, c, u, b, rfl, h, C, k, e, q⟩
theorem w_mk {C : Addr} (h : ta σ H fun vs H1 => ∃ v, vs = [v] ∧ ∀ a d, H1 a = none → H1 d = none → d ≠ a → Q (.ref a) (upd (upd (upd H1 a (exo a C none)) d (exd d [(f, v)])) a (exo a C (some d)))) : tMkV C f ta σ H Q := h
theorem mk_same {H1 : Hp} {a C d : Addr} (ha : H1 a = none) (hd : H1 d = none) (n : d ≠ a) : Same H1 (upd (upd (upd H1 a (exo a C none)) d (exd d [(f, v)])) a (exo a C (some d))) := fun b o e => by
  rw [upd_ne (ne_of_none e ha), upd_ne (ne_of_none e hd), upd_ne (ne_of_none e ha)]
  exact e
theorem mk_xo {H1 : Hp} {a C d : Addr} (n : d ≠ a) : Xo (upd (upd (upd H1 a (exo a C none)) d (exd d [(f, v)])) a (exo a C (some d))) a C f v := ⟨d, upd_same, by rw [upd_ne n]; exact upd_same⟩
theorem w_mk1 {C : Addr} (h : ∀ a H2, H a = none → Same H H2 → Xo H2 a C f v → Q (.ref a) H2) : ∃ v', [v] = [v'] ∧ ∀ a d, H a = none → H d = none → d ≠ a → Q (.ref a) (upd (upd (upd H a (exo a C none)) d (exd d [(f, v')])) a (exo a C (some d))) :=
  ⟨v, rfl, fun a d ha hd n => h a _ ha (mk_same ha hd n) (mk_xo n)⟩
theorem w_enum {R : It → Hp → Prop} (h : ta σ H fun vs H1 => ∃ a xs, vs = [.ref a] ∧ SqL K H1 a xs ∧ R (Ite K a) H1) : iEnum K ta σ H R := h
theorem w_rng1 {R : It → Hp → Prop} (h : ta σ H fun vs H1 => ∃ j : Int, vs = [.int j] ∧ -(2 ^ 62) ≤ j ∧ j < 2 ^ 62 ∧ R (Itr 0 j.toNat) H1) : iRng1 ta σ H R := h
theorem w_list {tl : TE} {R : It → Hp → Prop} (h : tl σ H fun x H1 => ∃ a, x = .ref a ∧ (∃ xs, SqL K H1 a xs) ∧ R (Itl K a) H1) : iList K tl σ H R := h
theorem w_neSame {z : Str} (q : Q (.bl false) H) : rNeA K (.str z) (.str z) H Q := by
  refine w_neS rfl ?_
  rw [decide_eq_true rfl]
  exact q
theorem w_eq2 {x y : V} (e : x = y) (s : scal x x = true) (q : Q (.bl true) H) : rEqA K x y H Q := by
  subst e
  refine w_eqS s ?_
  rw [decide_eq_true rfl]
  exact q
theorem w_fld (h : te σ H fun x H1 => ∃ (a C : Addr) (v : V), x = .ref a ∧ XfC K C ∧ PySem.W.findIn K (.ref C) f = some none ∧ Xo H1 a C f v ∧ Q v H1) : tFld K f te σ H Q := h
theorem w_catL {x y : Addr} {xs ys : List V} (h1 : H x = some (.lst xs)) (h2 : H y = some (.lst ys)) (z : xs.length + ys.length ≤ 1000) (h : ∀ p, H p = none → Q (.ref p) (upd H p (.lst (xs ++ ys)))) : rAddA K (.ref x) (.ref y) H Q :=
  .inr (.inr ⟨x, y, xs, ys, rfl, rfl, h1, h2, Nat.le_trans z (by decide), h⟩)
theorem w_repL {x : Addr} {xs : List V} {k : Int} (h1 : H x = some (.lst xs)) (h2 : 0 ≤ k) (h3 : k < 1000) (z : xs.length * k.toNat ≤ 1000) (h : ∀ p, H p = none → Q (.ref p) (upd H p (.lst (List.replicate k.toNat xs).flatten))) : rMulA K (.ref x) (.int k) H Q :=
  .inr (.inr ⟨x, k, xs, rfl, rfl, h1, by omega, by omega, Nat.le_trans z (by decide), h⟩)
theorem w_all {bs : List Bool} (h : SqL K H a (bs.map V.bl)) (q : Q (.bl (bs.all id)) H) : rAll K [.ref a] H Q := ⟨a, bs, rfl, h, q⟩
theorem w_rep {d : PyData} {w : Addr} (h : Dt w K H (.ref a) d) (h1 : d.showable = true) (h2 : d.depth ≤ 100) (h3 : d.shown.length ≤ sizeLine) (q : Q (.str d.shown) H) : rRepr K [.ref a] H Q := ⟨w, a, d, rfl, h, h1, h2, h3, q⟩
end
theorem Kp.same_of {w : Addr} {H H1 H2 : Hp} (n : H w = none) (s : Same H H1) (k : Kp w H1 H2) : Same H H2 := fun b o e => k b o (ne_of_none e n) (s b o e)
theorem u150 {k : Nat} {A : Around} (r : Room k A) : A.units + 150 < cLine := by have := r.un; omega
section
variable {K : PySem.W.Frag} {g : TG} {tt : TT} {te : TE} {vs : List Nat} {σ : L2.St} {H1 : Hp} {D : Addr} {Qd : Hp → Prop} {a : Addr} {xs : List V}
theorem same_put {H H' : Hp} {D : Addr} {o : HO} (h : H D = none) (s : Same H H') : Same H (upd H' D o) := fun b u e => by
  rw [upd_ne (ne_of_none e h)]
  exact s b u e
/-- a comprehension's turns -/
abbrev LcW (J : It) (g : TG) (tt : TT) (te : TE) (vs : List Nat) (σ : L2.St) (H1 : Hp) (D : Addr) (Q : Hp → Prop) : Prop := ∃ W : Nat → Nat → Hp → Prop, (∃ m, W 0 m (upd H1 D (.lst []))) ∧ ∀ i m H, W i m H →
      (J.stop i H ∧ Q H) ∨ (J.go i H ∧ ∃ Nx : Hp → Prop, (∀ H', Nx H' → ∃ m', m' < m ∧ W (i + 1) m' H') ∧ ∀ x H', J.yld i H x H' → g x (wipe σ vs) H' fun σ2 H2 => wipe σ2 vs = wipe σ vs ∧ tt σ2 H2 fun b H3 =>
        if b = true then te σ2 H3 fun y H4 => ∃ acc, H4 D = some (.lst acc) ∧ acc.length < sizeLine ∧ Nx (upd H4 D (.lst (acc ++ [y]))) else Nx H3)
/-- what stands between the turns: the list so far, and the rest as it stood -/
structure PvA (Ac : Nat → List V → Prop) (H1 : Hp) (D : Addr) (i : Nat) (H : Hp) : Prop where
  ex : ∃ acc, H D = some (.lst acc) ∧ acc.length ≤ i ∧ Ac i acc ∧ Same H1 H
theorem PvA.put {Ac : Nat → List V → Prop} {i : Nat} {acc : List V} {H H4 : Hp} {y : V} (hD : H1 D = none) (e : H D = some (.lst acc)) (l : acc.length ≤ i) (s : Same H1 H) (hi : i ≤ 1000) (s4 : Same H H4) (h : Ac (i + 1) (acc ++ [y])) :
    ∃ acc, H4 D = some (.lst acc) ∧ acc.length < sizeLine ∧ PvA Ac H1 D (i + 1) (upd H4 D (.lst (acc ++ [y]))) :=
  ⟨acc, s4 _ _ e, Nat.lt_of_le_of_lt (Nat.le_trans l hi) (by decide), ⟨acc ++ [y], upd_same, by rw [List.length_append]; simpa using l, h, same_put hD (s.trans s4)⟩⟩
theorem PvA.skip {Ac : Nat → List V → Prop} {i : Nat} {acc : List V} {H H4 : Hp} (e : H D = some (.lst acc)) (l : acc.length ≤ i) (s : Same H1 H) (s4 : Same H H4) (h : Ac (i + 1) acc) : PvA Ac H1 D (i + 1) H4 :=
  ⟨acc, s4 _ _ e, Nat.le_succ_of_le l, h, s.trans s4⟩
/-- one turn's duty, x taken at the heap H -/
abbrev LcT (g : TG) (tt : TT) (te : TE) (vs : List Nat) (σ : L2.St) (D : Addr) (P : Hp → Prop) (x : V) (H : Hp) : Prop := g x (wipe σ vs) H fun σ2 H2 => wipe σ2 vs = wipe σ vs ∧ tt σ2 H2 fun b H3 =>
        if b = true then te σ2 H3 fun y H4 => ∃ acc, H4 D = some (.lst acc) ∧ acc.length < sizeLine ∧ P (upd H4 D (.lst (acc ++ [y]))) else P H3
/-- over a list -/
theorem c_lst (Ac : Nat → List V → Prop) (hD : H1 D = none) (hx : SqL K H1 a xs) (h0 : Ac 0 [])
    (hs : ∀ i x acc H, xs[i]? = some x → H D = some (.lst acc) → acc.length ≤ i → Ac i acc → Same H1 H → LcT g tt te vs σ D (PvA Ac H1 D (i + 1)) x H)
    (hd : ∀ acc H, H D = some (.lst acc) → Ac xs.length acc → Same H1 H → Qd H) : LcW (Itl K a) g tt te vs σ H1 D Qd := by
  refine ⟨fun i m H => m = xs.length - i ∧ i ≤ xs.length ∧ PvA Ac H1 D i H, ⟨xs.length, by simp, Nat.zero_le _, ⟨[], upd_same, Nat.le_refl _, h0, same_put hD (Same.refl _)⟩⟩, ?_⟩
  rintro i m H ⟨rfl, hi, ⟨acc, e, l, ac, s⟩⟩
  have hq := s.seq hx
  by_cases hlt : i < xs.length
  · have hx' : xs[i]? = some xs[i] := List.getElem?_eq_getElem hlt
    refine .inr ⟨⟨xs, _, hq, hx'⟩, PvA Ac H1 D (i + 1), fun H' p' => ⟨xs.length - (i + 1), by omega, rfl, hlt, p'⟩, ?_⟩
    rintro x _ ⟨rfl, hxx⟩
    exact hs i x acc _ (hxx xs hq) e l ac s
  · obtain rfl : i = xs.length := by omega
    exact .inl ⟨⟨xs, hq, Nat.le_refl _⟩, hd acc H e ac s⟩
/-- over enumerate of a list -/
theorem c_enu (Ac : Nat → List V → Prop) (hD : H1 D = none) (hx : SqL K H1 a xs) (h0 : Ac 0 [])
    (hs : ∀ i x acc H T, xs[i]? = some x → H D = some (.lst acc) → acc.length ≤ i → Ac i acc → Same H1 H → H T = none → LcT g tt te vs σ D (PvA Ac H1 D (i + 1)) (.ref T) (upd H T (.tup [.int (i : Nat), x])))
    (hd : ∀ acc H, H D = some (.lst acc) → Ac xs.length acc → Same H1 H → Qd H) : LcW (Ite K a) g tt te vs σ H1 D Qd := by
  refine ⟨fun i m H => m = xs.length - i ∧ i ≤ xs.length ∧ PvA Ac H1 D i H, ⟨xs.length, by simp, Nat.zero_le _, ⟨[], upd_same, Nat.le_refl _, h0, same_put hD (Same.refl _)⟩⟩, ?_⟩
  rintro i m H ⟨rfl, hi, ⟨acc, e, l, ac, s⟩⟩
  have hq := s.seq hx
  by_cases hlt : i < xs.length
  · have hx' : xs[i]? = some xs[i] := List.getElem?_eq_getElem hlt
    refine .inr ⟨⟨xs, _, hq, hx'⟩, PvA Ac H1 D (i + 1), fun H' p' => ⟨xs.length - (i + 1), by omega, rfl, hlt, p'⟩, ?_⟩
    rintro _ _ ⟨T, x, rfl, hT, rfl, hxx⟩
    exact hs i x acc H T (hxx xs hq) e l ac s hT
  · obtain rfl : i = xs.length := by omega
    exact .inl ⟨⟨xs, hq, Nat.le_refl _⟩, hd acc H e ac s⟩
/-- over a range -/
theorem c_rng {lo : Int} {n : Nat} (Ac : Nat → List V → Prop) (hD : H1 D = none) (h0 : Ac 0 [])
    (hs : ∀ (i : Nat) acc H, i < n → H D = some (.lst acc) → acc.length ≤ i → Ac i acc → Same H1 H → LcT g tt te vs σ D (PvA Ac H1 D (i + 1)) (.int (lo + i)) H)
    (hd : ∀ acc H, H D = some (.lst acc) → Ac n acc → Same H1 H → Qd H) : LcW (Itr lo n) g tt te vs σ H1 D Qd := by
  refine ⟨fun i m H => m = n - i ∧ i ≤ n ∧ PvA Ac H1 D i H, ⟨n, by simp, Nat.zero_le _, ⟨[], upd_same, Nat.le_refl _, h0, same_put hD (Same.refl _)⟩⟩, ?_⟩
  rintro i m H ⟨rfl, hi, ⟨acc, e, l, ac, s⟩⟩
  by_cases hlt : i < n
  · refine .inr ⟨hlt, PvA Ac H1 D (i + 1), fun H' p' => ⟨n - (i + 1), by omega, rfl, hlt, p'⟩, ?_⟩
    rintro x _ ⟨rfl, rfl⟩
    exact hs i acc _ hlt e l ac s
  · obtain rfl : i = n := by omega
    exact .inl ⟨Nat.le_refl _, hd acc H e ac s⟩
end
end Gd

set_option linter.all false
set_option autoImplicit false
/-! Dm: what a piece of a program comes to, for each choice: a predicate transformer with its monotony. -/
namespace Dl
structure M (α : Type) where
  run : (α → Prop) → Prop
  mono : ∀ {p q : α → Prop}, (∀ a, p a → q a) → run p → run q
namespace M
variable {α β γ : Type}
def ret (a : α) : M α := ⟨fun p => p a, fun h x => h a x⟩
def bind (m : M α) (k : α → M β) : M β := ⟨fun p => m.run fun a => (k a).run p, fun h x => m.mono (fun a y => (k a).mono h y) x⟩
def fail : M α := ⟨fun _ => False, fun _ x => x⟩
/-- something must hold -/
def gd (c : Prop) : M Unit := ⟨fun p => c ∧ p (), fun h x => ⟨x.1, h _ x.2⟩⟩
/-- any of those -/
def any (S : α → Prop) : M α := ⟨fun p => ∀ a, S a → p a, fun h x a s => h a (x a s)⟩
def opt : Option α → M α
  | some a => ret a
  | none => fail
theorem ext {m n : M α} (h : ∀ p, m.run p ↔ n.run p) : m = n := by
  cases m with | mk f _ => cases n with | mk g _ =>
    have e : f = g := funext fun p => propext (h p)
    subst e
    rfl
@[simp] theorem run_ret (a : α) (p : α → Prop) : (ret a).run p = p a := rfl
@[simp] theorem run_bind (m : M α) (k : α → M β) (p : β → Prop) : (bind m k).run p = m.run fun a => (k a).run p := rfl
@[simp] theorem run_fail (p : α → Prop) : (fail : M α).run p = False := rfl
@[simp] theorem run_gd (c : Prop) (p : Unit → Prop) : (gd c).run p = (c ∧ p ()) := rfl
@[simp] theorem run_any (S : α → Prop) (p : α → Prop) : (any S).run p = ∀ a, S a → p a := rfl
@[simp] theorem opt_some (a : α) : opt (some a) = ret a := rfl
@[simp] theorem opt_none : opt (none : Option α) = fail := rfl
@[simp] theorem ret_bind (a : α) (k : α → M β) : bind (ret a) k = k a := rfl
@[simp] theorem fail_bind (k : α → M β) : bind fail k = fail := rfl
@[simp] theorem bind_ret (m : M α) : bind m ret = m := rfl
@[simp] theorem bind_bind (m : M α) (k : α → M β) (l : β → M γ) : bind (bind m k) l = bind m fun a => bind (k a) l := rfl
theorem gd_true {c : Prop} (h : c) (k : Unit → M β) : bind (gd c) k = k () := ext fun p => ⟨fun x => x.2, fun x => ⟨h, x⟩⟩
@[simp] theorem run_ite (c : Prop) [Decidable c] (a b : M α) (p : α → Prop) : (if c then a else b).run p = if c then a.run p else b.run p := by split <;> rfl
@[simp] theorem ite_bind (c : Prop) [Decidable c] (a b : M α) (k : α → M β) : bind (if c then a else b) k = if c then bind a k else bind b k := by split <;> rfl
end M
end Dl

set_option Elab.async false
set_option linter.all false
set_option maxRecDepth 100000
set_option maxHeartbeats 2000000
set_option autoImplicit false
/-! Dd: data in the abstract heap, apart from the lists of the frame; a frame's slots as cells of data. -/
namespace Dl
open PySem PySem.Spec PyProof.Rows L2 Gd
mutual
/-- at the value v there is the datum, none of its lists at an address of W -/
inductive Da (W : Addr → Prop) (K : PySem.W.Frag) (H : Hp) : V → PyData → Prop
  | non : Da W K H .non .none
  | bl (b : Bool) : Da W K H (.bl b) (.bool b)
  | int (i : Int) : Da W K H (.int i) (.int i)
  | str (x : Str) : Da W K H (.str x) (.str x)
  | lst {a : Addr} {xs : List V} {ds : List PyData} (n : ¬ W a) (h : H a = some (.lst xs)) (r : DaL W K H xs ds) : Da W K H (.ref a) (.list ds)
  | tup {a : Addr} {xs : List V} {ds : List PyData} (h : SqT K H a xs) (r : DaL W K H xs ds) : Da W K H (.ref a) (.tuple ds)
  | dic {a : Addr} (h : H a = some (.dK [])) : Da W K H (.ref a) (.dict [])
inductive DaL (W : Addr → Prop) (K : PySem.W.Frag) (H : Hp) : List V → List PyData → Prop
  | nil : DaL W K H [] []
  | cons {v : V} {vs : List V} {d : PyData} {ds : List PyData} (h : Da W K H v d) (r : DaL W K H vs ds) : DaL W K H (v :: vs) (d :: ds)
end
section
variable {T W W' : Addr → Prop} {K : PySem.W.Frag} {H H' : Hp}
/-- all but what stands at W, and the tables at T, is kept -/
def Kw (T W : Addr → Prop) (H H' : Hp) : Prop := ∀ b o, ¬ W b → ¬ T b → H b = some o → H' b = some o
/-- W holds lists alone, T tables -/
structure LW (T W : Addr → Prop) (H : Hp) : Prop where
  l : ∀ a, W a → ∃ xs, H a = some (.lst xs)
  t : ∀ a, T a → GxR.TabG H a
theorem Kw.refl : Kw T W H H := fun _ _ _ _ h => h
theorem Kw.same (s : Same H H') : Kw T W H H' := fun b o _ _ h => s b o h
theorem tabG_same {a : Addr} (s : Same H H') (h : GxR.TabG H a) : GxR.TabG H' a := by
  obtain ⟨ps, e, o⟩ := h
  exact ⟨ps, s _ _ e, o⟩
theorem LW.same (h : LW T W H) (s : Same H H') : LW T W H' := ⟨fun a w => let ⟨xs, e⟩ := h.l a w; ⟨xs, s _ _ e⟩, fun a w => tabG_same s (h.t a w)⟩
theorem LW.dom (h : LW T W H) {a : Addr} (n : H a = none) : ¬ W a := fun w => by
  obtain ⟨xs, e⟩ := h.l a w
  rw [n] at e
  cases e
theorem LW.domT (h : LW T W H) {a : Addr} (n : H a = none) : ¬ T a := fun w => by
  obtain ⟨xs, e, _⟩ := h.t a w
  rw [n] at e
  cases e
/-- the same, where some of W may not be there yet -/
structure LV (T W : Addr → Prop) (H : Hp) : Prop where
  l : ∀ a o, W a → H a = some o → ∃ xs, o = .lst xs
  t : ∀ a, T a → GxR.TabG H a
theorem LW.v (h : LW T W H) : LV T W H := ⟨fun a o w e => by
  obtain ⟨xs, e2⟩ := h.l a w
  rw [e] at e2
  exact ⟨xs, Option.some.inj e2⟩, h.t⟩
theorem LV.noT (h : LV T W H) {a : Addr} {o : HO} (e : H a = some o) (n : ∀ ps, o ≠ .tbl ps) : ¬ T a := fun w => by
  obtain ⟨ps, e2, _⟩ := h.t a w
  rw [e] at e2
  exact n _ (Option.some.inj e2)
theorem LV.noW (h : LV T W H) {a : Addr} {o : HO} (e : H a = some o) (n : ∀ xs, o ≠ .lst xs) : ¬ W a := fun w => by
  obtain ⟨xs, e2⟩ := h.l a o w e
  exact n _ e2
theorem LW.noT (h : LW T W H) {a : Addr} {o : HO} (e : H a = some o) (n : ∀ ps, o ≠ .tbl ps) : ¬ T a := fun w => by
  obtain ⟨ps, e2, _⟩ := h.t a w
  rw [e] at e2
  exact n _ (Option.some.inj e2)
theorem LW.noW (h : LW T W H) {a : Addr} {o : HO} (e : H a = some o) (n : ∀ xs, o ≠ .lst xs) : ¬ W a := fun w => by
  obtain ⟨ps, e2⟩ := h.l a w
  rw [e] at e2
  exact n _ (Option.some.inj e2)
theorem sqT_kw {a : Addr} {xs : List V} (l : LV T W H) (k : Kw T W H H') (h : SqT K H a xs) : SqT K H' a xs := by
  rcases h with (h | ⟨o, h⟩) | h
  · exact .inl (.inl (k _ _ (l.noW h fun _ z => by cases z) (l.noT h fun _ z => by cases z) h))
  · exact .inl (.inr ⟨o, k _ _ (l.noW h fun _ z => by cases z) (l.noT h fun _ z => by cases z) h⟩)
  · exact .inr h
mutual
theorem Da.kw (l : LV T W H) (k : Kw T W H H') : ∀ {v : V} {d : PyData}, Da W K H v d → Da W K H' v d
  | _, _, .non => .non
  | _, _, .bl b => .bl b
  | _, _, .int i => .int i
  | _, _, .str x => .str x
  | _, _, .lst n h r => .lst n (k _ _ n (l.noT h fun _ z => by cases z) h) (DaL.kw l k r)
  | _, _, .tup h r => .tup (sqT_kw l k h) (DaL.kw l k r)
  | _, _, .dic (a := a) h => .dic (k _ _ (l.noW h fun _ z => by cases z) (l.noT h fun _ z => by cases z) h)
theorem DaL.kw (l : LV T W H) (k : Kw T W H H') : ∀ {vs : List V} {ds : List PyData}, DaL W K H vs ds → DaL W K H' vs ds
  | _, _, .nil => .nil
  | _, _, .cons h r => .cons (Da.kw l k h) (DaL.kw l k r)
end
mutual
theorem Da.same (k : Same H H') : ∀ {v : V} {d : PyData}, Da W K H v d → Da W K H' v d
  | _, _, .non => .non
  | _, _, .bl b => .bl b
  | _, _, .int i => .int i
  | _, _, .str x => .str x
  | _, _, .lst n h r => .lst n (k _ _ h) (DaL.same k r)
  | _, _, .tup h r => .tup (Gd.Same.sqT k h) (DaL.same k r)
  | _, _, .dic h => .dic (k _ _ h)
theorem DaL.same (k : Same H H') : ∀ {vs : List V} {ds : List PyData}, DaL W K H vs ds → DaL W K H' vs ds
  | _, _, .nil => .nil
  | _, _, .cons h r => .cons (Da.same k h) (DaL.same k r)
end
mutual
/-- the set of addresses may change where nothing of the datum stands -/
theorem Da.w (s : ∀ a xs, H a = some (.lst xs) → ¬ W a → ¬ W' a) : ∀ {v : V} {d : PyData}, Da W K H v d → Da W' K H v d
  | _, _, .non => .non
  | _, _, .bl b => .bl b
  | _, _, .int i => .int i
  | _, _, .str x => .str x
  | _, _, .lst n h r => .lst (s _ _ h n) h (DaL.w s r)
  | _, _, .tup h r => .tup h (DaL.w s r)
  | _, _, .dic h => .dic h
theorem DaL.w (s : ∀ a xs, H a = some (.lst xs) → ¬ W a → ¬ W' a) : ∀ {vs : List V} {ds : List PyData}, DaL W K H vs ds → DaL W' K H vs ds
  | _, _, .nil => .nil
  | _, _, .cons h r => .cons (Da.w s h) (DaL.w s r)
end
theorem Da.less (s : ∀ a, W' a → W a) {v : V} {d : PyData} (h : Da W K H v d) : Da W' K H v d := h.w fun a _ _ n z => n (s a z)
theorem DaL.less (s : ∀ a, W' a → W a) {vs : List V} {ds : List PyData} (h : DaL W K H vs ds) : DaL W' K H vs ds := h.w fun a _ _ n z => n (s a z)
theorem DaL.length : ∀ {vs : List V} {ds : List PyData}, DaL W K H vs ds → vs.length = ds.length
  | _, _, .nil => rfl
  | _, _, .cons _ r => congrArg Nat.succ (DaL.length r)
theorem DaL.append : ∀ {vs us : List V} {ds es : List PyData}, DaL W K H vs ds → DaL W K H us es → DaL W K H (vs ++ us) (ds ++ es)
  | _, _, _, _, .nil, s => s
  | _, _, _, _, .cons h r, s => .cons h (DaL.append r s)
theorem DaL.get : ∀ {vs : List V} {ds : List PyData}, DaL W K H vs ds → ∀ {i : Nat} {v : V}, vs[i]? = some v → ∃ d, ds[i]? = some d ∧ Da W K H v d
  | _, _, .nil, _, _, e => by simp at e
  | _, _, .cons h r, 0, _, e => by simp at e; subst e; exact ⟨_, rfl, h⟩
  | _, _, .cons h r, i + 1, _, e => by simpa using DaL.get r (i := i) (by simpa using e)
theorem DaL.get' : ∀ {vs : List V} {ds : List PyData}, DaL W K H vs ds → ∀ {i : Nat} {d : PyData}, ds[i]? = some d → ∃ v, vs[i]? = some v ∧ Da W K H v d
  | _, _, .nil, _, _, e => by simp at e
  | _, _, .cons h r, 0, _, e => by simp at e; subst e; exact ⟨_, rfl, h⟩
  | _, _, .cons h r, i + 1, _, e => by simpa using DaL.get' r (i := i) (by simpa using e)
theorem DaL.take : ∀ {vs : List V} {ds : List PyData} (n : Nat), DaL W K H vs ds → DaL W K H (vs.take n) (ds.take n)
  | _, _, 0, _ => .nil
  | _, _, _ + 1, .nil => .nil
  | _, _, n + 1, .cons h r => .cons h (DaL.take n r)
theorem DaL.drop : ∀ {vs : List V} {ds : List PyData} (n : Nat), DaL W K H vs ds → DaL W K H (vs.drop n) (ds.drop n)
  | _, _, 0, r => r
  | _, _, _ + 1, .nil => .nil
  | _, _, n + 1, .cons _ r => DaL.drop n r
theorem DaL.rev : ∀ {vs : List V} {ds : List PyData}, DaL W K H vs ds → DaL W K H vs.reverse ds.reverse
  | _, _, .nil => .nil
  | _, _, .cons h r => by rw [List.reverse_cons, List.reverse_cons]; exact DaL.append (DaL.rev r) (.cons h .nil)
theorem DaL.rep {v : V} {d : PyData} (h : Da W K H v d) : ∀ n, DaL W K H (List.replicate n v) (List.replicate n d)
  | 0 => .nil
  | n + 1 => .cons h (DaL.rep h n)
theorem DaL.reps {vs : List V} {ds : List PyData} (h : DaL W K H vs ds) : ∀ n, DaL W K H (List.replicate n vs).flatten (List.replicate n ds).flatten
  | 0 => .nil
  | n + 1 => by rw [List.replicate_succ, List.replicate_succ, List.flatten_cons, List.flatten_cons]; exact h.append (DaL.reps h n)
theorem DaL.set {v : V} {d : PyData} (h : Da W K H v d) : ∀ {vs : List V} {ds : List PyData} (i : Nat), DaL W K H vs ds → DaL W K H (vs.set i v) (ds.set i d)
  | _, _, _, .nil => .nil
  | _, _, 0, .cons _ r => .cons h r
  | _, _, i + 1, .cons q r => .cons q (DaL.set h i r)

mutual
theorem Da.dt {w : Addr} (hw : W w) : ∀ {v : V} {d : PyData}, Da W K H v d → Dt w K H v d
  | _, _, .non => .non
  | _, _, .bl b => .bl b
  | _, _, .int i => .int i
  | _, _, .str x => .str x
  | _, _, .lst n h r => .lst (fun e => n (e ▸ hw)) (SqL.of h) (DaL.dt hw r)
  | _, _, .tup h r => .tup h (DaL.dt hw r)
  | _, _, .dic h => .dic h
theorem DaL.dt {w : Addr} (hw : W w) : ∀ {vs : List V} {ds : List PyData}, DaL W K H vs ds → DtL w K H vs ds
  | _, _, .nil => .nil
  | _, _, .cons h r => .cons (Da.dt hw h) (DaL.dt hw r)
end
mutual
theorem Da.dp : ∀ {v : V} {d : PyData}, PyData.canLay0 d = true → Da W K H v d → Dp K H v d
  | _, _, _, .non => .non
  | _, _, _, .bl b => .bl b
  | _, _, _, .int i => .int i
  | _, _, _, .str x => .str x
  | _, _, c, .lst n h r => .lst (SqL.of h) (DaL.dp (by simpa only [PyData.canLay0] using c) r)
  | _, _, c, .tup h r => .tup h (DaL.dp (by simpa only [PyData.canLay0] using c) r)
  | _, _, c, .dic h => by simp [PyData.canLay0] at c
theorem DaL.dp : ∀ {vs : List V} {ds : List PyData}, PyData.canLayAll0 ds = true → DaL W K H vs ds → DpAll K H vs ds
  | _, _, _, .nil => .nil
  | _, _, c, .cons h r => by
    simp only [PyData.canLayAll0, Bool.and_eq_true] at c
    exact .cons (Da.dp c.1 h) (DaL.dp c.2 r)
end
theorem Da.dps {v : V} {d : PyData} (c : SeqAt.shaped d = true) (h : Da W K H v d) : Dp K H v d := h.dp (SeqAt.canLay_of_shaped c)
end
/-! ### a frame: its slots as cells -/
inductive Cell where
  | un
  | im (d : PyData)
  | ow (ds : List PyData)
  | well
/-- what is fixed through a frame: the well, what the callers write, the heap at the entry -/
structure Fc where
  K : PySem.W.Frag
  T : Addr → Prop
  ow : Option Addr
  W0 : Addr → Prop
  H0 : Hp
/-- a value for a cell -/
def CellAt (c : Fc) (W : Addr → Prop) (H : Hp) (v : Option (Option V)) : Cell → Prop
  | .un => True
  | .im d => ∃ u, v = some (some u) ∧ Da W c.K H u d
  | .ow ds => ∃ a xs, v = some (some (.ref a)) ∧ W a ∧ ¬ c.W0 a ∧ some a ≠ c.ow ∧ H a = some (.lst xs) ∧ DaL W c.K H xs ds
  | .well => ∃ w, c.ow = some w ∧ v = some (some (.ref w))
structure Sr (c : Fc) (W : Addr → Prop) (H : Hp) (σ : L2.St) (Γ : List Cell) : Prop where
  len : σ.length = Γ.length
  at' : ∀ (i : Nat) (z : Cell), Γ[i]? = some z → CellAt c W H σ[i]? z
  sep : ∀ (i j : Nat) (a : Addr) (ds es : List PyData), i ≠ j → Γ[i]? = some (.ow ds) → Γ[j]? = some (.ow es) → σ[i]? = some (some (.ref a)) → σ[j]? = some (some (.ref a)) → False
  wok : ∀ w, c.ow = some w → c.W0 w ∧ Wl H w
  sub : ∀ a, c.W0 a → W a
  lw : LW c.T W H
  new : ∀ a, W a → ¬ c.W0 a → c.H0 a = none
  ch0 : ∀ b o, some b ≠ c.ow → ¬ c.T b → c.H0 b = some o → H b = some o
/-- what an expression leaves: all stands but the well; tables grow -/
structure Ch (c : Fc) (H H' : Hp) : Prop where
  kp : ∀ b o, some b ≠ c.ow → ¬ c.T b → H b = some o → H' b = some o
  tb : ∀ a, c.T a → GxR.TabG H' a
  wl : ∀ w, c.ow = some w → Wl H' w
theorem Ch.of {c : Fc} {H H' : Hp} (s : Same H H') (t : ∀ a, c.T a → GxR.TabG H a) (w : ∀ w, c.ow = some w → Wl H w) : Ch c H H' := ⟨fun b o _ _ h => s b o h, fun a h => tabG_same s (t a h), fun a e => (w a e).same s⟩
theorem Ch.trans {c : Fc} {H H1 H2 : Hp} (a : Ch c H H1) (b : Ch c H1 H2) : Ch c H H2 := ⟨fun x o n t h => b.kp x o n t (a.kp x o n t h), b.tb, b.wl⟩
theorem Ch.kw {c : Fc} {H H' : Hp} {W : Addr → Prop} (a : Ch c H H') (h : ∀ w, c.ow = some w → W w) : Kw c.T W H H' := fun b o n t e => a.kp b o (fun z => n (h b z.symm)) t e
section
variable {c : Fc} {W : Addr → Prop} {H H' : Hp} {σ : L2.St} {Γ : List Cell}
theorem Sr.wl (S : Sr c W H σ Γ) (w : Addr) (e : c.ow = some w) : Wl H w := (S.wok w e).2
theorem Sr.ww (S : Sr c W H σ Γ) (w : Addr) (e : c.ow = some w) : W w := S.sub w (S.wok w e).1
theorem Sr.refl (S : Sr c W H σ Γ) : Ch c H H := Ch.of (Same.refl H) S.lw.t S.wl
theorem Sr.kwC (S : Sr c W H σ Γ) (k : Ch c H H') : Kw c.T W H H' := k.kw S.ww
theorem Sr.lwC (S : Sr c W H σ Γ) (k : Ch c H H') : LW c.T W H' := ⟨fun a h => by
  by_cases e : c.ow = some a
  · obtain ⟨x, y, z, q, _⟩ := k.wl a e
    exact ⟨_, q⟩
  · obtain ⟨xs, q⟩ := S.lw.l a h
    exact ⟨xs, k.kp a _ (fun z => e z.symm) (S.lw.noT q fun _ z => by cases z) q⟩, k.tb⟩
theorem Sr.da (S : Sr c W H σ Γ) (k : Ch c H H') {v : V} {d : PyData} (h : Da W c.K H v d) : Da W c.K H' v d := h.kw S.lw.v (S.kwC k)
theorem Sr.dal (S : Sr c W H σ Γ) (k : Ch c H H') {v : List V} {d : List PyData} (h : DaL W c.K H v d) : DaL W c.K H' v d := h.kw S.lw.v (S.kwC k)
theorem CellAt.ch (S : Sr c W H σ Γ) (k : Ch c H H') {v : Option (Option V)} : ∀ {z : Cell}, CellAt c W H v z → CellAt c W H' v z
  | .un, _ => trivial
  | .im d, ⟨u, e, h⟩ => ⟨u, e, S.da k h⟩
  | .ow ds, ⟨a, xs, e, w, n, m, h, r⟩ => ⟨a, xs, e, w, n, m, k.kp _ _ m (S.lw.noT h fun _ z => by cases z) h, S.dal k r⟩
  | .well, h => h
theorem Sr.ch (S : Sr c W H σ Γ) (k : Ch c H H') : Sr c W H' σ Γ where
  len := S.len
  at' := fun i z e => (S.at' i z e).ch S k
  sep := S.sep
  wok := fun w e => ⟨(S.wok w e).1, k.wl w e⟩
  sub := S.sub
  lw := S.lwC k
  new := S.new
  ch0 := fun b o n t h => k.kp b o n t (S.ch0 b o n t h)
theorem Sr.ret (S : Sr c W H σ Γ) : Ch c c.H0 H := ⟨S.ch0, S.lw.t, S.wl⟩
theorem Sr.same (S : Sr c W H σ Γ) (k : Same H H') : Sr c W H' σ Γ := S.ch (Ch.of k S.lw.t S.wl)
theorem Sr.new1 (S : Sr c W H σ Γ) {p : Addr} {o : HO} (h : H p = none) : Ch c H (upd H p o) := Ch.of (same_new h) S.lw.t S.wl
theorem Sr.cs (S : Sr c W H σ Γ) (k : Same H H') : Ch c H H' := Ch.of k S.lw.t S.wl
end
/-! ### readings by data -/
/-- an expression: what it comes to, by the cells -/
def tF (c : Fc) (f : List Cell → M PyData) : TE := fun σ H Q => ∃ W Γ, Sr c W H σ Γ ∧ (f Γ).run fun d => ∀ H' v, Ch c H H' → Da W c.K H' v d → Q v H'
/-- a value that is looked at alone: it may be a list of the frame -/
def Pk (c : Fc) (W : Addr → Prop) (H : Hp) (v : V) (d : PyData) : Prop := Da W c.K H v d ∨ ∃ a xs ds, v = .ref a ∧ d = .list ds ∧ some a ≠ c.ow ∧ H a = some (.lst xs) ∧ DaL W c.K H xs ds
theorem Sr.pk {c : Fc} {W : Addr → Prop} {H H' : Hp} {σ : L2.St} {Γ : List Cell} (S : Sr c W H σ Γ) (k : Ch c H H') {v : V} {d : PyData} (h : Pk c W H v d) : Pk c W H' v d := by
  rcases h with h | ⟨a, xs, ds, e1, e2, n, h1, h2⟩
  · exact .inl (S.da k h)
  · exact .inr ⟨a, xs, ds, e1, e2, n, k.kp _ _ n (S.lw.noT h1 fun _ z => by cases z) h1, S.dal k h2⟩
def tG (c : Fc) (f : List Cell → M PyData) : TE := fun σ H Q => ∃ W Γ, Sr c W H σ Γ ∧ (f Γ).run fun d => ∀ H' v, Ch c H H' → Pk c W H' v d → Q v H'
/-- a test -/
def tTF (c : Fc) (f : List Cell → M Bool) : TT := fun σ H Q => ∃ W Γ, Sr c W H σ Γ ∧ (f Γ).run fun b => ∀ H', Ch c H H' → Q b H'
/-- arguments -/
def tAF (c : Fc) (f : List Cell → M (List PyData)) : TA := fun σ H Q => ∃ W Γ, Sr c W H σ Γ ∧ (f Γ).run fun ds => ∀ H' vs, Ch c H H' → DaL W c.K H' vs ds → Q vs H'
end Dl

set_option Elab.async false
set_option linter.all false
set_option maxRecDepth 100000
set_option maxHeartbeats 4000000
set_option autoImplicit false
/-! Gj: a generator expression whose element may do anything: its turns, and all / any over it. -/
namespace Gd
open PySem
open Sem (wp)
/-- what is told at a yield: the i-th item v, what stands (Yd); awake again at s'' by Wk -/
def protoJ (n₀ : Nat) (Yd : Nat → Value → Shared → Prop) (Wk : Value → Shared → Shared → Prop) : Protocol := fun m _ v s kap => (∃ i, i < n₀ ∧ m + i = n₀ ∧ Yd i v s) ∧ ∀ s'', Wk v s s'' → kap (.send .none) s''
def endJ (Dn : Shared → Prop) : GenEnd := fun n _ r s₁ => r = .ok .next ∧ n = 1 ∧ Dn s₁
section
variable {prog : Program} {w : World} {A : Around} {elt iter : Expr} {x : Str} {px : Pos} {scope : Scope} {pos : Pos} {I : Addr} {n₀ : Nat} {cenv : Env} {J : Nat → Shared → Prop} {Yd : Nat → Value → Shared → Prop} {Wk : Value → Shared → Shared → Prop} {Dn : Shared → Prop}
abbrev cLoop (elt iter : Expr) (x : Str) (px : Pos) (scope : Scope) (pos : Pos) (I : Addr) (cenv : Env) : Code := .compLoop (.GeneratorExp elt [⟨.Name x px, iter, [], 0⟩] scope pos) 0 (.ref I) .none cenv
abbrev cStart (elt iter : Expr) (x : Str) (px : Pos) (scope : Scope) (pos : Pos) (I : Addr) (cenv : Env) : Code := .compStart (.GeneratorExp elt [⟨.Name x px, iter, [], 0⟩] scope pos) 0 (.ref I) .none cenv
theorem seg_loopJ (hco : cenv.scope.isCoroutine = false)
    (item : ∀ i s, i < n₀ → J i s → wpAny (model prog w) (A.over (cLoop elt iter x px scope pos I cenv) []) (pyNext (.ref I)) (fun ov s₁ => ∃ v, ov = some v ∧ wpAny (model prog w) (A.over (cLoop elt iter x px scope pos I cenv) []) (assign (.Name x px) cenv v) (fun _ s₂ =>
      wpAny (model prog w) (A.over (cLoop elt iter x px scope pos I cenv) []) (eval elt cenv) (fun y s₃ => Yd i y s₃) (fun _ _ => False) s₂) (fun _ _ => False) s₁) (fun _ _ => False) s)
    (done : ∀ s, J n₀ s → wpAny (model prog w) (A.over (cLoop elt iter x px scope pos I cenv) []) (pyNext (.ref I)) (fun ov s₁ => ov = none ∧ Dn s₁) (fun _ _ => False) s)
    (wake : ∀ i y s s'', i < n₀ → Yd i y s → Wk y s s'' → J (i + 1) s'') :
    ∀ (k i : Nat) (s₀ s : Shared), n₀ - i = k → i ≤ n₀ → J i s →
      Seg (model prog w) A (endJ Dn) (protoJ n₀ Yd Wk) (k + 1) s₀ (cLoop elt iter x px scope pos I cenv) ((model prog w).den (cLoop elt iter x px scope pos I cenv)) [] s := by
  intro k
  induction k with
  | zero =>
    intro i s₀ s hk hi hj
    obtain rfl : i = n₀ := by omega
    show Seg _ A _ _ _ s₀ _ ((compTurn (.GeneratorExp elt [⟨.Name x px, iter, [], 0⟩] scope pos) 0 (.ref I) .none cenv).onRaise (leaving cenv)) [] s
    rw [compTurn_gen, Sem.onRaise_eq_wrap]
    refine seg_bind_wrap (wpAny_standAt ?_)
    refine seg_bind_wrap (wpAny_mono (done s hj) (fun ov s₁ h => ?_) fun _ _ h => h.elim)
    obtain ⟨rfl, d⟩ := h
    exact seg_end (.ok .next) ⟨rfl, rfl, d⟩
  | succ k ih =>
    intro i s₀ s hk hi hj
    have hlt : i < n₀ := by omega
    show Seg _ A _ _ _ s₀ _ ((compTurn (.GeneratorExp elt [⟨.Name x px, iter, [], 0⟩] scope pos) 0 (.ref I) .none cenv).onRaise (leaving cenv)) [] s
    rw [compTurn_gen, Sem.onRaise_eq_wrap]
    refine seg_bind_wrap (wpAny_standAt ?_)
    refine seg_bind_wrap (wpAny_mono (item i s hlt hj) (fun ov s₁ h => ?_) fun _ _ h => h.elim)
    obtain ⟨v, rfl, h⟩ := h
    refine seg_bind_wrap (wpAny_of_eq (rfl : letOwnedTupleGo (.Name x px) (.ref I) v = pure ()) ?_)
    refine seg_bind_wrap (wpAny_mono h (fun _ s₂ h => ?_) fun _ _ h => h.elim)
    refine seg_bind_wrap (wpAny_pure ?_)
    have hy : ∀ v, yieldOut cenv v = yieldValue v := fun v => by simp only [yieldOut, hco, Bool.false_eq_true, if_false]
    simp only [if_true, hy]
    rw [Sem.bind_eq_wrap', Sem.bind_eq_wrap', Sem.wrap_wrap, Sem.wrap_wrap]
    refine seg_wrap (wpAny_mono h (fun y s₃ hyd => ?_) fun _ _ h => h.elim)
    refine seg_at (seg_yield rfl rfl rfl ⟨⟨i, hlt, by omega, hyd⟩, fun s'' hw => ?_⟩)
    exact seg_again rfl (ih (i + 1) s'' s'' (by omega) hlt (wake i y s₃ s'' hlt hyd hw))
theorem seg_startJ (hco : cenv.scope.isCoroutine = false)
    (loop : ∀ s, J 0 s → Seg (model prog w) A (endJ Dn) (protoJ n₀ Yd Wk) (n₀ + 1) s (cLoop elt iter x px scope pos I cenv) ((model prog w).den (cLoop elt iter x px scope pos I cenv)) [] s)
    (self : ∀ s (Q : Value → Shared → Prop), J 0 s → Q (.ref I) s → wpAny (model prog w) (A.over (cStart elt iter x px scope pos I cenv) []) (pyIter (.ref I)) Q (fun _ _ => False) s) (s : Shared) (hj : J 0 s) :
    Seg (model prog w) A (endJ Dn) (protoJ n₀ Yd Wk) (n₀ + 1) s (cStart elt iter x px scope pos I cenv) ((model prog w).den (cStart elt iter x px scope pos I cenv)) [] s := by
  show Seg _ A _ _ _ s _ ((compStart (.GeneratorExp elt [⟨.Name x px, iter, [], 0⟩] scope pos) 0 (.ref I) .none cenv).onRaise (leaving cenv)) [] s
  unfold compStart
  rw [Sem.onRaise_eq_wrap]
  show Seg _ A _ _ _ s _ ((ask >>= _).wrap _ _ _ _) [] s
  refine seg_bind_wrap (wpAny_askSetting ?_)
  split
  · exact seg_again rfl (loop s hj)
  · have q : wpAny (model prog w) (A.over (cStart elt iter x px scope pos I cenv) []) (pyIter (.ref I)) (fun u s' => u = .ref I ∧ s' = s) (fun _ _ => False) s := self s _ hj ⟨rfl, rfl⟩
    first
      | (refine seg_bind_wrap (wpAny_rule (seg_bind_wrap (wpAny_standAt (seg_bind_wrap (wpAny_mono q (fun u s' h => ?_) fun _ _ h => h.elim)))))
         obtain ⟨rfl, rfl⟩ := h
         exact seg_again rfl (loop _ hj))
      | (refine seg_bind_wrap (wpAny_rule ?_)
         show Seg _ A _ _ _ s _ ((standAt iter.pos >>= _).wrap _ _ _ _) [] s
         refine seg_bind_wrap (wpAny_standAt (seg_bind_wrap (wpAny_mono q (fun u s' h => ?_) fun _ _ h => h.elim)))
         obtain ⟨rfl, rfl⟩ := h
         exact seg_again rfl (loop _ hj))
end
/-! ### all, any -/
section
variable {prog : Program} {w : World} {A : Around} {R : Result → Shared → Prop} {a : Addr} {g n₀ : Nat} {Yd : Nat → Value → Shared → Prop} {Dn : Shared → Prop}
/-- awake again: the item was b, the table at g was written -/
def WkB (g : Nat) (b : Bool) (v : Value) (s s'' : Shared) : Prop := v = .bool b ∧ ∃ gs', gs'.bare = true ∧ s'' = (s.setGen g gs').setGen g .running
/-- ready for the i-th item -/
def GenJ (prog : Program) (w : World) (A : Around) (a : Addr) (g n₀ : Nat) (b : Bool) (Yd : Nat → Value → Shared → Prop) (Dn : Shared → Prop) (i : Nat) (s : Shared) : Prop :=
  s.heap.IsGen a g ∧ s.heap.NoLimit ∧ ∃ gs, s.gens[g]? = some gs ∧ gs.Goes (model prog w) A.in1 (endJ Dn) (protoJ n₀ Yd (WkB g b)) (n₀ - i + 1) (.send .none) (s.setGen g .running)
theorem setGen_lt {s : Shared} {g : Nat} {x : GenState} (h : g < s.gens.size) : (s.setGen g x).gens[g]? = some x := by simp [Shared.setGen, h]
theorem all_loopJ (hh : A.handled = none) (hroom : A.in1.depth < recursionLimit)
    (hyd : ∀ i v s, Yd i v s → (∃ b, v = .bool b) ∧ s.heap.IsGen a g ∧ s.heap.NoLimit ∧ g < s.gens.size)
    (hF : ∀ i s gs', gs'.bare = true → i < n₀ → Yd i (.bool false) s → R (.ok (.ret (.bool false))) (s.setGen g gs'))
    (hT : ∀ s h', Dn s → (∀ b o, s.heap.get? b = some o → h'.get? b = some o) → R (.ok (.ret (.bool true))) { s.setGen g .finished with heap := h' }) :
    ∀ (k i : Nat) (s : Shared), n₀ - i = k → i ≤ n₀ → GenJ prog w A.in1 a g n₀ true Yd Dn i s → codeAny (model prog w) A (.builtin "all.loop" ⟨[.ref a], []⟩) R s := by
  intro k
  induction k with
  | zero =>
    intro i s hk hi ⟨hg, hl, gs, hgs, hgo⟩
    refine codeAny_builtin F.entry_all_loop ?_
    rw [Around.under_plainId F.plain_all_loop _]
    show wpAny _ A.in1 (pyNext (.ref a) >>= _) _ _ s
    refine wpAny_bind (wpAny_pyNext_genexpQ (P := fun n _ s₁ => n = 1 ∧ Dn s₁) hh hl hroom hg hgs hgo (fun v s₁ gs' hb hy => ?_) fun s₁ hp h' hk' => ?_)
    · obtain ⟨⟨i', e0, e, _⟩, _⟩ := hy
      omega
    · refine wpAny_bind (wpAny_rule (wpAny_pure ?_))
      exact hT s₁ h' hp.2 hk'
  | succ k ih =>
    intro i s hk hi ⟨hg, hl, gs, hgs, hgo⟩
    have hlt : i < n₀ := by omega
    refine codeAny_builtin F.entry_all_loop ?_
    rw [Around.under_plainId F.plain_all_loop _]
    show wpAny _ A.in1 (pyNext (.ref a) >>= _) _ _ s
    refine wpAny_bind (wpAny_pyNext_genexpQ (P := fun n _ s₁ => n = 1 ∧ Dn s₁) hh hl hroom hg hgs hgo (fun v s₁ gs' hb hy => ?_) fun s₁ hp h' hk' => ?_)
    · obtain ⟨⟨i', _, e, y⟩, hw⟩ := hy
      have ei : i' = i := by omega
      subst ei
      obtain ⟨⟨b, rfl⟩, g1, l1, z1⟩ := hyd _ _ _ y
      refine wpAny_bind (wpAny_holding (wpAny_pure ?_))
      refine wpAny_bind (wpAny_letGo ?_)
      cases b with
      | true =>
        simp only [if_true]
        refine wpAny_pure ⟨plainId_quiet F.plain_all_loop _, ih (i' + 1) _ (by omega) hlt ⟨g1, l1, gs', setGen_lt z1, ?_⟩⟩
        have q := hw ((s₁.setGen g gs').setGen g .running) ⟨rfl, gs', hb, rfl⟩
        rw [hk] at q
        rw [show n₀ - (i' + 1) + 1 = k + 1 by omega]
        exact q
      | false =>
        simp only [Bool.false_eq_true, if_false]
        refine wpAny_bind (wpAny_rule (wpAny_pure ?_))
        exact hF i' s₁ gs' hb hlt y
    · rw [hk] at hp
      exact absurd hp.1 (by omega)
theorem any_loopJ (hh : A.handled = none) (hroom : A.in1.depth < recursionLimit)
    (hyd : ∀ i v s, Yd i v s → (∃ b, v = .bool b) ∧ s.heap.IsGen a g ∧ s.heap.NoLimit ∧ g < s.gens.size)
    (hF : ∀ i s gs', gs'.bare = true → i < n₀ → Yd i (.bool true) s → R (.ok (.ret (.bool true))) (s.setGen g gs'))
    (hT : ∀ s h', Dn s → (∀ b o, s.heap.get? b = some o → h'.get? b = some o) → R (.ok (.ret (.bool false))) { s.setGen g .finished with heap := h' }) :
    ∀ (k i : Nat) (s : Shared), n₀ - i = k → i ≤ n₀ → GenJ prog w A.in1 a g n₀ false Yd Dn i s → codeAny (model prog w) A (.builtin "any.loop" ⟨[.ref a], []⟩) R s := by
  intro k
  induction k with
  | zero =>
    intro i s hk hi ⟨hg, hl, gs, hgs, hgo⟩
    refine codeAny_builtin F.entry_any_loop ?_
    rw [Around.under_plainId F.plain_any_loop _]
    show wpAny _ A.in1 (pyNext (.ref a) >>= _) _ _ s
    refine wpAny_bind (wpAny_pyNext_genexpQ (P := fun n _ s₁ => n = 1 ∧ Dn s₁) hh hl hroom hg hgs hgo (fun v s₁ gs' hb hy => ?_) fun s₁ hp h' hk' => ?_)
    · obtain ⟨⟨i', e0, e, _⟩, _⟩ := hy
      omega
    · refine wpAny_bind (wpAny_rule (wpAny_pure ?_))
      exact hT s₁ h' hp.2 hk'
  | succ k ih =>
    intro i s hk hi ⟨hg, hl, gs, hgs, hgo⟩
    have hlt : i < n₀ := by omega
    refine codeAny_builtin F.entry_any_loop ?_
    rw [Around.under_plainId F.plain_any_loop _]
    show wpAny _ A.in1 (pyNext (.ref a) >>= _) _ _ s
    refine wpAny_bind (wpAny_pyNext_genexpQ (P := fun n _ s₁ => n = 1 ∧ Dn s₁) hh hl hroom hg hgs hgo (fun v s₁ gs' hb hy => ?_) fun s₁ hp h' hk' => ?_)
    · obtain ⟨⟨i', _, e, y⟩, hw⟩ := hy
      have ei : i' = i := by omega
      subst ei
      obtain ⟨⟨b, rfl⟩, g1, l1, z1⟩ := hyd _ _ _ y
      refine wpAny_bind (wpAny_holding (wpAny_pure ?_))
      refine wpAny_bind (wpAny_letGo ?_)
      cases b with
      | false =>
        simp only [Bool.false_eq_true, if_false]
        refine wpAny_pure ⟨plainId_quiet F.plain_any_loop _, ih (i' + 1) _ (by omega) hlt ⟨g1, l1, gs', setGen_lt z1, ?_⟩⟩
        have q := hw ((s₁.setGen g gs').setGen g .running) ⟨rfl, gs', hb, rfl⟩
        rw [hk] at q
        rw [show n₀ - (i' + 1) + 1 = k + 1 by omega]
        exact q
      | true =>
        simp only [if_true]
        refine wpAny_bind (wpAny_rule (wpAny_pure ?_))
        exact hF i' s₁ gs' hb hlt y
    · rw [hk] at hp
      exact absurd hp.1 (by omega)
end
end Gd

set_option Elab.async false
set_option linter.all false
set_option maxRecDepth 100000
set_option maxHeartbeats 4000000
set_option autoImplicit false
/-! Gk: the context of a generator expression's turns. -/
namespace Gd
open PySem PySem.Spec PyProof.Rows L2
/-- the turns of a generator expression that X's code has made: cenv its frame, it the iterator, s4 and H2 what stood before its frame was made -/
def genCx (X : Cx) (A2 : Around) (s4 : Shared) (H2 : Hp) (it : Addr) (cenv : Env) (N : List Str) : Cx where
  prog := X.prog
  w := X.w
  K := X.K
  mg := X.mg
  base := X.base
  A := A2
  N := N
  s_0 := s4
  H_0 := H2
  env := cenv
  outer := X.stack
  stack := cenv :: X.stack
  ex := [it]
  fn := fun _ => false
  calm := true
  pn := []
  xe := fun _ _ => False
theorem over_comp {A : Around} {elt iter : Expr} {x : Str} {px : Pos} {scope : Scope} {pos : Pos} {I : Addr} {cenv : Env} : A.over (cLoop elt iter x px scope pos I cenv) [] = A.deeper cenv := by
  first
    | rfl
    | (obtain ⟨hd, d, fr, gs, u⟩ := A; simp [Around.over, Around.deeper, marksOver, frameCount, unitsOf, envsOf, guardsOf, pushEnvs, pushGuards, Code.envs, Code.env?, Code.isFrame, Code.guards, Code.isGuard, Code.weight, Code.frames, Code.isCreation, Code.isCaller, Code.cUnits])
theorem over_compS {A : Around} {elt iter : Expr} {x : Str} {px : Pos} {scope : Scope} {pos : Pos} {I : Addr} {cenv : Env} : A.over (cStart elt iter x px scope pos I cenv) [] = A.deeper cenv := by
  first
    | rfl
    | (obtain ⟨hd, d, fr, gs, u⟩ := A; simp [Around.over, Around.deeper, marksOver, frameCount, unitsOf, envsOf, guardsOf, pushEnvs, pushGuards, Code.envs, Code.env?, Code.isFrame, Code.guards, Code.isGuard, Code.weight, Code.frames, Code.isCreation, Code.isCaller, Code.cUnits])
section
variable {X : Cx} {pins : List (Addr × Obj)} {σ σ' : L2.St} {H2 : Hp} {s4 : Shared} {A1 : Around} {it : Addr} {cenv : Env} {N : List Str} {h5 : Heap} {g5 : Array GenState} {t5 : Nat} {m0 : Str → Option Value}
theorem gen_inv (I4 : Inv X pins σ H2 s4) (hfr : A1.frames = some X.stack) (hh : A1.handled = none)
    (kd : cenv.scope.kind = .function) (gl : cenv.globals = mainGlobals) (bl : cenv.builtins = builtinsNs) (hL : s4.heap.objs.size ≤ cenv.locals) (hLf : cenv.frame = some cenv.locals)
    (hcl : ∀ y c, cenv.cells.lookup y = some c → X.env.cells.lookup y = some c) (hno : ∀ y, cenv.kindOf y ≠ some .cell) (hfree : ∀ y, cenv.kindOf y = some .free → ∃ c, cenv.cells.lookup y = some c)
    (i1 : it < s4.heap.objs.size) (i2 : H2 it = none) (i3 : X.base.get? it = none) (i4 : it ∉ frs X.stack) (i5 : ∀ y c, X.env.cells.lookup y = some c → c ≠ it)
    (k5 : ∀ b o, s4.heap.get? b = some o → h5.get? b = some o) (hN : h5.Ns cenv.locals m0) (hb : AllBare g5) (hlen : σ'.length = N.length)
    (hcap : ∀ (i : Nat) (y : Str) (v : V), N[i]? = some y → σ'[i]? = some (some v) → cenv.kindOf y = some .free ∧ ∃ j : Nat, X.N[j]? = some y ∧ σ[j]? = some (some v) ∧ (X.env.kindOf y = some .cell ∨ X.env.kindOf y = some .free)) :
    Inv (genCx X (A1.deeper cenv) s4 H2 it cenv N) [] σ' H2 { s4 with heap := h5, gens := g5, toks := t5 } := by
  have e0 := I4.env0
  have memI : ∀ b, b ∈ (genCx X (A1.deeper cenv) s4 H2 it cenv N).ex → b = it := fun b h => by simpa using (show b ∈ [it] from h)
  refine ⟨⟨e0.mod, kd, gl, bl, hL, fun y z c h1 h2 => ?_, fun y hy => ?_, fun y c h _ => (by cases h), fun _ => ?_, Around.frames_deeper hfr, .inr ⟨rfl, hLf⟩, fun b z => ?_, e0.bs, e0.bsz, fun b o h hm => ?_, fun b hm => ?_, e0.funs, e0.frf⟩,
    rfl, hb, Un.kept k5, ⟨m0, hN, fun i y v h1 h2 h3 => ?_⟩, fun y c h => ?_, e0.hok.fresh hL, fun y c h => I4.freeC y c (hcl y c h), fun p hp => absurd (show p ∈ ([] : List (Addr × Obj)) from hp) (by simp), e0.hok.kept k5, hlen⟩
  · exact I4.ok.inj _ _ _ (hcl _ _ h1) (hcl _ _ h2)
  · rcases hy with hy | hy
    · exact absurd hy (hno y)
    · exact hfree y hy
  · first
      | exact hh
      | (show (A1.deeper cenv).handled = none; unfold Around.deeper; exact hh)
  · rw [memI b z]
    exact ⟨Nat.ne_of_lt (Nat.lt_of_lt_of_le i1 hL), fun y c h => i5 y c (hcl y c h)⟩
  · have h' : X.base.get? b = some o := h
    rw [memI b hm, i3] at h'
    cases h'
  · rw [memI b hm]
    exact i4
  · obtain ⟨hf, j, e1, e2, hk⟩ := hcap i y v h1 h2
    obtain ⟨m, _, hl⟩ := I4.loc
    have vis : Vis X.env.scope y := by
      rcases hk with hk | hk
      · exact .inr (.inl hk)
      · exact .inr (.inr hk)
    obtain ⟨u, ru, lo⟩ := hl j y v e1 e2 vis
    refine ⟨u, ru, .inr ⟨.inr hf, ?_⟩⟩
    obtain ⟨c, ec⟩ := hfree y hf
    refine ⟨c, ec, ?_⟩
    rcases lo with ⟨z, _⟩ | ⟨_, c', ec', o, ho, hd⟩
    · rcases hk with hk | hk <;> rw [hk] at z <;> cases z
    · rw [hcl y c ec] at ec'
      cases ec'
      exact ⟨o, k5 _ _ ho, hd⟩
  · obtain ⟨v, o, ho, hd⟩ := I4.cell y c (hcl y c h)
    exact ⟨v, o, k5 _ _ ho, hd⟩
end
/-! ### the turns -/
theorem pin_one {X : Cx} {pins : List (Addr × Obj)} {σ : L2.St} {H : Hp} {s : Shared} {p : Addr} {o : Obj} (I : Inv X pins σ H s) (e : s.heap.get? p = some o) (n : H p = none) (h1 : p ≠ X.env.locals) (h2 : p ∉ X.fs) (h3 : ∀ v, o.data ≠ .cell v) : Inv X ((p, o) :: pins) σ H s :=
  ⟨I.ok, I.os, I.bare, I.base, I.loc, I.cell, I.free, I.freeC, fun q hq => by
    rcases List.mem_append.mp hq with hq | hq
    · exact I.pin q (List.mem_append_left _ hq)
    · rcases List.mem_cons.mp hq with hq | hq
      · rw [hq]
        exact ⟨e, n, h1, h2, h3⟩
      · exact I.pin q (List.mem_append_right _ hq), I.hok, I.len⟩
theorem un_pin {X : Cx} {pins : List (Addr × Obj)} {σ : L2.St} {H : Hp} {s : Shared} {p : Addr × Obj} (I : Inv X (p :: pins) σ H s) : Inv X pins σ H s :=
  ⟨I.ok, I.os, I.bare, I.base, I.loc, I.cell, I.free, I.freeC, fun q hq => by
    rcases List.mem_append.mp hq with hq | hq
    · exact I.pin q (List.mem_append_left _ hq)
    · exact I.pin q (List.mem_append_right _ (List.mem_cons_of_mem _ hq)), I.hok, I.len⟩
theorem gens_only {X : Cx} {pins : List (Addr × Obj)} {σ : L2.St} {H : Hp} {s : Shared} {g : Array GenState} (I : Inv X pins σ H s) (h : AllBare g) : Inv X pins σ H { s with gens := g } :=
  ⟨I.ok, I.os, h, I.base, I.loc, I.cell, I.free, I.freeC, I.pin, I.hok, I.len⟩
/-- ready for the i-th turn -/
def TurnJ (XG : Cx) (ag : Addr) (og : Obj) (it a : Addr) (g : Nat) (Js : Nat → L2.St → Hp → Prop) (i : Nat) (s : Shared) : Prop := g < s.gens.size ∧ ∃ σ H, Inv XG [(ag, og)] σ H s ∧ s.heap.IsTupleIter it a i ∧ H it = none ∧ Js i σ H
/-- an item was given -/
def TurnY (XG : Cx) (ag : Addr) (og : Obj) (it a : Addr) (g : Nat) (Ou : Nat → Bool → L2.St → Hp → Prop) (i : Nat) (y : Value) (s : Shared) : Prop := g < s.gens.size ∧ ∃ σ H b, y = .bool b ∧ Inv XG [(ag, og)] σ H s ∧ s.heap.IsTupleIter it a (i + 1) ∧ H it = none ∧ Ou i b σ H
section
variable {XG : Cx} {ag it a : Addr} {og : Obj} {Js : Nat → L2.St → Hp → Prop} {Ou : Nat → Bool → L2.St → Hp → Prop} {elt : Expr} {x : Str} {px : Pos} {tg : TG} {tel : TE} {xs : List V} {g : Nat}
theorem turn_item (hc : XG.calm = true) (hx : XG.xe = fun _ _ => False) (hpg : PG XG (.Name x px) tg) (hel : PE XG elt tel) (e1 : it ∈ XG.ex) (e2 : it ≠ XG.env.locals) (e3 : ∀ y c, XG.env.cells.lookup y = some c → c ≠ it) (e4 : it ∉ XG.fs) (e5 : ag ≠ it)  (ep : XG.pn = [])
    (hq : ∀ i σ H, Js i σ H → SqT XG.K H a xs)
    (hs : ∀ i v σ H, xs[i]? = some v → Js i σ H → tg v σ H fun σ' H' => tel σ' H' fun y H2 => ∃ b, y = .bl b ∧ Ou i b σ' H2)
    (i : Nat) (s : Shared) (hi : i < xs.length) (hj : TurnJ XG ag og it a g Js i s) :
    wpAny (model XG.prog XG.w) XG.A (pyNext (.ref it)) (fun ov s₁ => ∃ v, ov = some v ∧ wpAny (model XG.prog XG.w) XG.A (assign (.Name x px) XG.env v) (fun _ s₂ =>
      wpAny (model XG.prog XG.w) XG.A (eval elt XG.env) (fun y s₃ => TurnY XG ag og it a g Ou i y s₃) (fun _ _ => False) s₂) (fun _ _ => False) s₁) (fun _ _ => False) s := by
  obtain ⟨hgs, σ, H, I, st, nit, js⟩ := hj
  have hsq := hq i σ H js
  obtain ⟨its, rv, p, hz⟩ := I.tuple hsq
  have hxi : xs[i]? = some xs[i] := List.getElem?_eq_getElem hi
  obtain ⟨u, hu, ru⟩ := rv.get hxi
  refine wpAny_pyNext_tuple_item st (show s.heap.IsTuple a its.toArray from p) (x := u) (by simpa using hu) fun h' st' sb => ?_
  have I1 : Inv XG [(ag, og)] σ H { s with heap := h' } := I.turned (t' := s.toks) (fun b o hb e => (sb.2 b hb).trans e) nit e2 (.inl e1) e3 (fun q hq => by
    rw [ep] at hq
    have : q = (ag, og) := by simpa using hq
    rw [this]
    exact e5)
  obtain ⟨oi, ho, hcl, hd⟩ := id st'
  have I2 := pin_one I1 ho nit e2 e4 (fun v z => by rw [hd] at z; cases z)
  refine ⟨u, rfl, GenW.wpAny_gsz (n := g + 1) hgs (wpAny_mono (hpg.run _ _ σ H xs[i] u _ I2 ru (hs i _ σ H hxi js)) (fun _ s₂ h hg2 => ?_) fun _ _ h _ => by rw [hx] at h; exact h)⟩
  obtain ⟨σ', H', I3, q⟩ := h
  refine GenW.wpAny_gsz (n := g + 1) hg2 (wpAny_mono (hel.run _ _ σ' H' _ I3 q) (fun y s₃ h hg3 => ?_) fun _ _ h _ => by rw [hx] at h; exact h)
  obtain ⟨v, H2, I4, rv2, b, rfl, ou⟩ := h
  have pn := I4.pin (it, oi) (by rw [ep]; simp)
  exact ⟨hg3, σ', H2, b, rv2, un_pin I4, ⟨oi, pn.1, hcl, hd⟩, pn.2.1, ou⟩
theorem turn_done (hc : XG.calm = true) (e1 : it ∈ XG.ex) (e2 : it ≠ XG.env.locals) (e3 : ∀ y c, XG.env.cells.lookup y = some c → c ≠ it) (e5 : ag ≠ it) (ep : XG.pn = []) (hq : ∀ i σ H, Js i σ H → SqT XG.K H a xs) (s : Shared) (hj : TurnJ XG ag og it a g Js xs.length s) :
    wpAny (model XG.prog XG.w) XG.A (pyNext (.ref it)) (fun ov s₁ => ov = none ∧ g < s₁.gens.size ∧ ∃ σ H, Inv XG [(ag, og)] σ H s₁ ∧ H it = none ∧ Js xs.length σ H) (fun _ _ => False) s := by
  obtain ⟨hgs, σ, H, I, st, nit, js⟩ := hj
  obtain ⟨its, rv, p, hz⟩ := I.tuple (hq _ σ H js)
  have hl := rv.length
  exact wpAny_pyNext_tuple_end (I.ok.hd hc) st (show s.heap.IsTuple a its.toArray from p) (by simp; omega) fun h' eb => ⟨rfl, hgs, σ, H, I.turned (t' := s.toks) (fun b o hb e => eb b o hb e) nit e2 (.inl e1) e3 (fun q hq => by
    rw [ep] at hq
    have : q = (ag, og) := by simpa using hq
    rw [this]
    exact e5), nit, js⟩
theorem turn_wake {b : Bool} (hw : ∀ i σ H, Ou i b σ H → Js (i + 1) σ H) (i : Nat) (y : Value) (s s'' : Shared) (hy : TurnY XG ag og it a g Ou i y s) (w : WkB g b y s s'') : TurnJ XG ag og it a g Js (i + 1) s'' := by
  obtain ⟨hgs, σ, H, b', e, I, st, nit, ou⟩ := hy
  obtain ⟨e2, gs', hb, rfl⟩ := w
  rw [e] at e2
  cases e2
  have J : Inv XG [(ag, og)] σ H { s with gens := ((s.setGen g gs').setGen g .running).gens } := gens_only I (allBare_setGen (allBare_setGen I.bare hb) rfl)
  refine ⟨?_, σ, H, J, st, nit, hw i σ H ou⟩
  simpa [Shared.setGen] using hgs
end
end Gd

set_option Elab.async false
set_option linter.all false
set_option maxRecDepth 100000
set_option maxHeartbeats 4000000
set_option autoImplicit false
/-! Gm: a generator expression over a tuple is made. -/
namespace Gd
open PySem PySem.Spec PyProof.Rows L2
/-- made: s4 stood before its frame, s5 behind; it the iterator over the tuple at a, ag the generator -/
structure GMade (X : Cx) (pins : List (Addr × Obj)) (σ : L2.St) (H2 : Hp) (s4 s5 : Shared) (it a : Addr) (cenv : Env) (ag : Addr) (c0 : Code) : Prop where
  I4 : Inv X pins σ H2 s4
  i1 : it < s4.heap.objs.size
  i2 : H2 it = none
  i3 : X.base.get? it = none
  i4 : it ∉ frs X.stack
  i5 : ∀ y c, X.env.cells.lookup y = some c → c ≠ it
  i6 : X.s_0.heap.objs.size ≤ it
  i7 : it ≠ X.env.locals
  i8 : ∀ p ∈ X.pn ++ pins, p.1 ≠ it
  l4 : cenv.locals = s4.heap.objs.size
  k5 : ∀ b o, s4.heap.get? b = some o → s5.heap.get? b = some o
  hN : ∃ m0, s5.heap.Ns cenv.locals m0
  e5 : ∃ h5 t5, s5 = { s4 with heap := h5, gens := s4.gens.push (.fresh c0), toks := t5 }
  isg : s5.heap.IsGen ag s4.gens.size
  agn : s4.heap.objs.size < ag
  st : s5.heap.IsTupleIter it a 0
section
variable {X : Cx} {pins : List (Addr × Obj)} {σ : L2.St} {H : Hp} {s : Shared}
theorem gen_tup {c P : Addr} {elt iter : Expr} {x : Str} {px gpos : Pos} {scope : Scope} {te : TE} {k : Nat} {Q' : Value → Shared → Prop} {Rd : Addr → List V → Hp → Prop}
    (hr : Room k X.A) (TB : GxR.TabB X.base X.mg c P) (hcode : X.env.code = .ref c) (S : GxR.GenS X.env scope x) (hi : PE X iter te)
    (hs : ∀ v, genFold iter X.env v = pure v) (I : Inv X pins σ H s) (h : te σ H fun v H1 => ∃ a xs, v = .ref a ∧ SqT X.K H1 a xs ∧ GxR.TabG H1 P ∧ Rd a xs H1)
    (hQ : ∀ a xs H1 H2 s4 s5 it code bi ag, Rd a xs H1 → SqT X.K H1 a xs → GxR.Tabbed P H1 H2 → bi = builtinsNs →
      GMade X pins σ H2 s4 s5 it a (genEnv scope (cloFrom X.env.cells scope.names []) s4.heap.objs.size code bi X.env) ag (cStart elt iter x px scope gpos it (genEnv scope (cloFrom X.env.cells scope.names []) s4.heap.objs.size code bi X.env)) → Q' (.ref ag) s5) :
    wpAny (model X.prog X.w) X.A (eval (.GeneratorExp elt [⟨.Name x px, iter, [], 0⟩] scope gpos) X.env) Q' X.xe s := by
  refine wpAny_GeneratorExp_make S.co (closure_ok S.free) S.cell S.dot S.kind (by have := hr.dp; omega) ?_ hs
  refine thn (hi.run pins s σ H _ I h) fun xv s1 ⟨v, H1, I1, r1, q1⟩ => ?_
  obtain ⟨a, xs, rfl, hsq, ⟨ps, hP, ht⟩, q1⟩ := q1
  obtain rfl : xv = Value.ref a := r1
  obtain ⟨its, rv, ptup, hz⟩ := I1.tuple hsq
  refine wpAny_pyIter_tuple (show s1.heap.IsTuple a its.toArray from ptup) ?_
  generalize ho : ({ cls := .type "tuple_iterator", data := .fields #[.ref a, .int 0 0] } : Obj) = o
  have hPs : s1.heap.get? P = some { cls := .none, data := .fields ps } := I1.hok P _ hP
  have hPlt : P < s1.heap.objs.size := Heap.lt_size hPs
  have hP2 : (s1.heap.push o).get? P = some { cls := .none, data := .fields ps } := Heap.get?_push_of_some _ hPs
  have cd : PySem.W.CodeHd (s1.heap.push o) c P := TB.code.keeps fun b u e => Heap.get?_push_of_some _ (I1.bk b u e)
  have lim2 : (s1.heap.push o).NoLimit := I1.nolimit.push o
  have cont : ∀ (code : Value) (h3 : Heap) (tk : Nat) (ps' : Array Value), Heap.ExtBut P (s1.heap.push o) h3 → (s1.heap.push o).objs.size ≤ h3.objs.size → h3.get? P = some { cls := .none, data := .fields ps' } → (∃ more, ps' = ps ++ more) → TriplesOk ps'.toList →
      wpAny (model X.prog X.w) X.A (builtinsFor X.env.globals X.env.builtins) (fun bi s₄ => ∀ h', h'.Ns s₄.heap.objs.size (fun y => if y = ".0" then some (Value.ref s1.heap.objs.size) else none) → Heap.SameBut s₄.heap.objs.size (s₄.heap.push { cls := .type "frame", data := .dict #[] }) h' →
          Q' (.ref h'.objs.size) { s₄ with
            gens := s₄.gens.push (.fresh (.compStart (.GeneratorExp elt [⟨.Name x px, iter, [], 0⟩] scope gpos) 0 (Value.ref s1.heap.objs.size) .none (genEnv scope (cloFrom X.env.cells scope.names []) s₄.heap.objs.size code bi X.env))),
            toks := s₄.toks + 1 + 1 + 1,
            heap := h'.push { cls := .type "generator", data := .fields #[.int s₄.gens.size 0, .str "<genexpr>" (s₄.toks + 1), .str (X.env.qual ++ "<genexpr>") (s₄.toks + 1 + 1)] } }) X.xe { s1 with heap := h3, toks := tk } := by
    intro code h3 tk ps' hx hsz hP3 hmore ht3
    obtain ⟨bm, ob, e1, e2, e3, e4, e5, e6, e7, e8⟩ := TB.bm
    have sz2 : (s1.heap.push o).objs.size = s1.heap.objs.size + 1 := Heap.size_push ..
    have keep3 : ∀ b u, b ≠ P → s1.heap.get? b = some u → h3.get? b = some u := fun b u hb e => hx b u hb (Heap.get?_push_of_some _ e)
    refine wpAny_builtinsFor (m := X.mg) (by rw [I1.ok.glob]; exact ((I1.mod.glob.keeps I1.bk).push o).extBut hx TB.gP) e1 e2 (keep3 _ _ e4 (I1.bk _ _ e5)) e6 e7 e8 ?_
    intro h' hn' hs'
    obtain ⟨more, em⟩ := hmore
    have I4 : Inv X pins σ (upd H1 P (.tbl (ps ++ more))) { s1 with heap := h3, gens := s1.gens, drawn := s1.drawn, toks := tk } := GxR.inv_tab I1 hP keep3 (by rw [← em]; exact hP3) I1.bare
    have hit3 : h3.get? s1.heap.objs.size = some o := hx _ _ (Nat.ne_of_gt hPlt) (Heap.get?_push_size _ (by rw [← ho]; rfl))
    have lt3 : s1.heap.objs.size < h3.objs.size := Heap.lt_size hit3
    have k5 : ∀ b u, h3.get? b = some u → (h'.push { cls := .type "generator", data := .fields #[.int s1.gens.size 0, .str "<genexpr>" (tk + 1), .str (X.env.qual ++ "<genexpr>") (tk + 1 + 1)] }).get? b = some u := fun b u e =>
      Heap.get?_push_of_some _ (hs'.extBut b u (Nat.ne_of_lt (Heap.lt_size e)) (Heap.get?_push_of_some _ e))
    have lt5 : h3.objs.size < h'.objs.size := by
      obtain ⟨oL, _, _, eL, _⟩ := hn'
      exact Heap.lt_size eL
    refine hQ a xs H1 (upd H1 P (.tbl (ps ++ more))) _ _ s1.heap.objs.size code builtinsNs _ q1 hsq ⟨⟨ps ++ more, upd_same, by rw [← em]; exact ht3⟩, fun b hb => upd_ne hb⟩ rfl
      { I4 := I4, i1 := lt3, i2 := ?_, i3 := ?_, i4 := fun hm => ?_, i5 := fun y c' e => ?_, i6 := I1.sz, i7 := ?_, i8 := fun p hp => ?_, l4 := rfl, k5 := k5, hN := ⟨_, hn'.push _⟩, e5 := ⟨_, _, rfl⟩, isg := ?_, agn := lt5, st := ?_ }
    · rw [upd_ne (Nat.ne_of_gt hPlt)]
      exact I1.hok.fresh (Nat.le_refl _)
    · cases q : X.base.get? s1.heap.objs.size with
      | none => rfl
      | some u => exact absurd (Heap.lt_size (I1.bk _ _ q)) (Nat.lt_irrefl _)
    · obtain ⟨_, u, e, _⟩ := I1.stack.mem hm
      exact absurd (Heap.lt_size e) (Nat.lt_irrefl _)
    · obtain ⟨v, u, e', _⟩ := I1.cell y c' e
      exact Nat.ne_of_lt (Heap.lt_size e')
    · obtain ⟨m, ⟨u, _, _, e', _⟩, _⟩ := I1.loc
      exact Nat.ne_of_gt (Heap.lt_size e')
    · exact Nat.ne_of_lt (Heap.lt_size (I1.pin p hp).1)
    · exact ⟨_, _, _, Heap.get?_push_size _ rfl, rfl, rfl, rfl⟩
    · exact ⟨o, k5 _ _ hit3, by rw [← ho], by rw [← ho]; rfl⟩
  refine ⟨lim2, ?_⟩
  cases hf : codeAmong gpos ps.toList with
  | none =>
    refine wpAny_genexprCodeX hcode (cd.code hP2 ht) (cd.tab hP2) hf fun c' h' tk hx hge hlt hco' _ htab' _ => ?_
    obtain ⟨o1, vs, f1, tf, fl, tg, inF, tx, tt, op, _, _, _, _, _, _, _, _, _, htr, _⟩ := hco'
    exact cont _ h' tk _ hx (Nat.le_trans hge (Nat.le_of_lt hlt)) htab'.2 ⟨_, rfl⟩ htr
  | some cv =>
    refine wpAny_genexprCode_hit hcode (cd.code hP2 ht) hf ?_
    exact cont cv (s1.heap.push o) s1.toks ps (Heap.ExtBut.refl _ _) (Nat.le_refl _) hP2 ⟨#[], by simp⟩ ht
end
end Gd

set_option Elab.async false
set_option linter.all false
set_option maxRecDepth 100000
set_option maxHeartbeats 4000000
set_option autoImplicit false
/-! Gn: all, any of a generator expression over a tuple whose element is any expression. -/
namespace Gd
open PySem PySem.Spec PyProof.Rows L2
section
variable {X : Cx} {pins : List (Addr × Obj)} {σ σ' : L2.St} {H2 : Hp} {s4 s5 : Shared} {it a ag : Addr} {cenv : Env} {N : List Str} {elt iter : Expr} {x : Str} {px gpos : Pos} {scope : Scope} {tg : TG} {tel : TE} {xs : List V} {k : Nat} {b0 : Bool} {Q : VK}
  {Js : Nat → L2.St → Hp → Prop} {Ou : Nat → Bool → L2.St → Hp → Prop}
/-- what the reading tells of the turns -/
structure TurnsOk (K : PySem.W.Frag) (b0 : Bool) (tg : TG) (tel : TE) (a : Addr) (xs : List V) (Js : Nat → L2.St → Hp → Prop) (Ou : Nat → Bool → L2.St → Hp → Prop) (Q : VK) : Prop where
  seq : ∀ i σ H, Js i σ H → SqT K H a xs
  turn : ∀ i v σ H, xs[i]? = some v → Js i σ H → tg v σ H fun σ' H' => tel σ' H' fun y H2 => ∃ b, y = .bl b ∧ Ou i b σ' H2
  next : ∀ i σ H, Ou i b0 σ H → Js (i + 1) σ H
  out : ∀ i σ H, i < xs.length → Ou i (!b0) σ H → Q (.bl (!b0)) H
  fin : ∀ σ H, Js xs.length σ H → Q (.bl b0) H
theorem gen_back (M : GMade X pins σ H2 s4 s5 it a cenv ag (cStart elt iter x px scope gpos it cenv)) {A2 : Around} {ps : List (Addr × Obj)} {σ1 : L2.St} {H1 : Hp} {s : Shared} {g : Array GenState} {v : V} {u : Value} (I : Inv (genCx X A2 s4 H2 it cenv N) ps σ1 H1 s) (hb : AllBare g) (r : RelV v u) (q : Q v H1) :
    EP X pins σ Q u { s with gens := g } := by
  refine ⟨v, H1, M.I4.call' (ch := [it]) I.os I.base I.hok hb (fun b hm => ?_), r, q⟩
  have e : b = it := by simpa using hm
  rw [e]
  exact ⟨.inr M.i6, M.i7, M.i5, M.i8⟩
theorem gen_goesJ (hr : Room k X.A) (M : GMade X pins σ H2 s4 s5 it a cenv ag (cStart elt iter x px scope gpos it cenv)) (hco : cenv.scope.isCoroutine = false) (kd : cenv.scope.kind = .function) (gl : cenv.globals = mainGlobals) (bl : cenv.builtins = builtinsNs) (hLf : cenv.frame = some cenv.locals)
    (hcl : ∀ y c, cenv.cells.lookup y = some c → X.env.cells.lookup y = some c) (hno : ∀ y, cenv.kindOf y ≠ some .cell) (hfree : ∀ y, cenv.kindOf y = some .free → ∃ c, cenv.cells.lookup y = some c) (hlen : σ'.length = N.length)
    (hcap : ∀ (i : Nat) (y : Str) (v : V), N[i]? = some y → σ'[i]? = some (some v) → cenv.kindOf y = some .free ∧ ∃ j : Nat, X.N[j]? = some y ∧ σ[j]? = some (some v) ∧ (X.env.kindOf y = some .cell ∨ X.env.kindOf y = some .free))
    (hpg : PG (genCx X (X.A.in1.in1.deeper cenv) s4 H2 it cenv N) (.Name x px) tg) (hel : PE (genCx X (X.A.in1.in1.deeper cenv) s4 H2 it cenv N) elt tel) (T : TurnsOk X.K b0 tg tel a xs Js Ou Q) (j0 : Js 0 σ' H2) :
    ∃ og, GenJ X.prog X.w X.A.in1 ag s4.gens.size xs.length b0 (TurnY (genCx X (X.A.in1.in1.deeper cenv) s4 H2 it cenv N) ag og it a s4.gens.size Ou)
      (fun s => s4.gens.size < s.gens.size ∧ ∃ σ1 H1, Inv (genCx X (X.A.in1.in1.deeper cenv) s4 H2 it cenv N) [(ag, og)] σ1 H1 s ∧ H1 it = none ∧ Js xs.length σ1 H1) 0 s5 ∧
      og.cls = .type "generator" ∧ (∃ nm qn, og.data = .fields #[.int s4.gens.size 0, nm, qn]) ∧ og.slots = #[] := by
  obtain ⟨og, nm, qn, oe, oc, od, osl⟩ := id M.isg
  refine ⟨og, ⟨M.isg, M.I4.nolimit.keeps M.k5, .fresh (cStart elt iter x px scope gpos it cenv), ?_, rfl, ?_⟩, oc, ⟨nm, qn, od⟩, osl⟩
  · obtain ⟨h5, t5, e⟩ := M.e5
    rw [e]
    exact Array.getElem?_push_size
  have hL : s4.heap.objs.size ≤ cenv.locals := Nat.le_of_eq M.l4.symm
  have start : TurnJ (genCx X (X.A.in1.in1.deeper cenv) s4 H2 it cenv N) ag og it a s4.gens.size Js 0 (s5.setGen s4.gens.size .running) := by
    obtain ⟨m0, hN⟩ := M.hN
    obtain ⟨h5, t5, e⟩ := M.e5
    have k5 := M.k5
    have st := M.st
    rw [e] at k5 hN oe st ⊢
    have I5 := gen_inv (g5 := (({ s4 with heap := h5, gens := s4.gens.push (.fresh (cStart elt iter x px scope gpos it cenv)), toks := t5 } : Shared).setGen s4.gens.size .running).gens) (t5 := t5) (σ' := σ') (A1 := X.A.in1.in1) M.I4 M.I4.ok.frames hr.hd kd gl bl hL hLf hcl hno hfree M.i1 M.i2 M.i3 M.i4 M.i5 k5 hN
      (allBare_setGen (M.I4.bare.push rfl) rfl) hlen hcap
    refine ⟨by simp [Shared.setGen], σ', H2, pin_one I5 oe (M.I4.hok.fresh (Nat.le_of_lt M.agn)) (fun z => ?_) (fun hm => ?_) (fun v z => by rw [od] at z; cases z), st, M.i2, j0⟩
    · have z' : ag = cenv.locals := z
      rw [M.l4] at z'
      exact absurd M.agn (by rw [z']; exact Nat.lt_irrefl _)
    · obtain ⟨_, u, e', _⟩ := M.I4.stack.mem (show ag ∈ frs X.stack from hm)
      exact absurd (Nat.lt_trans (Heap.lt_size e') M.agn) (Nat.lt_irrefl _)
  have ne : ag ≠ it := fun z => by
    have q := M.agn
    rw [z] at q
    exact absurd (Nat.lt_trans q M.i1) (Nat.lt_irrefl _)
  have cellne : ∀ y c, cenv.cells.lookup y = some c → c ≠ it := fun y c e => M.i5 y c (hcl y c e)
  have locne : it ≠ cenv.locals := by
    rw [M.l4]
    exact Nat.ne_of_lt M.i1
  refine seg_startJ (J := TurnJ (genCx X (X.A.in1.in1.deeper cenv) s4 H2 it cenv N) ag og it a s4.gens.size Js) hco (fun s hj => ?_) (fun s Q' hj hq => ?_) _ start
  · refine seg_loopJ (J := TurnJ (genCx X (X.A.in1.in1.deeper cenv) s4 H2 it cenv N) ag og it a s4.gens.size Js) hco (fun i s hi hj => ?_) (fun s hj => ?_) (fun i y s s'' _ hy hw => turn_wake T.next i y s s'' hy hw) xs.length 0 s s (Nat.sub_zero _) (Nat.zero_le _) hj
    · rw [over_comp]
      exact turn_item (XG := genCx X (X.A.in1.in1.deeper cenv) s4 H2 it cenv N) rfl rfl hpg hel (by show it ∈ [it]; simp) locne cellne M.i4 ne rfl T.seq T.turn i s hi hj
    · rw [over_comp]
      exact turn_done (XG := genCx X (X.A.in1.in1.deeper cenv) s4 H2 it cenv N) rfl (by show it ∈ [it]; simp) locne cellne ne rfl T.seq s hj
  · obtain ⟨_, σ1, H1, I, st, _⟩ := hj
    exact wpAny_pyIter_tupleiter st hq
/-- hyd of the consumers -/
theorem turnY_is {XG : Cx} {og : Obj} {g : Nat} (c1 : og.cls = .type "generator") (c2 : ∃ nm qn, og.data = .fields #[.int g 0, nm, qn]) (c3 : og.slots = #[]) (ep : XG.pn = []) (i : Nat) (v : Value) (s : Shared) (h : TurnY XG ag og it a g Ou i v s) :
    (∃ b, v = .bool b) ∧ s.heap.IsGen ag g ∧ s.heap.NoLimit ∧ g < s.gens.size := by
  obtain ⟨hg, σ1, H1, b, e, I, _, _, _⟩ := h
  obtain ⟨nm, qn, c2⟩ := c2
  have pn := I.pin (ag, og) (by rw [ep]; simp)
  exact ⟨⟨b, e⟩, ⟨og, nm, qn, pn.1, c1, c2, c3⟩, I.nolimit, hg⟩
theorem call_all_gen (hr : Room k X.A) (M : GMade X pins σ H2 s4 s5 it a cenv ag (cStart elt iter x px scope gpos it cenv)) (hco : cenv.scope.isCoroutine = false) (kd : cenv.scope.kind = .function) (gl : cenv.globals = mainGlobals) (bl : cenv.builtins = builtinsNs) (hLf : cenv.frame = some cenv.locals)
    (hcl : ∀ y c, cenv.cells.lookup y = some c → X.env.cells.lookup y = some c) (hno : ∀ y, cenv.kindOf y ≠ some .cell) (hfree : ∀ y, cenv.kindOf y = some .free → ∃ c, cenv.cells.lookup y = some c) (hlen : σ'.length = N.length)
    (hcap : ∀ (i : Nat) (y : Str) (v : V), N[i]? = some y → σ'[i]? = some (some v) → cenv.kindOf y = some .free ∧ ∃ j : Nat, X.N[j]? = some y ∧ σ[j]? = some (some v) ∧ (X.env.kindOf y = some .cell ∨ X.env.kindOf y = some .free))
    (hpg : PG (genCx X (X.A.in1.in1.deeper cenv) s4 H2 it cenv N) (.Name x px) tg) (hel : PE (genCx X (X.A.in1.in1.deeper cenv) s4 H2 it cenv N) elt tel) (T : TurnsOk X.K true tg tel a xs Js Ou Q) (j0 : Js 0 σ' H2) :
    wpAny (model X.prog X.w) X.A (call (.builtin "all") [.ref ag]) (EP X pins σ Q) X.xe s5 := by
  obtain ⟨og, G, c1, c2, c3⟩ := gen_goesJ hr M hco kd gl bl hLf hcl hno hfree hlen hcap hpg hel T j0
  refine call_function_tree F.kind_all F.plain_all F.entry_all (F.args_all1 _) ?_
  unfold Builtin.«all»
  refine wpAny_bind (m := oneArg "all" _) (wpAny_pure ?_)
  refine wpAny_bind (wpAny_pyIter_gen M.isg ?_)
  refine wpAny_pure ⟨plainId_quiet F.plain_all_loop _, all_loopJ (hr.hd) (by have := hr.dp; show X.A.depth < _; omega) (fun i v s h => turnY_is c1 c2 c3 rfl i v s h) (fun i s gs' hb hi h => ?_) (fun s h' d hk => ?_) xs.length 0 s5 (Nat.sub_zero _) (Nat.zero_le _) G⟩
  · obtain ⟨_, σ1, H1, b, e, I, _, _, ou⟩ := h
    cases e
    exact gen_back M I (allBare_setGen I.bare hb) (v := .bl false) rfl (T.out i σ1 H1 hi ou)
  · obtain ⟨_, σ1, H1, I, _, js⟩ := d
    exact gen_back M (I.kept (t' := s.toks) hk) (allBare_setGen I.bare rfl) (v := .bl true) rfl (T.fin σ1 H1 js)
theorem call_any_gen (hr : Room k X.A) (M : GMade X pins σ H2 s4 s5 it a cenv ag (cStart elt iter x px scope gpos it cenv)) (hco : cenv.scope.isCoroutine = false) (kd : cenv.scope.kind = .function) (gl : cenv.globals = mainGlobals) (bl : cenv.builtins = builtinsNs) (hLf : cenv.frame = some cenv.locals)
    (hcl : ∀ y c, cenv.cells.lookup y = some c → X.env.cells.lookup y = some c) (hno : ∀ y, cenv.kindOf y ≠ some .cell) (hfree : ∀ y, cenv.kindOf y = some .free → ∃ c, cenv.cells.lookup y = some c) (hlen : σ'.length = N.length)
    (hcap : ∀ (i : Nat) (y : Str) (v : V), N[i]? = some y → σ'[i]? = some (some v) → cenv.kindOf y = some .free ∧ ∃ j : Nat, X.N[j]? = some y ∧ σ[j]? = some (some v) ∧ (X.env.kindOf y = some .cell ∨ X.env.kindOf y = some .free))
    (hpg : PG (genCx X (X.A.in1.in1.deeper cenv) s4 H2 it cenv N) (.Name x px) tg) (hel : PE (genCx X (X.A.in1.in1.deeper cenv) s4 H2 it cenv N) elt tel) (T : TurnsOk X.K false tg tel a xs Js Ou Q) (j0 : Js 0 σ' H2) :
    wpAny (model X.prog X.w) X.A (call (.builtin "any") [.ref ag]) (EP X pins σ Q) X.xe s5 := by
  obtain ⟨og, G, c1, c2, c3⟩ := gen_goesJ hr M hco kd gl bl hLf hcl hno hfree hlen hcap hpg hel T j0
  refine call_function_tree F.kind_any F.plain_any F.entry_any (F.args_any1 _) ?_
  unfold Builtin.«any»
  refine wpAny_bind (m := oneArg "any" _) (wpAny_pure ?_)
  refine wpAny_bind (wpAny_pyIter_gen M.isg ?_)
  refine wpAny_pure ⟨plainId_quiet F.plain_any_loop _, any_loopJ (hr.hd) (by have := hr.dp; show X.A.depth < _; omega) (fun i v s h => turnY_is c1 c2 c3 rfl i v s h) (fun i s gs' hb hi h => ?_) (fun s h' d hk => ?_) xs.length 0 s5 (Nat.sub_zero _) (Nat.zero_le _) G⟩
  · obtain ⟨_, σ1, H1, b, e, I, _, _, ou⟩ := h
    cases e
    exact gen_back M I (allBare_setGen I.bare hb) (v := .bl true) rfl (T.out i σ1 H1 hi ou)
  · obtain ⟨_, σ1, H1, I, _, js⟩ := d
    exact gen_back M (I.kept (t' := s.toks) hk) (allBare_setGen I.bare rfl) (v := .bl false) rfl (T.fin σ1 H1 js)
end
end Gd

set_option Elab.async false
set_option linter.all false
set_option maxRecDepth 100000
set_option maxHeartbeats 4000000
set_option autoImplicit false
/-! Go: the rules: all(elt for x in e), any(..), e a tuple, elt any expression. -/
namespace Gd
open PySem PySem.Spec PyProof.Rows L2
/-- the reading. caps: where the captured names stand in the def's slots -/
def tAG (K : PySem.W.Frag) (P : Addr) (b0 : Bool) (caps : List Nat) (tg : TG) (te tel : TE) : TE := fun σ H Q => te σ H fun v H1 => ∃ a xs, v = .ref a ∧ SqT K H1 a xs ∧ GxR.TabG H1 P ∧
  ∀ H2, GxR.Tabbed P H1 H2 → ∃ (Js : Nat → L2.St → Hp → Prop) (Ou : Nat → Bool → L2.St → Hp → Prop), Js 0 (none :: caps.map fun j => (σ[j]?).join) H2 ∧ TurnsOk K b0 tg tel a xs Js Ou Q
section
variable {X : Cx} {σ : L2.St}
theorem clo_at {cells : List (Str × Addr)} {names : List (Str × NameKind)} (h : ∀ y ∈ names, y.2 = .free → ∃ c, cells.lookup y.1 = some c) {y : Str} {c : Addr} (e : (cloFrom cells names []).lookup y = some c) : cells.lookup y = some c := by
  rcases cloFrom_mem (PySem.mem_of_lookup e) with z | ⟨z1, z2⟩
  · cases z
  · obtain ⟨c', e'⟩ := h _ z1 rfl
    have e2 : cells.lookup y = some c' := e'
    rw [e2] at z2 ⊢
    rw [z2]
    rfl
theorem clo_has {cells : List (Str × Addr)} {names : List (Str × NameKind)} {y : Str} (e : names.lookup y = some .free) : ∃ c, (cloFrom cells names []).lookup y = some c :=
  mem_lookup (cloFrom_has (PySem.mem_of_lookup e))
/-- the captured names: their slots in the def -/
def Caps (X : Cx) (scope : Scope) (ys : List Str) (caps : List Nat) : Prop := caps.length = ys.length ∧ ∀ (i : Nat) (y : Str), ys[i]? = some y → scope.names.lookup y = some .free ∧ ∃ j : Nat, caps[i]? = some j ∧ X.N[j]? = some y ∧ (X.env.kindOf y = some .cell ∨ X.env.kindOf y = some .free)
theorem caps_ok {scope : Scope} {x : Str} {ys : List Str} {caps : List Nat} (C : Caps X scope ys caps) {C0 : Addr} {code : Value} {bi : Addr} {cl : List (Str × Addr)} (i : Nat) (y : Str) (v : V) (h1 : (x :: ys)[i]? = some y) (h2 : (none :: caps.map fun j => (σ[j]?).join)[i]? = some (some v)) :
    (genEnv scope cl C0 code bi X.env).kindOf y = some .free ∧ ∃ j : Nat, X.N[j]? = some y ∧ σ[j]? = some (some v) ∧ (X.env.kindOf y = some .cell ∨ X.env.kindOf y = some .free) := by
  cases i with
  | zero => simp at h2
  | succ i =>
    rw [List.getElem?_cons_succ] at h1 h2
    obtain ⟨q1, j, q2, q3, q4⟩ := C.2 i y h1
    refine ⟨q1, j, q3, ?_, q4⟩
    rw [List.getElem?_map, q2] at h2
    have e : (σ[j]?).join = some v := Option.some.inj h2
    cases w : σ[j]? with
    | none => rw [w] at e; cases e
    | some u => rw [w] at e; rw [show u = some v from e]
section
variable {c P : Addr} {elt iter : Expr} {x : Str} {px p pos gpos : Pos} {scope : Scope} {te tel : TE} {tg : TG} {k : Nat} {ys : List Str} {caps : List Nat}
theorem pe_allG (hr : Room k X.A) (hg : Gl X "all") (hm : X.mg "all" = none) (hb : bootBuiltins "all" = some (.builtin "all")) (TB : GxR.TabB X.base X.mg c P) (hcode : X.env.code = .ref c) (S : GxR.GenS X.env scope x) (hi : PE X iter te)
    (hs : ∀ v, genFold iter X.env v = pure v) (C : Caps X scope ys caps)
    (hpg : ∀ A2 s4 H2 it L code bi, PG (genCx X A2 s4 H2 it (genEnv scope (cloFrom X.env.cells scope.names []) L code bi X.env) (x :: ys)) (.Name x px) tg)
    (hel : ∀ A2 s4 H2 it L code bi, A2 = X.A.in1.in1.deeper (genEnv scope (cloFrom X.env.cells scope.names []) L code bi X.env) → PE (genCx X A2 s4 H2 it (genEnv scope (cloFrom X.env.cells scope.names []) L code bi X.env) (x :: ys)) elt tel)
    (he : starEach [.GeneratorExp elt [⟨.Name x px, iter, [], 0⟩] scope gpos] X.env = (false, eval (.GeneratorExp elt [⟨.Name x px, iter, [], 0⟩] scope gpos) X.env) :: starEach [] X.env := by rfl) :
    PE X (.Call (.Name "all" p) [.GeneratorExp elt [⟨.Name x px, iter, [], 0⟩] scope gpos] [] pos) (tAG X.K P true caps tg te tel) := by
  refine ⟨fun pins s σ H Q I h => ?_⟩
  refine wpAny_Call_Name_kw (ld_blt I hg hm hb ?_)
  refine PyProof.Rows.callWith_builtin1 ?_ he (by rfl)
  rw [he]
  show wpAny _ _ (spliced ((false, eval (.GeneratorExp elt [⟨.Name x px, iter, [], 0⟩] scope gpos) X.env) :: backTo pos (starEach [] X.env))) _ _ s
  refine Calls.spliced_cons (gen_tup (Rd := fun a xs H1 => ∀ H2, GxR.Tabbed P H1 H2 → ∃ (Js : Nat → L2.St → Hp → Prop) (Ou : Nat → Bool → L2.St → Hp → Prop), Js 0 (none :: caps.map fun j => (σ[j]?).join) H2 ∧ TurnsOk X.K true tg tel a xs Js Ou Q) hr TB hcode S hi hs I h
    fun a xs H1 H2 s4 s5 it code bi ag rd hsq tb hbi M => ?_)
  obtain ⟨Js, Ou, j0, T⟩ := rd H2 tb
  refine Calls.spliced_nil ?_
  refine call_all_gen (N := x :: ys) hr M S.co S.kind I.ok.glob hbi rfl (fun y c e => clo_at S.free e) (fun y e => S.cell _ (PySem.mem_of_lookup e) rfl) (fun y e => clo_has e) (by rw [List.length_cons, List.length_map, List.length_cons, C.1]) (caps_ok C) (hpg _ _ _ _ _ _ _) (hel _ _ _ _ _ _ _ rfl) T j0
theorem pe_anyG (hr : Room k X.A) (hg : Gl X "any") (hm : X.mg "any" = none) (TB : GxR.TabB X.base X.mg c P) (hcode : X.env.code = .ref c) (S : GxR.GenS X.env scope x) (hi : PE X iter te)
    (hs : ∀ v, genFold iter X.env v = pure v) (C : Caps X scope ys caps)
    (hpg : ∀ A2 s4 H2 it L code bi, PG (genCx X A2 s4 H2 it (genEnv scope (cloFrom X.env.cells scope.names []) L code bi X.env) (x :: ys)) (.Name x px) tg)
    (hel : ∀ A2 s4 H2 it L code bi, A2 = X.A.in1.in1.deeper (genEnv scope (cloFrom X.env.cells scope.names []) L code bi X.env) → PE (genCx X A2 s4 H2 it (genEnv scope (cloFrom X.env.cells scope.names []) L code bi X.env) (x :: ys)) elt tel)
    (he : starEach [.GeneratorExp elt [⟨.Name x px, iter, [], 0⟩] scope gpos] X.env = (false, eval (.GeneratorExp elt [⟨.Name x px, iter, [], 0⟩] scope gpos) X.env) :: starEach [] X.env := by rfl) :
    PE X (.Call (.Name "any" p) [.GeneratorExp elt [⟨.Name x px, iter, [], 0⟩] scope gpos] [] pos) (tAG X.K P false caps tg te tel) := by
  refine ⟨fun pins s σ H Q I h => ?_⟩
  refine wpAny_Call_Name_kw (ld_blt I hg hm boot_any ?_)
  refine PyProof.Rows.callWith_builtin1 ?_ he (by rfl)
  rw [he]
  show wpAny _ _ (spliced ((false, eval (.GeneratorExp elt [⟨.Name x px, iter, [], 0⟩] scope gpos) X.env) :: backTo pos (starEach [] X.env))) _ _ s
  refine Calls.spliced_cons (gen_tup (Rd := fun a xs H1 => ∀ H2, GxR.Tabbed P H1 H2 → ∃ (Js : Nat → L2.St → Hp → Prop) (Ou : Nat → Bool → L2.St → Hp → Prop), Js 0 (none :: caps.map fun j => (σ[j]?).join) H2 ∧ TurnsOk X.K false tg tel a xs Js Ou Q) hr TB hcode S hi hs I h
    fun a xs H1 H2 s4 s5 it code bi ag rd hsq tb hbi M => ?_)
  obtain ⟨Js, Ou, j0, T⟩ := rd H2 tb
  refine Calls.spliced_nil ?_
  refine call_any_gen (N := x :: ys) hr M S.co S.kind I.ok.glob hbi rfl (fun y c e => clo_at S.free e) (fun y e => S.cell _ (PySem.mem_of_lookup e) rfl) (fun y e => clo_has e) (by rw [List.length_cons, List.length_map, List.length_cons, C.1]) (caps_ok C) (hpg _ _ _ _ _ _ _) (hel _ _ _ _ _ _ _ rfl) T j0
end
end
end Gd

set_option Elab.async false
set_option linter.all false
set_option maxRecDepth 100000
set_option maxHeartbeats 2000000
set_option autoImplicit false
/-! Df: expressions by data. -/
namespace Dl
open PySem PySem.Spec PyProof.Rows L2 Gd
/-! ### what they come to -/
def asB : PyData → M Bool
  | .bool b => .ret b
  | _ => .fail
def mCon (d : PyData) : List Cell → M PyData := fun _ => .ret d
def mVar (i : Nat) : List Cell → M PyData := fun Γ => match Γ[i]? with
  | some (.im d) => .ret d
  | _ => .fail
def mPk (i : Nat) : List Cell → M PyData := fun Γ => match Γ[i]? with
  | some (.im d) => .ret d
  | some (.ow ds) => .ret (.list ds)
  | _ => .fail
def mUn (o : PyData → M PyData) (f : List Cell → M PyData) : List Cell → M PyData := fun Γ => (f Γ).bind o
def mOp (o : PyData → PyData → M PyData) (f g : List Cell → M PyData) : List Cell → M PyData := fun Γ => (f Γ).bind fun a => (g Γ).bind fun b => o a b
def mNil : List Cell → M (List PyData) := fun _ => .ret []
def mCons (f : List Cell → M PyData) (g : List Cell → M (List PyData)) : List Cell → M (List PyData) := fun Γ => (f Γ).bind fun a => (g Γ).bind fun b => .ret (a :: b)
def mTup (f : List Cell → M (List PyData)) : List Cell → M PyData := fun Γ => (f Γ).bind fun ds => (M.gd (ds.length ≤ 1000)).bind fun _ => .ret (.tuple ds)
def mLst (f : List Cell → M (List PyData)) : List Cell → M PyData := fun Γ => (f Γ).bind fun ds => (M.gd (ds.length ≤ 1000)).bind fun _ => .ret (.list ds)
def mFn (o : List PyData → M PyData) (f : List Cell → M (List PyData)) : List Cell → M PyData := fun Γ => (f Γ).bind o
def mAnd (f g : List Cell → M PyData) : List Cell → M PyData := fun Γ => (f Γ).bind fun a => (asB a).bind fun b => if b then g Γ else .ret (.bool false)
def mOr (f g : List Cell → M PyData) : List Cell → M PyData := fun Γ => (f Γ).bind fun a => (asB a).bind fun b => if b then .ret (.bool true) else g Γ
def mNot (f : List Cell → M PyData) : List Cell → M PyData := fun Γ => (f Γ).bind fun a => (asB a).bind fun b => .ret (.bool !b)
def mIf (t : List Cell → M Bool) (f g : List Cell → M PyData) : List Cell → M PyData := fun Γ => (t Γ).bind fun b => if b then f Γ else g Γ
def mChn (o o' : PyData → PyData → M PyData) (f g h : List Cell → M PyData) : List Cell → M PyData := fun Γ => (f Γ).bind fun a => (g Γ).bind fun b => (o a b).bind fun z => (asB z).bind fun k => if k then (h Γ).bind fun d => o' b d else .ret (.bool false)
def tVal (f : List Cell → M PyData) : List Cell → M Bool := fun Γ => (f Γ).bind asB
def tAndM (t u : List Cell → M Bool) : List Cell → M Bool := fun Γ => (t Γ).bind fun b => if b then u Γ else .ret false
def tOrM (t u : List Cell → M Bool) : List Cell → M Bool := fun Γ => (t Γ).bind fun b => if b then .ret true else u Γ
def tNotM (t : List Cell → M Bool) : List Cell → M Bool := fun Γ => (t Γ).bind fun b => .ret !b
/-- an operation by data is what the rule asks -/
def Op2 (c : Fc) (r : R2) (o : PyData → PyData → M PyData) : Prop := ∀ (W : Addr → Prop) (H : Hp) (x y : V) (a b : PyData) (Q : VK), LW c.T W H → Pk c W H x a → Pk c W H y b → ((o a b).run fun d => ∀ H' v, Same H H' → Da W c.K H' v d → Q v H') → r x y H Q
def FnA (c : Fc) (r : List V → Hp → VK → Prop) (o : List PyData → M PyData) : Prop := ∀ (W : Addr → Prop) (H : Hp) (xs : List V) (ds : List PyData) (Q : VK), LW c.T W H → DaL W c.K H xs ds → ((o ds).run fun d => ∀ H' v, Same H H' → Da W c.K H' v d → Q v H') → r xs H Q
def Fn1 (c : Fc) (r : V → Hp → VK → Prop) (o : PyData → M PyData) : Prop := ∀ (W : Addr → Prop) (H : Hp) (x : V) (a : PyData) (Q : VK), LW c.T W H → Pk c W H x a → ((o a).run fun d => ∀ H' v, Same H H' → Da W c.K H' v d → Q v H') → r x H Q
section
variable {X : Cx} {c : Fc} {e e1 e2 e3 : Expr} {es : List Expr} {f g h : List Cell → M PyData} {F : List Cell → M (List PyData)} {t u : List Cell → M Bool} {pos : Pos} {d : PyData}
/-- what stands behind a first part -/
theorem tF_seq {W : Addr → Prop} {Γ : List Cell} {H H1 : Hp} {σ : L2.St} (S : Sr c W H σ Γ) (k : Ch c H H1) {Q : VK} (h : (f Γ).run fun d => ∀ H' v, Ch c H H' → Da W c.K H' v d → Q v H') : tF c f σ H1 Q :=
  ⟨W, Γ, S.ch k, (f Γ).mono (fun d q H' v k' => q H' v (k.trans k')) h⟩
theorem tG_seq {W : Addr → Prop} {Γ : List Cell} {H H1 : Hp} {σ : L2.St} (S : Sr c W H σ Γ) (k : Ch c H H1) {Q : VK} (h : (f Γ).run fun d => ∀ H' v, Ch c H H' → Pk c W H' v d → Q v H') : tG c f σ H1 Q :=
  ⟨W, Γ, S.ch k, (f Γ).mono (fun d q H' v k' => q H' v (k.trans k')) h⟩
theorem tAF_seq {W : Addr → Prop} {Γ : List Cell} {H H1 : Hp} {σ : L2.St} (S : Sr c W H σ Γ) (k : Ch c H H1) {Q : List V → Hp → Prop} (h : (F Γ).run fun d => ∀ H' v, Ch c H H' → DaL W c.K H' v d → Q v H') : tAF c F σ H1 Q :=
  ⟨W, Γ, S.ch k, (F Γ).mono (fun d q H' v k' => q H' v (k.trans k')) h⟩
theorem tTF_seq {W : Addr → Prop} {Γ : List Cell} {H H1 : Hp} {σ : L2.St} (S : Sr c W H σ Γ) (k : Ch c H H1) {Q : Bool → Hp → Prop} (h : (t Γ).run fun d => ∀ H', Ch c H H' → Q d H') : tTF c t σ H1 Q :=
  ⟨W, Γ, S.ch k, (t Γ).mono (fun d q H' k' => q H' (k.trans k')) h⟩
theorem pf_g (h : PE X e (tF c f)) : PE X e (tG c f) := pe_weak h fun σ H Q ⟨W, Γ, S, q⟩ => ⟨W, Γ, S, (f Γ).mono (fun d q H' v k a => q H' v k (.inl a)) q⟩
theorem pf_tc {v : V} (h : PE X e (tC v)) (hd : ∀ W H, Da W c.K H v d) : PE X e (tF c (mCon d)) := pe_weak h fun σ H Q ⟨W, Γ, S, q⟩ => q H v S.refl (hd W H)
theorem pf_int {i j} : PE X (.Constant (.int i) j pos) (tF c (mCon (.int i))) := pf_tc pe_int fun _ _ => .int i
theorem pf_bl {b j} : PE X (.Constant (.bool b) j pos) (tF c (mCon (.bool b))) := pf_tc pe_bl fun _ _ => .bl b
theorem pf_non {j} : PE X (.Constant .none j pos) (tF c (mCon .none)) := pf_tc pe_non fun _ _ => .non
theorem pf_str {x j} : PE X (.Constant (.str x) j pos) (tF c (mCon (.str x))) := pf_tc pe_str fun _ _ => .str x
theorem pf_var {i : Nat} (h : PE X e (tVar i)) : PE X e (tF c (mVar i)) := pe_weak h fun σ H Q ⟨W, Γ, S, q⟩ => by
  unfold mVar at q
  cases e : Γ[i]? with
  | none => rw [e] at q; exact q.elim
  | some z =>
    rw [e] at q
    cases z with
    | im d =>
      obtain ⟨u, e2, a⟩ := S.at' i _ e
      exact ⟨u, e2, q H u S.refl a⟩
    | un => exact q.elim
    | ow ds => exact q.elim
    | well => exact q.elim
theorem pg_var {i : Nat} (h : PE X e (tVar i)) : PE X e (tG c (mPk i)) := pe_weak h fun σ H Q ⟨W, Γ, S, q⟩ => by
  unfold mPk at q
  cases e : Γ[i]? with
  | none => rw [e] at q; exact q.elim
  | some z =>
    rw [e] at q
    cases z with
    | im d =>
      obtain ⟨u, e2, a⟩ := S.at' i _ e
      exact ⟨u, e2, q H u S.refl (.inl a)⟩
    | un => exact q.elim
    | ow ds =>
      obtain ⟨a, xs, e2, w, _, m, h1, h2⟩ := S.at' i _ e
      exact ⟨_, e2, q H _ S.refl (.inr ⟨a, xs, ds, rfl, rfl, m, h1, h2⟩)⟩
    | well => exact q.elim
theorem w_un1 {r : V → Hp → VK → Prop} {o : PyData → M PyData} (ho : Fn1 c r o) {σ : L2.St} {H : Hp} {Q : VK} (q : tF c (mUn o f) σ H Q) : tG c f σ H fun x H1 => r x H1 Q := by
  obtain ⟨W, Γ, S, q⟩ := q
  exact ⟨W, Γ, S, (f Γ).mono (fun a q H1 x k da => ho W H1 x a Q (S.lwC k) da ((o a).mono (fun d q H2 v s dd => q H2 v (k.trans ((S.ch k).cs s)) dd) q)) q⟩
theorem w_op2 {r : R2} {o : PyData → PyData → M PyData} (ho : Op2 c r o) {σ : L2.St} {H : Hp} {Q : VK} (q : tF c (mOp o f g) σ H Q) : tG c f σ H fun x H1 => tG c g σ H1 fun y H2 => r x y H2 Q := by
  obtain ⟨W, Γ, S, q⟩ := q
  exact ⟨W, Γ, S, (f Γ).mono (fun a q H1 x k1 da => ⟨W, Γ, S.ch k1, (g Γ).mono (fun b q H2 y k2 db => ho W H2 x y a b Q ((S.ch k1).lwC k2) ((S.ch k1).pk k2 da) db
    ((o a b).mono (fun d q H3 v s dd => q H3 v ((k1.trans k2).trans ((S.ch (k1.trans k2)).cs s)) dd) q)) q⟩) q⟩
/-- an operator -/
theorem pf_op {op : Operator} {r : R2} {o : PyData → PyData → M PyData} (hr : ∀ {a b : Expr} {ta tb : TE}, PE X a ta → PE X b tb → PE X (.BinOp a op b pos) (tOp r ta tb)) (ho : Op2 c r o) (ha : PE X e1 (tG c f)) (hb : PE X e2 (tG c g)) : PE X (.BinOp e1 op e2 pos) (tF c (mOp o f g)) :=
  pe_weak (hr ha hb) fun σ H Q q => w_op2 ho q
theorem pf_cmp {op : CmpOp} {r : R2} {o : PyData → PyData → M PyData} (hr : OpR X (compareOp op) r) (ho : Op2 c r o) (ha : PE X e1 (tG c f)) (hb : PE X e2 (tG c g)) (hm : behindInMarks op e2 = false) : PE X (.Compare e1 [op] [e2] pos) (tF c (mOp o f g)) :=
  pe_weak (pe_cmpR hr ha hb hm) fun σ H Q q => w_op2 ho q
theorem pf_ix {r : R2} {o : PyData → PyData → M PyData} (hr : IxR X r) (ho : Op2 c r o) (ha : PE X e1 (tG c f)) (hb : PE X e2 (tG c g)) (hs : PlainIx e2) : PE X (.Subscript e1 e2 pos) (tF c (mOp o f g)) :=
  pe_weak (pe_ix hr ha hb hs) fun σ H Q q => w_op2 ho q
theorem pf_un {p : UnaryOp} {r : V → Hp → VK → Prop} {o : PyData → M PyData} (hr : ∀ {a : Expr} {ta : TE}, PE X a ta → PE X (.UnaryOp p a pos) (tUn r ta)) (ho : Fn1 c r o) (ha : PE X e1 (tG c f)) : PE X (.UnaryOp p e1 pos) (tF c (mUn o f)) :=
  pe_weak (hr ha) fun σ H Q q => w_un1 ho q
theorem pf_not (ha : PE X e1 (tF c f)) : PE X (.UnaryOp .Not e1 pos) (tF c (mNot f)) := pe_weak (pe_not ha) fun σ H Q ⟨W, Γ, S, q⟩ => ⟨W, Γ, S, (f Γ).mono (fun a q H1 x k da => by
  cases da with
  | bl b => exact ⟨b, rfl, q H1 _ k (.bl _)⟩
  | _ => exact q.elim) q⟩
theorem pf_one {op} (ha : PE X e1 (tF c f)) : PE X (.BoolOp op [e1] pos) (tF c f) := pe_one ha
theorem pf_and (ha : PE X e1 (tF c f)) (hb : PE X (.BoolOp .And (e2 :: es) pos) (tF c g)) : PE X (.BoolOp .And (e1 :: e2 :: es) pos) (tF c (mAnd f g)) := pe_weak (pe_and ha hb) fun σ H Q ⟨W, Γ, S, q⟩ => ⟨W, Γ, S, (f Γ).mono (fun a q H1 x k da => by
  cases da with
  | bl b =>
    refine ⟨b, rfl, ?_⟩
    cases b with
    | true => exact tF_seq S k q
    | false => exact q H1 _ k (.bl _)
  | _ => exact q.elim) q⟩
theorem pf_or (ha : PE X e1 (tF c f)) (hb : PE X (.BoolOp .Or (e2 :: es) pos) (tF c g)) : PE X (.BoolOp .Or (e1 :: e2 :: es) pos) (tF c (mOr f g)) := pe_weak (pe_or ha hb) fun σ H Q ⟨W, Γ, S, q⟩ => ⟨W, Γ, S, (f Γ).mono (fun a q H1 x k da => by
  cases da with
  | bl b =>
    refine ⟨b, rfl, ?_⟩
    cases b with
    | true => exact q H1 _ k (.bl _)
    | false => exact tF_seq S k q
  | _ => exact q.elim) q⟩
/-! tests -/
theorem ptf_val (ha : PE X e1 (tF c f)) (he : ∀ whole, isTrue e1 X.env whole = (do let v ← whole; standAt e1.pos; holding [v] (truthy v)) := by intro _; rfl) : PT X e1 (tTF c (tVal f)) :=
  ⟨fun pins s σ H Q I ⟨W, Γ, S, q⟩ => (pt_val ha he).run pins s σ H Q I ⟨W, Γ, S, (f Γ).mono (fun a q H1 x k da => by
    cases da with
    | bl b => exact ⟨b, rfl, q H1 k⟩
    | _ => exact q.elim) q⟩⟩
theorem pt_weak {t t' : TT} (h : PT X e t) (f : ∀ σ H Q, t' σ H Q → t σ H Q) : PT X e t' := ⟨fun pins s σ H Q I q => h.run pins s σ H Q I (f σ H Q q)⟩
theorem pw_weak {t t' : TT} (h : PW X e t) (f : ∀ σ H Q, t' σ H Q → t σ H Q) : PW X e t' := ⟨fun wh pins s σ H Q I q => h.run wh pins s σ H Q I (f σ H Q q)⟩
theorem ptf_cmp {op : CmpOp} {r : R2} {o : PyData → PyData → M PyData} (hr : OpR X (compareOp op) r) (ho : Op2 c r o) (ha : PE X e1 (tG c f)) (hb : PE X e2 (tG c g)) (hm : behindInMarks op e2 = false) : PT X (.Compare e1 [op] [e2] pos) (tTF c (tVal (mOp o f g))) :=
  pt_weak (pt_cmpR hr ha hb hm) fun σ H Q ⟨W, Γ, S, q⟩ => w_op2 ho ⟨W, Γ, S, (mOp o f g Γ).mono (fun a q H1 x k da => by
    cases da with
    | bl b => exact ⟨b, rfl, q H1 k⟩
    | _ => exact q.elim) q⟩
theorem ptf_not (ha : PT X e1 (tTF c t)) : PT X (.UnaryOp .Not e1 pos) (tTF c (tNotM t)) := pt_weak (pt_not ha) fun σ H Q q => q
theorem pwf_and1 (ha : PT X e1 (tTF c t)) : PW X (.BoolOp .And [e1] pos) (tTF c t) := pw_and1 ha
theorem pwf_or1 (ha : PT X e1 (tTF c t)) : PW X (.BoolOp .Or [e1] pos) (tTF c t) := pw_or1 ha
theorem pwf_and (ha : PT X e1 (tTF c t)) (hb : PW X (.BoolOp .And (e2 :: es) pos) (tTF c u)) : PW X (.BoolOp .And (e1 :: e2 :: es) pos) (tTF c (tAndM t u)) := pw_weak (pw_and ha hb) fun σ H Q ⟨W, Γ, S, q⟩ => ⟨W, Γ, S, (t Γ).mono (fun b q H1 k => by
  cases b with
  | true => exact tTF_seq S k q
  | false => exact q H1 k) q⟩
theorem pwf_or (ha : PT X e1 (tTF c t)) (hb : PW X (.BoolOp .Or (e2 :: es) pos) (tTF c u)) : PW X (.BoolOp .Or (e1 :: e2 :: es) pos) (tTF c (tOrM t u)) := pw_weak (pw_or ha hb) fun σ H Q ⟨W, Γ, S, q⟩ => ⟨W, Γ, S, (t Γ).mono (fun b q H1 k => by
  cases b with
  | true => exact q H1 k
  | false => exact tTF_seq S k q) q⟩
theorem pf_if (ht : PT X e3 (tTF c t)) (ha : PE X e1 (tF c f)) (hb : PE X e2 (tF c g)) : PE X (.IfExp e3 e1 e2 pos) (tF c (mIf t f g)) := pe_weak (pe_ifExp ht ha hb) fun σ H Q ⟨W, Γ, S, q⟩ => ⟨W, Γ, S, (t Γ).mono (fun b q H1 k => by
  cases b with
  | true => exact tF_seq S k q
  | false => exact tF_seq S k q) q⟩
/-! chains -/
theorem w_chn {r r' : R2} {o o' : PyData → PyData → M PyData} (ho : Op2 c r o) (ho' : Op2 c r' o') {σ : L2.St} {H : Hp} {Q : VK} (q : tF c (mChn o o' f g h) σ H Q) : tChain r r' (tG c f) (tG c g) (tG c h) σ H Q := by
  obtain ⟨W, Γ, S, q⟩ := q
  refine ⟨W, Γ, S, (f Γ).mono (fun a q H1 x k1 da => ⟨W, Γ, S.ch k1, (g Γ).mono (fun b q H2 y k2 db => ho W H2 x y a b _ ((S.ch k1).lwC k2) ((S.ch k1).pk k2 da) db
    ((o a b).mono (fun z q H3 v s dz => ?_) q)) q⟩) q⟩
  have k3 : Ch c H H3 := (k1.trans k2).trans ((S.ch (k1.trans k2)).cs s)
  have k23 : Ch c H2 H3 := (S.ch (k1.trans k2)).cs s
  cases dz with
  | bl b' =>
    refine ⟨b', rfl, ?_⟩
    cases b' with
    | true => exact ⟨W, Γ, S.ch k3, (h Γ).mono (fun e q H4 w k4 de => ho' W H4 y w b e Q ((S.ch k3).lwC k4) ((S.ch k3).pk k4 ((S.ch (k1.trans k2)).pk k23 db)) de
        ((o' b e).mono (fun d q H5 v s dd => q H5 v ((k3.trans k4).trans ((S.ch (k3.trans k4)).cs s)) dd) q)) q⟩
    | false => exact q H3 _ k3 (.bl _)
  | _ => exact q.elim
theorem pf_chn {op op' : CmpOp} {r r' : R2} {o o' : PyData → PyData → M PyData} (hr : OpR X (compareOp op) r) (hr' : OpR X (compareOp op') r') (ho : Op2 c r o) (ho' : Op2 c r' o') (ha : PE X e1 (tG c f)) (hb : PE X e2 (tG c g)) (hc : PE X e3 (tG c h)) (hm : lastMarks [op, op'] [e2, e3] = false := by with_unfolding_all rfl)
    : PE X (.Compare e1 [op, op'] [e2, e3] pos) (tF c (mChn o o' f g h)) := pe_weak (pe_chain hr hr' ha hb hc hm) fun σ H Q q => w_chn ho ho' q
theorem ptf_chn {op op' : CmpOp} {r r' : R2} {o o' : PyData → PyData → M PyData} (hr : OpR X (compareOp op) r) (hr' : OpR X (compareOp op') r') (ho : Op2 c r o) (ho' : Op2 c r' o') (ha : PE X e1 (tG c f)) (hb : PE X e2 (tG c g)) (hc : PE X e3 (tG c h)) (hm : lastMarks [op, op'] [e2, e3] = false := by with_unfolding_all rfl)
    : PT X (.Compare e1 [op, op'] [e2, e3] pos) (tTF c (tVal (mChn o o' f g h))) := pt_weak (pt_chain hr hr' ha hb hc hm) fun σ H Q ⟨W, Γ, S, q⟩ => w_chn ho ho' ⟨W, Γ, S, (mChn o o' f g h Γ).mono (fun a q H1 x k da => by
    cases da with
    | bl b => exact ⟨b, rfl, q H1 k⟩
    | _ => exact q.elim) q⟩
/-! arguments, displays -/
theorem paf_nil : PA X [] (tAF c mNil) := pa_weak pa_nil fun σ H Q ⟨W, Γ, S, q⟩ => q H _ S.refl .nil
theorem paf_cons (ha : PE X e (tF c f)) (hr : PA X es (tAF c F)) (hs : starEach (e :: es) X.env = (false, eval e X.env) :: starEach es X.env := by rfl) : PA X (e :: es) (tAF c (mCons f F)) :=
  pa_weak (pa_cons ha hr hs) fun σ H Q ⟨W, Γ, S, q⟩ => ⟨W, Γ, S, (f Γ).mono (fun a q H1 x k1 da => ⟨W, Γ, S.ch k1, (F Γ).mono (fun ds q H2 vs k2 dd => q H2 _ (k1.trans k2) (.cons ((S.ch k1).da k2 da) dd)) q⟩) q⟩
theorem pf_tup {x1} (h : PA X es (tAF c F)) : PE X (.Tuple es x1 pos) (tF c (mTup F)) := pe_weak (pe_tup h) fun σ H Q ⟨W, Γ, S, q⟩ => ⟨W, Γ, S, (F Γ).mono (fun ds q H1 vs k dd =>
  ⟨Nat.le_trans (by rw [dd.length]; exact q.1) (by decide), fun p hp => q.2 _ _ (k.trans ((S.ch k).new1 hp)) (.tup (SqT.of upd_same) ((S.ch k).dal ((S.ch k).new1 hp) dd))⟩) q⟩
theorem pf_lst (h : PA X es (tAF c F)) : PE X (.List es pos) (tF c (mLst F)) := pe_weak (pe_lst h) fun σ H Q ⟨W, Γ, S, q⟩ => ⟨W, Γ, S, (F Γ).mono (fun ds q H1 vs k dd =>
  ⟨Nat.le_trans (by rw [dd.length]; exact q.1) (by decide), fun p hp => q.2 _ _ (k.trans ((S.ch k).new1 hp)) (.lst ((S.ch k).lw.dom hp) upd_same ((S.ch k).dal ((S.ch k).new1 hp) dd))⟩) q⟩
theorem pf_dic : PE X (.Dict [] [] pos) (tF c (mCon (.dict []))) := pe_weak pe_dnewK fun σ H Q ⟨W, Γ, S, q⟩ p hp => q _ _ (S.new1 hp) (.dic upd_same)
/-- a builtin of several arguments -/
theorem pf_fn {r : List V → Hp → VK → Prop} {o : List PyData → M PyData} (hr : ∀ {t : TA}, PA X es t → PE X e (tCB r t)) (ho : FnA c r o) (ha : PA X es (tAF c F)) : PE X e (tF c (mFn o F)) :=
  pe_weak (hr ha) fun σ H Q ⟨W, Γ, S, q⟩ => ⟨W, Γ, S, (F Γ).mono (fun ds q H1 xs k dd => ho W H1 xs ds Q (S.lwC k) dd ((o ds).mono (fun d q H2 v s z => q H2 v (k.trans ((S.ch k).cs s)) z) q)) q⟩
/-- a builtin of one -/
theorem pa_one {te : TE} (ha : PE X e te) (hs : starEach [e] X.env = (false, eval e X.env) :: starEach [] X.env := by rfl) : PA X [e] (fun σ H R => te σ H fun x H1 => R [x] H1) := pa_weak (pa_cons ha pa_nil hs) fun σ H Q q => q
theorem pf_fn1 {r : List V → Hp → VK → Prop} {o : PyData → M PyData} (hr : ∀ {t : TA}, PA X [e1] t → PE X e (tCB r t)) (ho : Fn1 c (fun x => r [x]) o) (ha : PE X e1 (tG c f)) (hs : starEach [e1] X.env = (false, eval e1 X.env) :: starEach [] X.env := by rfl) : PE X e (tF c (mUn o f)) :=
  pe_weak (hr (pa_one ha hs)) fun σ H Q q => w_un1 ho q
end
end Dl

set_option Elab.async false
set_option linter.all false
set_option maxRecDepth 100000
set_option maxHeartbeats 2000000
set_option autoImplicit false
/-! Dp: operators and builtins by data. -/
namespace Dl
open PySem PySem.Spec PyProof.Rows L2 Gd
section
variable {c : Fc} {W : Addr → Prop} {H : Hp} {v : V}
theorem pk_int {i : Int} (h : Pk c W H v (.int i)) : v = .int i := by
  rcases h with h | ⟨a, xs, ds, _, e, _⟩
  · cases h; rfl
  · cases e
theorem pk_bl {i : Bool} (h : Pk c W H v (.bool i)) : v = .bl i := by
  rcases h with h | ⟨a, xs, ds, _, e, _⟩
  · cases h; rfl
  · cases e
theorem pk_str {i : Str} (h : Pk c W H v (.str i)) : v = .str i := by
  rcases h with h | ⟨a, xs, ds, _, e, _⟩
  · cases h; rfl
  · cases e
theorem pk_non (h : Pk c W H v .none) : v = .non := by
  rcases h with h | ⟨a, xs, ds, _, e, _⟩
  · cases h; rfl
  · cases e
theorem pk_tup {ds : List PyData} (h : Pk c W H v (.tuple ds)) : ∃ a xs, v = .ref a ∧ SqT c.K H a xs ∧ DaL W c.K H xs ds := by
  rcases h with h | ⟨a, xs, ds, _, e, _⟩
  · cases h with | tup h r => exact ⟨_, _, rfl, h, r⟩
  · cases e
theorem pk_lst {ds : List PyData} (h : Pk c W H v (.list ds)) : ∃ a xs, v = .ref a ∧ H a = some (.lst xs) ∧ DaL W c.K H xs ds := by
  rcases h with h | ⟨a, xs, es, e1, e, _, h1, h2⟩
  · cases h with | lst n h r => exact ⟨_, _, rfl, h, r⟩
  · cases e; exact ⟨a, xs, e1, h1, h2⟩
theorem pk_dic {kvs : List (PyData × PyData)} (h : Pk c W H v (.dict kvs)) : ∃ a, v = .ref a ∧ H a = some (.dK []) := by
  rcases h with h | ⟨a, xs, es, e1, e, _, h1, h2⟩
  · cases h with | dic h => exact ⟨_, rfl, h⟩
  · cases e
theorem Pk.dp {d : PyData} (h : Pk c W H v d) (s : SeqAt.shaped d = true) : Dp c.K H v d := by
  rcases h with h | ⟨a, xs, ds, rfl, rfl, _, h1, h2⟩
  · exact h.dps s
  · have c := SeqAt.canLay_of_shaped s
    exact .lst (SqL.of h1) (h2.dp (by simpa only [PyData.canLay0] using c))
theorem Pk.da0 {d : PyData} (h : Pk c W H v d) : Da (fun _ => False) c.K H v d := by
  rcases h with h | ⟨a, xs, ds, rfl, rfl, _, h1, h2⟩
  · exact h.less fun _ z => z.elim
  · exact .lst (fun z => z) h1 (h2.less fun _ z => z.elim)
end
/-! ### ints -/
def o_i2 (C : Int → Int → Prop) (f : Int → Int → PyData) : PyData → PyData → M PyData
  | .int i, .int j => (M.gd (C i j)).bind fun _ => .ret (f i j)
  | _, _ => .fail
def o_cmp (p : Int → Int → Bool) : PyData → PyData → M PyData
  | .int i, .int j => .ret (.bool (p i j))
  | _, _ => .fail
section
variable {c : Fc}
theorem op2_int {C : Int → Int → Prop} {g : Int → Int → Int} : Op2 c (rI C fun i j => .int (g i j)) (o_i2 C fun i j => .int (g i j)) := by
  intro W H x y a b Q lw hx hy q
  unfold o_i2 at q
  split at q
  · rw [pk_int hx, pk_int hy]
    exact ⟨_, _, rfl, rfl, q.1, q.2 H _ (Same.refl H) (.int _)⟩
  · exact q.elim
theorem op2_cmp {p : Int → Int → Bool} : Op2 c (rI0 fun i j => .bl (p i j)) (o_cmp p) := by
  intro W H x y a b Q lw hx hy q
  unfold o_cmp at q
  split at q
  · rw [pk_int hx, pk_int hy]
    exact ⟨_, _, rfl, rfl, q H _ (Same.refl H) (.bl _)⟩
  · exact q.elim
def o_sub : PyData → PyData → M PyData
  | .int i, .int j => .ret (.int (i - j))
  | _, _ => .fail
theorem op2_sub : Op2 c Gd.rSub o_sub := by
  intro W H x y a b Q lw hx hy q
  unfold o_sub at q
  split at q
  · rw [pk_int hx, pk_int hy]
    exact ⟨_, _, rfl, rfl, q H _ (Same.refl H) (.int _)⟩
  · exact q.elim
def o_neg : PyData → M PyData
  | .int i => .ret (.int (-i))
  | _ => .fail
theorem fn1_neg : Fn1 c (rU fun i => .int (-i)) o_neg := by
  intro W H x a Q lw hx q
  unfold o_neg at q
  split at q
  · rw [pk_int hx]
    exact ⟨_, rfl, q H _ (Same.refl H) (.int _)⟩
  · exact q.elim
/-! ### +, * -/
def o_add : PyData → PyData → M PyData
  | .int i, .int j => .ret (.int (i + j))
  | .tuple a, .tuple b => (M.gd (a.length + b.length ≤ 1000)).bind fun _ => .ret (.tuple (a ++ b))
  | .list a, .list b => (M.gd (a.length + b.length ≤ 1000)).bind fun _ => .ret (.list (a ++ b))
  | _, _ => .fail
theorem op2_add : Op2 c (rAddA c.K) o_add := by
  intro W H x y a b Q lw hx hy q
  unfold o_add at q
  split at q
  · rw [pk_int hx, pk_int hy]
    exact .inl ⟨_, _, rfl, rfl, q H _ (Same.refl H) (.int _)⟩
  · rename_i a b
    obtain ⟨p, xs, rfl, h1, r1⟩ := pk_tup hx
    obtain ⟨u, ys, rfl, h2, r2⟩ := pk_tup hy
    obtain ⟨z, q⟩ := q
    have l1 := r1.length
    have l2 := r2.length
    refine .inr (.inl ⟨p, u, xs, ys, rfl, rfl, h1, h2, Nat.le_trans (by omega) (show 1000 ≤ sizeLine by decide), fun e => ?_, fun e1 e2 => ?_, fun e1 e2 p hp => ?_⟩)
    · subst e
      cases r1
      exact q H _ (Same.refl H) (.tup h2 r2)
    · subst e2
      cases r2
      rw [List.append_nil] at q
      exact q H _ (Same.refl H) (.tup h1 r1)
    · exact q _ _ (same_new hp) (.tup (SqT.of upd_same) ((r1.append r2).same (same_new hp)))
  · rename_i a b
    obtain ⟨p, xs, rfl, h1, r1⟩ := pk_lst hx
    obtain ⟨u, ys, rfl, h2, r2⟩ := pk_lst hy
    obtain ⟨z, q⟩ := q
    have l1 := r1.length
    have l2 := r2.length
    exact .inr (.inr ⟨p, u, xs, ys, rfl, rfl, h1, h2, Nat.le_trans (by omega) (show 1000 ≤ sizeLine by decide), fun p hp => q _ _ (same_new hp) (.lst (lw.dom hp) upd_same ((r1.append r2).same (same_new hp)))⟩)
  · exact q.elim
/-- * of ints, a tuple and a list by an int from 2 on -/
def o_mul : PyData → PyData → M PyData
  | .int i, .int j => (M.gd (CMulA i j)).bind fun _ => .ret (.int (i * j))
  | .tuple a, .int k => (M.gd (a ≠ [] ∧ 2 ≤ k ∧ k ≤ 1000 ∧ a.length ≤ 1000)).bind fun _ => .ret (.tuple (List.replicate k.toNat a).flatten)
  | .list a, .int k => (M.gd (0 ≤ k ∧ k ≤ 1000 ∧ a.length ≤ 1000)).bind fun _ => .ret (.list (List.replicate k.toNat a).flatten)
  | _, _ => .fail
theorem op2_mul : Op2 c (rMulA c.K) o_mul := by
  intro W H x y a b Q lw hx hy q
  unfold o_mul at q
  split at q
  · rw [pk_int hx, pk_int hy]
    exact .inl ⟨_, _, rfl, rfl, q.1, q.2 H _ (Same.refl H) (.int _)⟩
  · rename_i a k
    obtain ⟨p, xs, rfl, h1, r1⟩ := pk_tup hx
    rw [pk_int hy]
    obtain ⟨⟨z0, z1, z2, z3⟩, q⟩ := q
    have l1 := r1.length
    refine .inr (.inl ⟨p, k, xs, rfl, rfl, h1, fun e => ?_, z1, z2, by omega, fun p hp => q _ _ (same_new hp) (.tup (SqT.of upd_same) ((r1.reps _).same (same_new hp)))⟩)
    subst e
    cases r1
    exact z0 rfl
  · rename_i a k
    obtain ⟨p, xs, rfl, h1, r1⟩ := pk_lst hx
    rw [pk_int hy]
    obtain ⟨⟨z1, z2, z3⟩, q⟩ := q
    have l1 := r1.length
    refine .inr (.inr ⟨p, k, xs, rfl, rfl, h1, by omega, by omega, ?_, fun p hp => q _ _ (same_new hp) (.lst (lw.dom hp) upd_same ((r1.reps _).same (same_new hp)))⟩)
    have : xs.length * k.toNat ≤ 1000 * 1000 := Nat.mul_le_mul (by omega) (by omega)
    rw [sizeLine_eq]
    omega
  · exact q.elim
/-! ### ==, !=, in -/
def o_eq : PyData → PyData → M PyData := fun a b => (M.gd (SeqAt.shaped a = true ∧ SeqAt.shaped b = true)).bind fun _ => .ret (.bool (PyData.eqv a b))
def o_ne : PyData → PyData → M PyData := fun a b => (M.gd (SeqAt.shaped a = true ∧ SeqAt.shaped b = true)).bind fun _ => .ret (.bool (!PyData.eqv a b))
theorem op2_eq : Op2 c (rEqA c.K) o_eq := by
  intro W H x y a b Q lw hx hy q
  exact .inr ⟨a, b, hx.dp q.1.1, hy.dp q.1.2, q.1.1, q.1.2, q.2 H _ (Same.refl H) (.bl _)⟩
theorem op2_ne : Op2 c (rNeA c.K) o_ne := by
  intro W H x y a b Q lw hx hy q
  exact .inr ⟨a, b, hx.dp q.1.1, hy.dp q.1.2, q.1.1, q.1.2, q.2 H _ (Same.refl H) (.bl _)⟩
/-- an int among ints -/
def o_in (neg : Bool) : PyData → PyData → M PyData
  | .int i, .tuple a => (M.gd (∀ d ∈ a, ∃ j, d = PyData.int j)).bind fun _ => .ret (.bool (if neg then !a.any (PyData.eqv · (.int i)) else a.any (PyData.eqv · (.int i))))
  | _, _ => .fail
theorem in_ints {i : Int} {W : Addr → Prop} {H : Hp} : ∀ {xs : List V} {ds : List PyData}, DaL W c.K H xs ds → (∀ d ∈ ds, ∃ j, d = PyData.int j) → xs.all flatV = true ∧ inV (.int i) xs = ds.any (PyData.eqv · (.int i))
  | _, _, .nil, _ => ⟨rfl, rfl⟩
  | v :: vs, d :: ds, .cons h r, z => by
    obtain ⟨j, rfl⟩ := z d (List.mem_cons_self ..)
    obtain ⟨h1, h2⟩ := in_ints (i := i) r fun x m => z x (List.mem_cons_of_mem _ m)
    cases h
    unfold inV at h2 ⊢
    refine ⟨by rw [List.all_cons, h1]; rfl, ?_⟩
    rw [List.any_cons, List.any_cons, h2]
    congr 1
theorem op2_in {neg : Bool} : Op2 c (rIn c.K neg) (o_in neg) := by
  intro W H x y a b Q lw hx hy q
  unfold o_in at q
  split at q
  · rw [pk_int hx]
    obtain ⟨p, xs, rfl, h1, r1⟩ := pk_tup hy
    obtain ⟨f, e⟩ := in_ints (i := _) r1 q.1
    refine ⟨p, xs, rfl, .inr h1, rfl, f, ?_⟩
    rw [e]
    exact q.2 H _ (Same.refl H) (.bl _)
  · exact q.elim
/-! ### items, parts -/
def o_ix : PyData → PyData → M PyData
  | .tuple a, .int i => .opt (atI a i)
  | .list a, .int i => .opt (atI a i)
  | _, _ => .fail
theorem atI_da {W : Addr → Prop} {H : Hp} {xs : List V} {ds : List PyData} {i : Int} {d : PyData} (r : DaL W c.K H xs ds) (e : atI ds i = some d) : ∃ v, atI xs i = some v ∧ Da W c.K H v d := by
  unfold atI at e ⊢
  rw [r.length]
  cases k : ixN ds.length i with
  | none => rw [k] at e; cases e
  | some j =>
    rw [k] at e
    exact r.get' (i := j) e
theorem op2_ix : Op2 c (rIx c.K) o_ix := by
  intro W H x y a b Q lw hx hy q
  unfold o_ix at q
  split at q
  · rename_i a i
    obtain ⟨p, xs, rfl, h1, r1⟩ := pk_tup hx
    rw [pk_int hy]
    cases e : atI a i with
    | none => rw [e] at q; exact q.elim
    | some d =>
      rw [e] at q
      obtain ⟨v, e2, da⟩ := atI_da r1 e
      exact .inr (.inl ⟨p, xs, i, v, rfl, rfl, h1, e2, q H v (Same.refl H) da⟩)
  · rename_i a i
    obtain ⟨p, xs, rfl, h1, r1⟩ := pk_lst hx
    rw [pk_int hy]
    cases e : atI a i with
    | none => rw [e] at q; exact q.elim
    | some d =>
      rw [e] at q
      obtain ⟨v, e2, da⟩ := atI_da r1 e
      exact .inl ⟨p, xs, i, v, rfl, rfl, SqL.of h1, e2, q H v (Same.refl H) da⟩
  · exact q.elim
/-! ### builtins -/
def o_len : PyData → M PyData
  | .tuple a => .ret (.int a.length)
  | .list a => .ret (.int a.length)
  | _ => .fail
theorem fn_len : Fn1 c (fun x => Gd.rLen c.K [x]) o_len := by
  intro W H x a Q lw hx q
  unfold o_len at q
  split at q
  · obtain ⟨p, xs, rfl, h1, r1⟩ := pk_tup hx
    refine ⟨p, xs, rfl, .inr h1, ?_⟩
    rw [r1.length]
    exact q H _ (Same.refl H) (.int _)
  · obtain ⟨p, xs, rfl, h1, r1⟩ := pk_lst hx
    refine ⟨p, xs, rfl, .inl (SqL.of h1), ?_⟩
    rw [r1.length]
    exact q H _ (Same.refl H) (.int _)
  · exact q.elim
def o_tuple : PyData → M PyData
  | .tuple a => .ret (.tuple a)
  | .list a => .ret (.tuple a)
  | _ => .fail
theorem fn_tuple : Fn1 c (fun x => rTup c.K [x]) o_tuple := by
  intro W H x a Q lw hx q
  unfold o_tuple at q
  split at q
  · obtain ⟨p, xs, rfl, h1, r1⟩ := pk_tup hx
    exact ⟨p, xs, rfl, .inr ⟨h1, q H _ (Same.refl H) (.tup h1 r1)⟩⟩
  · obtain ⟨p, xs, rfl, h1, r1⟩ := pk_lst hx
    exact ⟨p, xs, rfl, .inl ⟨SqL.of h1, fun l hl => q _ _ (same_new hl) (.tup (SqT.of upd_same) (r1.same (same_new hl)))⟩⟩
  · exact q.elim
def o_list : PyData → M PyData
  | .tuple a => .ret (.list a)
  | .list a => .ret (.list a)
  | _ => .fail
theorem fn_list : Fn1 c (fun x => rLst c.K [x]) o_list := by
  intro W H x a Q lw hx q
  unfold o_list at q
  split at q
  · obtain ⟨p, xs, rfl, h1, r1⟩ := pk_tup hx
    exact ⟨p, xs, rfl, .inr h1, fun l hl => q _ _ (same_new hl) (.lst (lw.dom hl) upd_same (r1.same (same_new hl)))⟩
  · obtain ⟨p, xs, rfl, h1, r1⟩ := pk_lst hx
    exact ⟨p, xs, rfl, .inl (SqL.of h1), fun l hl => q _ _ (same_new hl) (.lst (lw.dom hl) upd_same (r1.same (same_new hl)))⟩
  · exact q.elim
def o_int : PyData → M PyData
  | .int i => .ret (.int i)
  | .bool b => .ret (.int (if b then 1 else 0))
  | _ => .fail
theorem fn_int : Fn1 c (fun x => rInt [x]) o_int := by
  intro W H x a Q lw hx q
  unfold o_int at q
  split at q
  · rw [pk_int hx]
    exact .inl ⟨_, rfl, q H _ (Same.refl H) (.int _)⟩
  · rw [pk_bl hx]
    exact .inr ⟨_, rfl, q H _ (Same.refl H) (.int _)⟩
  · exact q.elim
def o_abs : PyData → M PyData
  | .int i => .ret (.int (if i < 0 then -i else i))
  | _ => .fail
theorem fn_abs : Fn1 c (fun x => rAbs [x]) o_abs := by
  intro W H x a Q lw hx q
  unfold o_abs at q
  split at q
  · rw [pk_int hx]
    exact ⟨_, rfl, q H _ (Same.refl H) (.int _)⟩
  · exact q.elim
def o_gcd : List PyData → M PyData
  | [.int i, .int j] => .ret (.int (Nat.gcd i.natAbs j.natAbs : Nat))
  | _ => .fail
theorem fn_gcd : FnA c rGcd o_gcd := by
  intro W H xs ds Q lw hd q
  unfold o_gcd at q
  split at q
  · cases hd with | cons h1 r => cases r with | cons h2 r => cases r; cases h1; cases h2; exact ⟨_, _, rfl, q H _ (Same.refl H) (.int _)⟩
  · exact q.elim
def o_max2 : List PyData → M PyData
  | [.int i, .int j] => .ret (.int (if j > i then j else i))
  | _ => .fail
def o_min2 : List PyData → M PyData
  | [.int i, .int j] => .ret (.int (if j < i then j else i))
  | _ => .fail
theorem fn_max2 : FnA c (fun xs H Q => ∃ i j, xs = [.int i, .int j] ∧ Q (.int (if j > i then j else i)) H) o_max2 := by
  intro W H xs ds Q lw hd q
  unfold o_max2 at q
  split at q
  · cases hd with | cons h1 r => cases r with | cons h2 r => cases r; cases h1; cases h2; exact ⟨_, _, rfl, q H _ (Same.refl H) (.int _)⟩
  · exact q.elim
theorem fn_min2 : FnA c (fun xs H Q => ∃ i j, xs = [.int i, .int j] ∧ Q (.int (if j < i then j else i)) H) o_min2 := by
  intro W H xs ds Q lw hd q
  unfold o_min2 at q
  split at q
  · cases hd with | cons h1 r => cases r with | cons h2 r => cases r; cases h1; cases h2; exact ⟨_, _, rfl, q H _ (Same.refl H) (.int _)⟩
  · exact q.elim
/-- a list of bools, told by a list of them -/
def bools : List PyData → Option (List Bool)
  | [] => some []
  | .bool b :: r => (bools r).map (b :: ·)
  | _ :: _ => none
theorem bools_da {W : Addr → Prop} {H : Hp} : ∀ {xs : List V} {ds : List PyData} {bs : List Bool}, DaL W c.K H xs ds → bools ds = some bs → xs = bs.map V.bl
  | _, _, _, .nil, e => by cases e; rfl
  | _, _, bs, .cons (ds := r') (d := d) h r, e => by
    cases d with
    | bool b =>
      simp only [bools, Option.map_eq_some_iff] at e
      obtain ⟨cs, e1, rfl⟩ := e
      cases h
      rw [bools_da r e1]
      rfl
    | _ => simp [bools] at e
def o_all : PyData → M PyData
  | .list a => (M.opt (bools a)).bind fun bs => .ret (.bool (bs.all id))
  | _ => .fail
def o_any : PyData → M PyData
  | .list a => (M.opt (bools a)).bind fun bs => .ret (.bool (bs.any id))
  | _ => .fail
theorem fn_all : Fn1 c (fun x => rAll c.K [x]) o_all := by
  intro W H x a Q lw hx q
  unfold o_all at q
  split at q
  · rename_i a
    obtain ⟨p, xs, rfl, h1, r1⟩ := pk_lst hx
    cases e : bools a with
    | none => rw [e] at q; exact q.elim
    | some bs =>
      rw [e] at q
      have e2 := bools_da r1 e
      subst e2
      exact ⟨p, bs, rfl, SqL.of h1, q H _ (Same.refl H) (.bl _)⟩
  · exact q.elim
theorem fn_any : Fn1 c (fun x => rAny c.K [x]) o_any := by
  intro W H x a Q lw hx q
  unfold o_any at q
  split at q
  · rename_i a
    obtain ⟨p, xs, rfl, h1, r1⟩ := pk_lst hx
    cases e : bools a with
    | none => rw [e] at q; exact q.elim
    | some bs =>
      rw [e] at q
      have e2 := bools_da r1 e
      subst e2
      exact ⟨p, bs, rfl, SqL.of h1, q H _ (Same.refl H) (.bl _)⟩
  · exact q.elim
def o_repr : PyData → M PyData
  | .list a => (M.gd ((PyData.list a).showable = true ∧ (PyData.list a).depth ≤ 100 ∧ (PyData.list a).shown.length ≤ sizeLine)).bind fun _ => .ret (.str (PyData.list a).shown)
  | .tuple a => (M.gd ((PyData.tuple a).showable = true ∧ (PyData.tuple a).depth ≤ 100 ∧ (PyData.tuple a).shown.length ≤ sizeLine)).bind fun _ => .ret (.str (PyData.tuple a).shown)
  | _ => .fail
end
section
variable {X : Cx} {pins : List (Addr × Obj)} {σ : L2.St} {H : Hp} {s : Shared} {W : Addr → Prop}
mutual
theorem Da.reads (S : SysM X.base) (I : Inv X pins σ H s) : ∀ (d : PyData) (v : V) (u : Value), Da W X.K H v d → RelV v u → ∃ as, Reads s.heap u d as ∧ sysModules ∉ as
  | .none, _, _, h, r => by cases h; cases r; exact ⟨_, .none, by simp⟩
  | .bool b, _, _, h, r => by cases h; cases r; exact ⟨_, .bool b, by simp⟩
  | .int i, _, _, h, r => by cases h; obtain ⟨t, rfl⟩ := r; exact ⟨_, .int i t, by simp⟩
  | .str x, _, _, h, r => by cases h; obtain ⟨t, rfl⟩ := r; exact ⟨_, .str x t, by simp⟩
  | .list ds, _, _, h, r => by
    cases h with
    | lst hw hs ha =>
      cases r
      obtain ⟨its, rv, ⟨o, n, ho, hc, _, hd⟩, _⟩ := I.list (SqL.of hs)
      obtain ⟨as, hr, hn⟩ := DaL.reads S I ds _ its ha rv
      refine ⟨_, .list ho hc hd hr, fun z => ?_⟩
      rcases List.mem_cons.mp z with z | z
      · exact sys_ne S I ho (fun es n q => by rw [hd] at q; cases q) z
      · exact hn z
  | .tuple ds, _, _, h, r => by
    cases h with
    | tup hs ha =>
      cases r
      obtain ⟨its, rv, ⟨o, ho, hc, n, hd⟩, _⟩ := I.tuple hs
      obtain ⟨as, hr, hn⟩ := DaL.reads S I ds _ its ha rv
      exact ⟨_, .tuple ho hc hd hr, hn⟩
  | .dict kvs, _, _, h, r => by
    cases h with
    | dic h =>
      cases r
      obtain ⟨_, hne, vs, rv, o, es, ep, e1, e2, e3, _, e4, _⟩ := I.hok _ _ h
      cases rv
      have e4' : es = #[] := by
        have z : es.toList = [] := by
          generalize es.toList = l at e4
          cases e4
          rfl
        exact Array.toList_eq_nil_iff.mp z
      subst e4'
      refine ⟨[_] ++ [], .dict (as := []) (bs := []) e1 e2.1 e3 .nil .nil, fun z => ?_⟩
      simp only [List.append_nil, List.mem_cons, List.not_mem_nil, or_false] at z
      rw [← z] at hne
      exact absurd hne (by simp)
theorem DaL.reads (S : SysM X.base) (I : Inv X pins σ H s) : ∀ (ds : List PyData) (vs : List V) (us : List Value), DaL W X.K H vs ds → Vals vs us → ∃ as, ReadsAll s.heap us ds as ∧ sysModules ∉ as
  | [], _, _, h, r => by cases h; cases r; exact ⟨_, .nil, by simp⟩
  | d :: ds, _, _, h, r => by
    cases h with
    | cons h1 h2 =>
      cases r with
      | cons r1 r2 =>
        obtain ⟨as, q1, n1⟩ := Da.reads S I d _ _ h1 r1
        obtain ⟨bs, q2, n2⟩ := DaL.reads S I ds _ _ h2 r2
        exact ⟨_, .cons q1 q2, fun z => (List.mem_append.mp z).elim n1 n2⟩
end
def rReprA (K : PySem.W.Frag) : List V → Hp → VK → Prop := fun xs H Q => ∃ a d, xs = [.ref a] ∧ Da (fun _ => False) K H (.ref a) d ∧ d.showable = true ∧ d.depth ≤ 100 ∧ d.shown.length ≤ sizeLine ∧ Q (.str d.shown) H
theorem call_reprA (S : SysM X.base) (hG : Cl X.A) (hu : X.A.units + 150 < cLine) : CallR X (.builtin "repr") (rReprA X.K) := by
  intro pins s σ H xs us Q I r h
  obtain ⟨a, d, rfl, hd, h1, h2, h3, q⟩ := h
  cases r with
  | cons r1 r2 =>
    cases r2
    obtain ⟨as, hr, hn⟩ := Da.reads S I d _ _ hd r1
    cases r1
    exact repr_of_reads' (A := X.A) hr h1 (fun _ => hn) hG (by omega) (fun _ _ e => e) (fun h' u tk hk => ⟨.str d.shown, H, I.kept hk, ⟨u, rfl⟩, q⟩) h3
theorem k_reprA {K : PySem.W.Frag} (e : X.K = K) (S : SysM X.base) (hG : Cl X.A) (hu : X.A.units + 150 < cLine) : CallR X (.builtin "repr") (rReprA K) := e ▸ call_reprA S hG hu
theorem fn_repr {c : Fc} : Fn1 c (fun x => rReprA c.K [x]) o_repr := by
  intro W H x a Q lw hx q
  have h0 := hx.da0
  unfold o_repr at q
  split at q
  · obtain ⟨p, xs, rfl, h1, r1⟩ := pk_lst hx
    exact ⟨p, _, rfl, h0, q.1.1, q.1.2.1, q.1.2.2, q.2 H _ (Same.refl H) (.str _)⟩
  · obtain ⟨p, xs, rfl, h1, r1⟩ := pk_tup hx
    exact ⟨p, _, rfl, h0, q.1.1, q.1.2.1, q.1.2.2, q.2 H _ (Same.refl H) (.str _)⟩
  · exact q.elim
/-! ### isinstance -/
def tyOf : PyData → String
  | .none => "NoneType"
  | .bool _ => "bool"
  | .int _ => "int"
  | .str _ => "str"
  | .list _ => "list"
  | .tuple _ => "tuple"
  | .dict _ => "dict"
def o_isi (T : String) : PyData → M PyData := fun d => (M.opt (kitB (tyOf d) T)).bind fun b => .ret (.bool b)
theorem ty_of {c : Fc} {W : Addr → Prop} {H : Hp} {v : V} {d : PyData} (h : Pk c W H v d) : TyX c.K H v (.type (tyOf d)) := by
  cases d with
  | none => rw [pk_non h]; exact .base .non
  | bool b => rw [pk_bl h]; exact .base (.bl b)
  | int i => rw [pk_int h]; exact .base (.int i)
  | str x => rw [pk_str h]; exact .base (.str x)
  | list ds => obtain ⟨a, xs, rfl, h1, _⟩ := pk_lst h; exact .base (.lst h1)
  | tuple ds =>
    obtain ⟨a, xs, rfl, h1, _⟩ := pk_tup h
    rcases h1 with (h1 | ⟨o, h1⟩) | ⟨o, its, n, h1, h2, _⟩
    · exact .base (.tup h1)
    · exact .fTuple h1
    · exact .kTuple h1 h2
  | dict kvs => obtain ⟨a, rfl, h1⟩ := pk_dic h; exact .base (.dK h1)
theorem pf_isi {c : Fc} {e1 : Expr} {T : String} {x : Str} {p pos ps : Pos} {f : List Cell → M PyData} (eK : X.K = c.K) (hg : Gl X "isinstance") (hm : X.mg "isinstance" = none) (ha : PE X e1 (tG c f)) (hT : PE X (.Name x ps) (tC (.ty T)))
    (hs : starEach [e1, .Name x ps] X.env = (false, eval e1 X.env) :: starEach [.Name x ps] X.env := by rfl) (hs2 : starEach [.Name x ps] X.env = (false, eval (.Name x ps) X.env) :: starEach [] X.env := by rfl)
    (hpl : (backTo pos (starEach [.Name x ps] X.env)).any (·.1) = false := by rfl) :
    PE X (.Call (.Name "isinstance" p) [e1, .Name x ps] [] pos) (tF c (mUn (o_isi T) f)) :=
  pe_weak (pe_callB (k_isi eK) hg hm (by decide +kernel) (pa_cons ha (pa_cons hT pa_nil hs2) hs) (by decide) (by decide) hs hpl) fun σ H Q ⟨W, Γ, S, q⟩ => ⟨W, Γ, S, (f Γ).mono (fun a q H1 v k da => by
    unfold o_isi at q
    cases e : kitB (tyOf a) T with
    | none => rw [e] at q; exact q.elim
    | some b =>
      rw [e] at q
      exact ⟨v, .ty T, _, _, b, rfl, .ty T, ty_of da, kit_ty e, q H1 _ k (.bl b)⟩) q⟩
end
end Dl

set_option Elab.async false
set_option linter.all false
set_option maxRecDepth 100000
set_option maxHeartbeats 2000000
set_option autoImplicit false
/-! Ds: statements by data. -/
namespace Dl
open PySem PySem.Spec PyProof.Rows L2 Gd
inductive Out where
  | nx (Γ : List Cell)
  | bk (Γ : List Cell)
  | ct (Γ : List Cell)
  | rt (d : PyData)
/-- the frame's own lists may be new -/
def Ex (W : Addr → Prop) (H : Hp) (W' : Addr → Prop) : Prop := ∀ a, W' a → W a ∨ H a = none
/-- what is wanted behind a statement -/
def SF (c : Fc) (W : Addr → Prop) (H : Hp) (D : Ends) : Out → Prop
  | .nx Γ => ∀ W' σ' H', Sr c W' H' σ' Γ → Kw c.T W H H' → Ex W H W' → D.nx σ' H'
  | .bk Γ => ∀ W' σ' H', Sr c W' H' σ' Γ → Kw c.T W H H' → Ex W H W' → D.bk σ' H'
  | .ct Γ => ∀ W' σ' H', Sr c W' H' σ' Γ → Kw c.T W H H' → Ex W H W' → D.ct σ' H'
  | .rt d => ∀ H' v, Ch c c.H0 H' → Da c.W0 c.K H' v d → D.rt v H'
def tSF (c : Fc) (g : List Cell → M Out) : TS := fun D σ H => ∃ W Γ, Sr c W H σ Γ ∧ (g Γ).run (SF c W H D)
section
variable {c : Fc} {W W' : Addr → Prop} {H H' H1 H2 : Hp} {σ : L2.St} {Γ : List Cell}
theorem Ex.refl : Ex W H W := fun _ w => .inl w
theorem Kw.trans {W1 : Addr → Prop} (lw : LW c.T W H) (a : Kw c.T W H H1) (b : Kw c.T W1 H1 H2) (e : Ex W H W1) : Kw c.T W H H2 := fun x o n t h => b x o (fun z => by
  rcases e x z with z | z
  · exact n z
  · rw [h] at z
    cases z) t (a x o n t h)
theorem Ex.trans {W1 W2 : Addr → Prop} (lw1 : LW c.T W1 H1) (a : Kw c.T W H H1) (e : Ex W H W1) (e2 : Ex W1 H1 W2) : Ex W H W2 := fun x z => by
  rcases e2 x z with z | z
  · exact e x z
  · cases q : H x with
    | none => exact .inr rfl
    | some o =>
      by_cases w : W x
      · exact .inl w
      · by_cases t : c.T x
        · obtain ⟨ps, q2, _⟩ := lw1.t x t
          rw [q2] at z
          cases z
        · rw [a x o w t q] at z
          cases z
theorem SF.move {W1 : Addr → Prop} {D : Ends} (lw : LW c.T W H) (lw1 : LW c.T W1 H1) (a : Kw c.T W H H1) (e : Ex W H W1) : ∀ {o : Out}, SF c W H D o → SF c W1 H1 D o
  | .nx Γ, q => fun W' σ' H' S k x => q W' σ' H' S (Kw.trans lw a k e) (Ex.trans lw1 a e x)
  | .bk Γ, q => fun W' σ' H' S k x => q W' σ' H' S (Kw.trans lw a k e) (Ex.trans lw1 a e x)
  | .ct Γ, q => fun W' σ' H' S k x => q W' σ' H' S (Kw.trans lw a k e) (Ex.trans lw1 a e x)
  | .rt d, q => q
theorem SF.chm {D : Ends} (S : Sr c W H σ Γ) (k : Ch c H H1) {o : Out} (q : SF c W H D o) : SF c W H1 D o := SF.move S.lw (S.lwC k) (S.kwC k) Ex.refl q
theorem set_at {α : Type} {l : List α} {i j : Nat} {a b : α} (h : (l.set i a)[j]? = some b) : (i = j ∧ a = b ∧ i < l.length) ∨ (i ≠ j ∧ l[j]? = some b) := by
  by_cases e : i = j
  · subst e
    by_cases z : i < l.length
    · rw [List.getElem?_set_self z] at h
      exact .inl ⟨rfl, Option.some.inj h, z⟩
    · rw [List.getElem?_eq_none (by rw [List.length_set]; omega)] at h
      cases h
  · rw [List.getElem?_set_ne e] at h
    exact .inr ⟨e, h⟩
/-- a slot is set to a datum -/
theorem Sr.set (S : Sr c W H σ Γ) {i : Nat} {v : V} {d : PyData} (h : Da W c.K H v d) : Sr c W H (σ.set i (some v)) (Γ.set i (.im d)) where
  len := by rw [List.length_set, List.length_set]; exact S.len
  at' := fun j z e => by
    rcases set_at e with ⟨rfl, rfl, l⟩ | ⟨n, e⟩
    · rw [List.getElem?_set_self (by rw [S.len]; exact l)]
      exact ⟨v, rfl, h⟩
    · rw [List.getElem?_set_ne n]
      exact S.at' j z e
  sep := fun j k a ds es n e1 e2 e3 e4 => by
    rcases set_at e1 with ⟨_, z, _⟩ | ⟨n1, e1⟩
    · cases z
    · rcases set_at e2 with ⟨_, z, _⟩ | ⟨n2, e2⟩
      · cases z
      · rw [List.getElem?_set_ne n1] at e3
        rw [List.getElem?_set_ne n2] at e4
        exact S.sep j k a ds es n e1 e2 e3 e4
  wok := S.wok
  sub := S.sub
  lw := S.lw
  new := S.new
  ch0 := S.ch0
/-- a slot is forgotten -/
theorem Sr.un (S : Sr c W H σ Γ) {i : Nat} {v : Option V} : Sr c W H (σ.set i v) (Γ.set i .un) where
  len := by rw [List.length_set, List.length_set]; exact S.len
  at' := fun j z e => by
    rcases set_at e with ⟨rfl, rfl, l⟩ | ⟨n, e⟩
    · trivial
    · rw [List.getElem?_set_ne n]
      exact S.at' j z e
  sep := fun j k a ds es n e1 e2 e3 e4 => by
    rcases set_at e1 with ⟨_, z, _⟩ | ⟨n1, e1⟩
    · cases z
    · rcases set_at e2 with ⟨_, z, _⟩ | ⟨n2, e2⟩
      · cases z
      · rw [List.getElem?_set_ne n1] at e3
        rw [List.getElem?_set_ne n2] at e4
        exact S.sep j k a ds es n e1 e2 e3 e4
  wok := S.wok
  sub := S.sub
  lw := S.lw
  new := S.new
  ch0 := S.ch0
abbrev W1 (W : Addr → Prop) (p : Addr) : Addr → Prop := fun a => W a ∨ a = p
theorem da_new {p : Addr} {o : HO} (hp : H p = none) {v : V} {d : PyData} (h : Da W c.K H v d) : Da (W1 W p) c.K (upd H p o) v d :=
  (h.w fun a xs e n z => by
    rcases z with z | rfl
    · exact n z
    · rw [hp] at e
      cases e).same (same_new hp)
theorem dal_new {p : Addr} {o : HO} (hp : H p = none) {v : List V} {d : List PyData} (h : DaL W c.K H v d) : DaL (W1 W p) c.K (upd H p o) v d :=
  (h.w fun a xs e n z => by
    rcases z with z | rfl
    · exact n z
    · rw [hp] at e
      cases e).same (same_new hp)
theorem Sr.h0 (S : Sr c W H σ Γ) {p : Addr} (hp : H p = none) : c.H0 p = none := by
  cases e : c.H0 p with
  | none => rfl
  | some o =>
    by_cases w : some p = c.ow
    · have := S.wl p w.symm
      obtain ⟨_, _, _, q, _⟩ := this
      rw [hp] at q
      cases q
    · by_cases t : c.T p
      · exact (S.lw.domT hp t).elim
      · rw [S.ch0 p o w t e] at hp
        cases hp
theorem Sr.noow (S : Sr c W H σ Γ) {p : Addr} (hp : H p = none) : some p ≠ c.ow := fun w => by
  obtain ⟨_, _, _, q, _⟩ := S.wl p w.symm
  rw [hp] at q
  cases q
theorem W1.less {p : Addr} : ∀ a, W a → W1 W p a := fun _ z => .inl z
/-- what the frame knew ahead of a new list has nothing of it -/
theorem Sr.apart (S : Sr c W H σ Γ) {p : Addr} (k : Ch c H H1) (hp : H p = none) {v : V} {d : PyData} (h : Da W c.K H v d) : Da (W1 W p) c.K H1 v d := by
  have q : Da (W1 W p) c.K H v d := h.w fun a xs e n z => by
    rcases z with z | rfl
    · exact n z
    · rw [hp] at e
      cases e
  have lv : LV c.T (W1 W p) H := by
    refine ⟨fun a o w e => ?_, S.lw.t⟩
    rcases w with w | rfl
    · obtain ⟨xs, e2⟩ := S.lw.l a w
      rw [e] at e2
      exact ⟨xs, Option.some.inj e2⟩
    · rw [hp] at e
      cases e
  exact q.kw lv fun b o n t e => S.kwC k b o (fun z => n (.inl z)) t e
theorem Sr.apartL (S : Sr c W H σ Γ) {p : Addr} (k : Ch c H H1) (hp : H p = none) : ∀ {vs : List V} {ds : List PyData}, DaL W c.K H vs ds → DaL (W1 W p) c.K H1 vs ds
  | _, _, .nil => .nil
  | _, _, .cons h r => .cons (S.apart k hp h) (Sr.apartL S k hp r)
/-- a list that came while an expression was reckoned: it is in W from now on -/
theorem Sr.more (S : Sr c W H σ Γ) {p : Addr} {xs : List V} (k : Ch c H H1) (hp : H p = none) (e : H1 p = some (.lst xs)) : Sr c (W1 W p) H1 σ Γ where
  len := S.len
  at' := fun i z e => by
    have q := S.at' i z e
    cases z with
    | un => trivial
    | im d => obtain ⟨u, e1, a⟩ := q; exact ⟨u, e1, S.apart k hp a⟩
    | ow ds => obtain ⟨a, xs, e1, w, w0, m, e2, r⟩ := q; exact ⟨a, xs, e1, .inl w, w0, m, k.kp _ _ m (S.lw.noT e2 fun _ z => by cases z) e2, S.apartL k hp r⟩
    | well => exact q
  sep := S.sep
  wok := fun w e => ⟨(S.wok w e).1, k.wl w e⟩
  sub := fun a z => .inl (S.sub a z)
  lw := ⟨fun a z => by
    rcases z with z | rfl
    · exact (S.lwC k).l a z
    · exact ⟨xs, e⟩, k.tb⟩
  new := fun a z z0 => by
    rcases z with z | rfl
    · exact S.new a z z0
    · exact S.h0 hp
  ch0 := (S.ch k).ch0
/-- .. and a slot's own -/
theorem Sr.own (S : Sr c W H σ Γ) {i p : Nat} {xs : List V} {ds : List PyData} (k : Ch c H H1) (hp : H p = none) (e : H1 p = some (.lst xs)) (r : DaL (W1 W p) c.K H1 xs ds) : Sr c (W1 W p) H1 (σ.set i (some (.ref p))) (Γ.set i (.ow ds)) := by
  have S1 := S.more k hp e
  have old : ∀ (j : Nat) (es : List PyData), Γ[j]? = some (.ow es) → σ[j]? = some (some (.ref p)) → False := fun j es e1 e2 => by
    obtain ⟨a, ys, e3, w, _, _, e4, _⟩ := S.at' j _ e1
    rw [e2] at e3
    cases e3
    rw [hp] at e4
    cases e4
  exact {
    len := by rw [List.length_set, List.length_set]; exact S.len
    at' := fun j z e' => by
      rcases set_at e' with ⟨rfl, rfl, l⟩ | ⟨n, e'⟩
      · rw [List.getElem?_set_self (by rw [S.len]; exact l)]
        exact ⟨p, xs, rfl, .inr rfl, fun z => S.lw.dom hp (S.sub p z), S.noow hp, e, r⟩
      · rw [List.getElem?_set_ne n]
        exact S1.at' j z e'
    sep := fun j k a ds es n e1 e2 e3 e4 => by
      rcases set_at e1 with ⟨rfl, z, l1⟩ | ⟨n1, e1⟩
      · rw [List.getElem?_set_self (by rw [S.len]; exact l1)] at e3
        cases e3
        rcases set_at e2 with ⟨rfl, _, _⟩ | ⟨n2, e2⟩
        · exact n rfl
        · rw [List.getElem?_set_ne n2] at e4
          exact old k es e2 e4
      · rw [List.getElem?_set_ne n1] at e3
        rcases set_at e2 with ⟨rfl, z, l1⟩ | ⟨n2, e2⟩
        · rw [List.getElem?_set_self (by rw [S.len]; exact l1)] at e4
          cases e4
          exact old j ds e1 e3
        · rw [List.getElem?_set_ne n2] at e4
          exact S.sep j k a ds es n e1 e2 e3 e4
    wok := S1.wok
    sub := S1.sub
    lw := S1.lw
    new := S1.new
    ch0 := S1.ch0 }
/-- a slot's own list is written -/
theorem Sr.put (S : Sr c W H σ Γ) {i : Nat} {a : Addr} {ds es : List PyData} {ys : List V} (e : Γ[i]? = some (.ow ds)) (e2 : σ[i]? = some (some (.ref a))) (r : DaL W c.K H ys es) : Sr c W (upd H a (.lst ys)) σ (Γ.set i (.ow es)) ∧ Kw c.T W H (upd H a (.lst ys)) := by
  obtain ⟨a', xs, e3, w, w0, m, e4, r0⟩ := S.at' i _ e
  rw [e2] at e3
  cases e3
  have kw : Kw c.T W H (upd H a (.lst ys)) := fun b o n t h => by
    rw [upd_ne (fun z => n (by rw [z]; exact w))]
    exact h
  refine ⟨{
    len := by rw [List.length_set]; exact S.len
    at' := fun j z e' => ?_
    sep := fun j k b ds' es' n e1 e2' e3 e4' => ?_
    wok := fun v e5 => ⟨(S.wok v e5).1, ?_⟩
    sub := S.sub
    lw := ⟨fun b z => ?_, fun b t => ?_⟩
    new := S.new
    ch0 := fun b o n t h => ?_ }, kw⟩
  · rcases set_at e' with ⟨rfl, rfl, l⟩ | ⟨n, e'⟩
    · exact ⟨a, ys, e2, w, w0, m, upd_same, r.kw S.lw.v kw⟩
    · have q := S.at' j z e'
      cases z with
      | un => trivial
      | im d => obtain ⟨u, e1, q⟩ := q; exact ⟨u, e1, q.kw S.lw.v kw⟩
      | ow ds' =>
        obtain ⟨b, zs, q1, q2, q3, q4, q5, q6⟩ := q
        refine ⟨b, zs, q1, q2, q3, q4, ?_, q6.kw S.lw.v kw⟩
        rw [upd_ne]
        · exact q5
        · rintro rfl
          exact S.sep i j b ds ds' n e e' e2 q1
      | well => exact q
  · have back : ∀ {j : Nat} {fs : List PyData}, (Γ.set i (.ow es))[j]? = some (.ow fs) → ∃ gs, Γ[j]? = some (.ow gs) := fun {j fs} h => by
      rcases set_at h with ⟨rfl, _, _⟩ | ⟨_, h⟩
      · exact ⟨_, e⟩
      · exact ⟨_, h⟩
    obtain ⟨g1, h1⟩ := back e1
    obtain ⟨g2, h2⟩ := back e2'
    exact S.sep j k b g1 g2 n h1 h2 e3 e4'
  · obtain ⟨x, y, z, q, q2⟩ := S.wl v e5
    refine ⟨x, y, z, ?_, q2⟩
    rw [upd_ne]
    · exact q
    · rintro rfl
      exact m e5.symm
  · by_cases z2 : b = a
    · exact ⟨ys, by rw [z2]; exact upd_same⟩
    · obtain ⟨xs, q⟩ := S.lw.l b z
      exact ⟨xs, by rw [upd_ne z2]; exact q⟩
  · obtain ⟨ps, q, q2⟩ := S.lw.t b t
    refine ⟨ps, ?_, q2⟩
    rw [upd_ne]
    · exact q
    · rintro rfl
      rw [e4] at q
      cases q
  · rw [upd_ne]
    · exact S.ch0 b o n t h
    · rintro rfl
      rw [S.new b w w0] at h
      cases h
end
end Dl

set_option Elab.async false
set_option linter.all false
set_option maxRecDepth 100000
set_option maxHeartbeats 2000000
set_option autoImplicit false
/-! Du: the statements' rules by data. -/
namespace Dl
open PySem PySem.Spec PyProof.Rows L2 Gd
abbrev Sg := List Cell → M Out
def sNext : Sg := fun Γ => .ret (.nx Γ)
def sBrk : Sg := fun Γ => .ret (.bk Γ)
def sCnt : Sg := fun Γ => .ret (.ct Γ)
def sNever : Sg := fun _ => .fail
/-- what follows -/
def thenO (g : Sg) : Out → M Out
  | .nx Γ => g Γ
  | o => .ret o
def sSeq (g1 g2 : Sg) : Sg := fun Γ => (g1 Γ).bind (thenO g2)
def sIf (t : List Cell → M Bool) (g1 g2 : Sg) : Sg := fun Γ => (t Γ).bind fun b => if b then g1 Γ else g2 Γ
def sRet (f : List Cell → M PyData) : Sg := fun Γ => (f Γ).bind fun d => .ret (.rt d)
def sRetN : Sg := fun _ => .ret (.rt .none)
def sDrop (f : List Cell → M PyData) : Sg := fun Γ => (f Γ).bind fun _ => .ret (.nx Γ)
/-- a slot's own list is handed back -/
def sRetO (i : Nat) : Sg := fun Γ => match Γ[i]? with
  | some (.ow ds) => .ret (.rt (.list ds))
  | _ => .fail
/-- a target: what it makes of a datum -/
abbrev Bg := PyData → List Cell → M (List Cell)
abbrev Bgs := List PyData → List Cell → M (List Cell)
def bNm (i : Nat) : Bg := fun d Γ => .ret (Γ.set i (.im d))
def bNil : Bgs := fun ds Γ => match ds with
  | [] => .ret Γ
  | _ => .fail
def bCons (b : Bg) (r : Bgs) : Bgs := fun ds Γ => match ds with
  | d :: ds => (b d Γ).bind fun Γ' => r ds Γ'
  | _ => .fail
def bTup (n : Nat) (r : Bgs) : Bg := fun d Γ => match d with
  | .tuple ds => (M.gd (ds.length = n)).bind fun _ => r ds Γ
  | _ => .fail
def sAsg (f : List Cell → M PyData) (b : Bg) : Sg := fun Γ => (f Γ).bind fun d => (b d Γ).bind fun Γ' => .ret (.nx Γ')
abbrev sSet (i : Nat) (f : List Cell → M PyData) : Sg := sAsg f (bNm i)
/-- a new list -/
def sOwn (i : Nat) (F : List Cell → M (List PyData)) : Sg := fun Γ => (F Γ).bind fun ds => .ret (.nx (Γ.set i (.ow ds)))
def sApp (i : Nat) (f : List Cell → M PyData) : Sg := fun Γ => match Γ[i]? with
  | some (.ow ds) => (f Γ).bind fun d => (M.gd (ds.length < 1000)).bind fun _ => .ret (.nx (Γ.set i (.ow (ds ++ [d]))))
  | _ => .fail
def sPar (i j : Nat) (F : List Cell → M (List PyData)) : Sg := fun Γ => (F Γ).bind fun ds => match ds with
  | [a, b] => .ret (.nx ((Γ.set i (.im a)).set j (.im b)))
  | _ => .fail
def sPar3 (i j l : Nat) (F : List Cell → M (List PyData)) : Sg := fun Γ => (F Γ).bind fun ds => match ds with
  | [a, b, d] => .ret (.nx (((Γ.set i (.im a)).set j (.im b)).set l (.im d)))
  | _ => .fail
/-- x, y = [..], e -/
def sParO (i j : Nat) (F : List Cell → M (List PyData)) (f : List Cell → M PyData) : Sg := fun Γ => (F Γ).bind fun ds => (f Γ).bind fun d => .ret (.nx ((Γ.set i (.ow ds)).set j (.im d)))
/-- a frame's own list is written no more -/
def sFrz (i : Nat) (g : Sg) : Sg := fun Γ => match Γ[i]? with
  | some (.ow ds) => g (Γ.set i (.im (.list ds)))
  | _ => .fail
/-- a new list, and where it was not there yet -/
def tN (c : Fc) (F : List Cell → M (List PyData)) : TE := fun σ H Q => ∃ W Γ, Sr c W H σ Γ ∧ (F Γ).run fun ds => ∀ H' p xs, Ch c H H' → H p = none → H' p = some (.lst xs) → DaL (W1 W p) c.K H' xs ds → Q (.ref p) H'
/-- the slots of that list alone may be others -/
def Only (is : List Nat) (σ σ' : L2.St) : Prop := σ'.length = σ.length ∧ ∀ i, i ∉ is → σ'[i]? = σ[i]?
def tGF (c : Fc) (is : List Nat) (b : Bg) : TG := fun v σ H N => ∃ W Γ d, Sr c W H σ Γ ∧ Da W c.K H v d ∧ (b d Γ).run fun Γ' => ∀ σ', Sr c W H σ' Γ' → Only is σ σ' → N σ' H
def tGsF (c : Fc) (is : List Nat) (b : Bgs) : TGs := fun vs σ H N => ∃ W Γ ds, Sr c W H σ Γ ∧ DaL W c.K H vs ds ∧ (b ds Γ).run fun Γ' => ∀ σ', Sr c W H σ' Γ' → Only is σ σ' → N σ' H
section
variable {X : Cx} {c : Fc} {e e1 e2 e3 : Expr} {es : List Expr} {f g h : List Cell → M PyData} {F : List Cell → M (List PyData)} {t u : List Cell → M Bool} {pos : Pos} {d : PyData} {g1 g2 : Sg} {st : Stmt} {ss s2 : List Stmt} {b : Bg} {bs : Bgs} {is js : List Nat} {tg : Expr} {ts : List Expr}
theorem ps_weak {t t' : TS} (h : PS X st t) (f : ∀ D σ H, t' D σ H → t D σ H) : PS X st t' := ⟨fun pins s σ H D I q => h.run pins s σ H D I (f D σ H q)⟩
theorem pss_weak {t t' : TS} (h : PSs X ss t) (f : ∀ D σ H, t' D σ H → t D σ H) : PSs X ss t' := ⟨fun pins s σ H D I q => h.run pins s σ H D I (f D σ H q)⟩
theorem pg_weak {t t' : TG} (h : PG X tg t) (f : ∀ v σ H N, t' v σ H N → t v σ H N) : PG X tg t' := ⟨fun pins s σ H v u N I r q => h.run pins s σ H v u N I r (f v σ H N q)⟩
theorem pgs_weak {t t' : TGs} (h : PGs X ts t) (f : ∀ v σ H N, t' v σ H N → t v σ H N) : PGs X ts t' := ⟨fun pins s σ H v u N I r q => h.run pins s σ H v u N I r (f v σ H N q)⟩
theorem tSF_seq {W : Addr → Prop} {Γ : List Cell} {H H1 : Hp} {σ : L2.St} {D : Ends} (S : Sr c W H σ Γ) (k : Ch c H H1) (q : (g1 Γ).run (SF c W H D)) : tSF c g1 D σ H1 := ⟨W, Γ, S.ch k, (g1 Γ).mono (fun o z => SF.chm S k z) q⟩
theorem SF.nx1 {W : Addr → Prop} {H H1 : Hp} {σ σ' : L2.St} {Γ Γ' : List Cell} {D : Ends} (S : Sr c W H σ Γ) (k : Ch c H H1) (q : SF c W H D (.nx Γ')) (S' : Sr c W H1 σ' Γ') : D.nx σ' H1 := q W σ' H1 S' (S.kwC k) Ex.refl
theorem sf_nil : PSs X [] (tSF c sNext) := pss_weak pss_nil fun D σ H ⟨W, Γ, S, q⟩ => q.nx1 S S.refl S
theorem sf_cons (h1 : PS X st (tSF c g1)) (h2 : PSs X ss (tSF c g2)) : PSs X (st :: ss) (tSF c (sSeq g1 g2)) := pss_weak (pss_cons h1 h2) fun D σ H ⟨W, Γ, S, q⟩ => ⟨W, Γ, S, (g1 Γ).mono (fun o q => by
  cases o with
  | nx Γ' => exact fun W' σ' H' S' k x => ⟨W', Γ', S', (g2 Γ').mono (fun o z => SF.move S.lw S'.lw k x z) q⟩
  | bk Γ' => exact q
  | ct Γ' => exact q
  | rt d => exact q) q⟩
theorem sf_one (h1 : PS X st (tSF c g1)) : PSs X [st] (tSF c g1) := pss_one h1
theorem sf_pass : PS X (.Pass pos) (tSF c sNext) := ps_weak ps_pass fun D σ H ⟨W, Γ, S, q⟩ => q.nx1 S S.refl S
theorem sf_brk : PS X (.Break pos) (tSF c sBrk) := ps_weak ps_break fun D σ H ⟨W, Γ, S, q⟩ => q W σ H S Kw.refl Ex.refl
theorem sf_cnt : PS X (.Continue pos) (tSF c sCnt) := ps_weak ps_continue fun D σ H ⟨W, Γ, S, q⟩ => q W σ H S Kw.refl Ex.refl
theorem sf_never : PS X st (tSF c sNever) := ps_weak ps_never fun D σ H ⟨W, Γ, S, q⟩ => q.elim
theorem sf_if (ht : PT X e (tTF c t)) (h1 : PSs X ss (tSF c g1)) (h2 : PSs X s2 (tSF c g2)) : PS X (.If e ss s2 pos) (tSF c (sIf t g1 g2)) := ps_weak (ps_if ht h1 h2) fun D σ H ⟨W, Γ, S, q⟩ => ⟨W, Γ, S, (t Γ).mono (fun b q H1 k => by
  cases b with
  | true => exact tSF_seq S k q
  | false => exact tSF_seq S k q) q⟩
theorem sf_ret (he : PE X e (tF c f)) : PS X (.Return (some e) pos) (tSF c (sRet f)) := ps_weak (ps_ret he) fun D σ H ⟨W, Γ, S, q⟩ => ⟨W, Γ, S, (f Γ).mono (fun d q H1 v k a => q H1 v (S.ret.trans k) (a.less S.sub)) q⟩
theorem sf_retN : PS X (.Return none pos) (tSF c sRetN) := ps_weak ps_retN fun D σ H ⟨W, Γ, S, q⟩ => q H _ S.ret .non
theorem sf_retO {i : Nat} (he : PE X e (tVar i)) : PS X (.Return (some e) pos) (tSF c (sRetO i)) := ps_weak (ps_ret he) fun D σ H ⟨W, Γ, S, q⟩ => by
  unfold sRetO at q
  split at q
  · rename_i ds e1
    obtain ⟨a, xs, e2, w, w0, m, h1, h2⟩ := S.at' i _ e1
    exact ⟨_, e2, q H _ S.ret (.lst w0 h1 (h2.less S.sub))⟩
  · exact q.elim
theorem sf_expr (he : PE X e (tF c f)) (hs : swapsWith e none pos.line X.env = pure false := by rfl) : PS X (.Expr e pos) (tSF c (sDrop f)) := ps_weak (ps_expr he hs) fun D σ H ⟨W, Γ, S, q⟩ => ⟨W, Γ, S, (f Γ).mono (fun d q H1 v k a => q.nx1 S k (S.ch k)) q⟩
/-! targets -/
theorem pgf_name {i : Nat} (hg : PG X e (gName i)) : PG X e (tGF c [i] (bNm i)) := pg_weak hg fun v σ H N ⟨W, Γ, d, S, a, q⟩ => q _ (S.set a) ⟨by rw [List.length_set], fun j n => List.getElem?_set_ne (fun z => n (by simp [z]))⟩
theorem pgsf_nil : PGs X [] (tGsF c [] bNil) := pgs_weak pgs_nil fun vs σ H N ⟨W, Γ, ds, S, a, q⟩ => by
  cases a with
  | nil => exact ⟨rfl, q σ S ⟨rfl, fun _ _ => rfl⟩⟩
  | cons => exact q.elim
theorem pgsf_cons (h1 : PG X e (tGF c is b)) (h2 : PGs X es (tGsF c js bs)) (hs : (assignEach (e :: es) X.env).map (·.2) = assign e X.env :: (assignEach es X.env).map (·.2) := by rfl) : PGs X (e :: es) (tGsF c (is ++ js) (bCons b bs)) := pgs_weak (pgs_cons h1 h2 hs) fun vs σ H N ⟨W, Γ, ds, S, a, q⟩ => by
  cases a with
  | nil => exact q.elim
  | cons a r => exact ⟨_, _, rfl, W, Γ, _, S, a, (b _ Γ).mono (fun Γ' q σ' S' s1 => ⟨W, Γ', _, S', r, (bs _ Γ').mono (fun Γ2 q σ2 S2 s2 => q σ2 S2 ⟨s2.1.trans s1.1, fun i n => (s2.2 i fun z => n (List.mem_append_right _ z)).trans (s1.2 i fun z => n (List.mem_append_left _ z))⟩) q⟩) q⟩
theorem pgf_tup {k n : Nat} (hc : X.calm = true) (eK : X.K = c.K) (h : PGs X es (tGsF c is bs)) (hn : (assignEach es X.env).length = n := by rfl) (hst : (assignEach es X.env).findIdx? (·.1) = none := by rfl) : PG X (.Tuple es k pos) (tGF c is (bTup n bs)) :=
  pg_weak (k_gtup eK hc h hn hst) fun v σ H N ⟨W, Γ, d, S, a, q⟩ => by
    cases a with
    | tup h1 r => exact ⟨_, _, rfl, h1, by rw [r.length]; exact q.1, W, Γ, _, S, r, q.2⟩
    | _ => exact q.elim
/-! assignments -/
theorem sf_asg (he : PE X e (tF c f)) (hg : PG X tg (tGF c is b)) (hs : swapsWithSole [tg] e pos.line X.env = pure false := by rfl) (hw : swappedStores [tg] e X.env = pure none := by rfl)
    (h1 : (assignEach [tg] X.env).map (·.2) = [assign tg X.env] := by rfl) : PS X (.Assign [tg] e pos) (tSF c (sAsg f b)) := ps_weak (ps_asg he hg hs hw h1) fun D σ H ⟨W, Γ, S, q⟩ => ⟨W, Γ, S, (f Γ).mono (fun d q H1 v k a =>
      ⟨W, Γ, d, S.ch k, a, (b d Γ).mono (fun Γ' q σ' S' _ => q.nx1 S k S') q⟩) q⟩
theorem sf_own {i : Nat} (h : PS X st (tAsg (tN c F) (gName i))) : PS X st (tSF c (sOwn i F)) := ps_weak h fun D σ H ⟨W, Γ, S, q⟩ => ⟨W, Γ, S, (F Γ).mono (fun ds q H1 p xs k hp e r => q _ _ H1 (S.own k hp e r) (S.kwC k) fun a z => z.imp id fun w => by rw [w]; exact hp) q⟩
theorem sf_app {i : Nat} (h : PS X st (tDrop (tBM c.K "list" rAppend (tVar i) (tCons (tF c f) tNil)))) : PS X st (tSF c (sApp i f)) := ps_weak h fun D σ H ⟨W, Γ, S, q⟩ => by
  unfold sApp at q
  split at q
  · rename_i ds e1
    obtain ⟨a, xs, e2, w, w0, m, h1, h2⟩ := S.at' i _ e1
    refine ⟨_, e2, .inl ⟨rfl, _, .inl (.inl h1)⟩, W, Γ, S, (f Γ).mono (fun d q H1 v k da => ?_) q⟩
    have h1' : H1 a = some (.lst xs) := k.kp _ _ m (S.lw.noT h1 fun _ z => by cases z) h1
    have S1 := S.ch k
    obtain ⟨S2, k2⟩ := S1.put e1 e2 ((S.dal k h2).append (.cons da .nil))
    refine ⟨a, xs, v, rfl, rfl, h1', ?_, q.2 W σ _ S2 (Kw.trans S.lw (S.kwC k) k2 Ex.refl) Ex.refl⟩
    have := h2.length
    have z := q.1
    exact Nat.lt_of_lt_of_le (by omega : xs.length < 1000) (by decide)
  · exact q.elim
theorem sf_par {i j : Nat} (h : PS X st (tPar i j (tAF c F))) : PS X st (tSF c (sPar i j F)) := ps_weak h fun D σ H ⟨W, Γ, S, q⟩ => ⟨W, Γ, S, (F Γ).mono (fun ds q H1 vs k a => by
  dsimp only at q
  split at q
  · cases a with | cons a1 r => cases r with | cons a2 r => cases r; exact ⟨_, _, rfl, q.nx1 S k (((S.ch k).set a1).set a2)⟩
  · exact q.elim) q⟩
theorem sf_par3 {i j l : Nat} (h : PS X st (tPar3 i j l (tAF c F))) : PS X st (tSF c (sPar3 i j l F)) := ps_weak h fun D σ H ⟨W, Γ, S, q⟩ => ⟨W, Γ, S, (F Γ).mono (fun ds q H1 vs k a => by
  dsimp only at q
  split at q
  · cases a with | cons a1 r => cases r with | cons a2 r => cases r with | cons a3 r => cases r; exact ⟨_, _, _, rfl, q.nx1 S k ((((S.ch k).set a1).set a2).set a3)⟩
  · exact q.elim) q⟩
theorem sf_parO {i j : Nat} (h : PS X st (tPar i j (tCons (tN c F) (tCons (tF c f) tNil)))) (n : i ≠ j) : PS X st (tSF c (sParO i j F f)) := ps_weak h fun D σ H ⟨W, Γ, S, q⟩ => ⟨W, Γ, S, (F Γ).mono (fun ds q H1 p xs k hp e r => by
  have S1 := S.more k hp e
  refine ⟨_, Γ, S1, (f Γ).mono (fun d q H2 v k2 da => ?_) q⟩
  have e2 : H2 p = some (.lst xs) := k2.kp _ _ (S.noow hp) (S1.lw.noT e fun _ z => by cases z) e
  have S2 := (S.own (i := i) (k.trans k2) hp e2 (S1.dal k2 r)).set (i := j) da
  exact ⟨_, _, rfl, q _ _ H2 S2 (S.kwC (k.trans k2)) fun a z => z.imp id fun w => by rw [w]; exact hp⟩) q⟩
/-! a frame's own list is frozen -/
theorem Sr.frz {W : Addr → Prop} {H : Hp} {σ : L2.St} {Γ : List Cell} (S : Sr c W H σ Γ) {i : Nat} {ds : List PyData} (e : Γ[i]? = some (.ow ds)) : ∃ W', (∀ a, W' a → W a) ∧ Sr c W' H σ (Γ.set i (.im (.list ds))) := by
  obtain ⟨a, xs, e2, w, w0, m, h1, h2⟩ := S.at' i _ e
  refine ⟨fun b => W b ∧ b ≠ a, fun b z => z.1, ?_⟩
  have le : ∀ b, (W b ∧ b ≠ a) → W b := fun b z => z.1
  exact {
    len := by rw [List.length_set]; exact S.len
    at' := fun j z e' => by
      rcases set_at e' with ⟨rfl, rfl, l⟩ | ⟨n, e'⟩
      · exact ⟨_, e2, .lst (fun z => z.2 rfl) h1 (h2.less le)⟩
      · have q := S.at' j z e'
        cases z with
        | un => trivial
        | im d => obtain ⟨u, e1, q⟩ := q; exact ⟨u, e1, q.less le⟩
        | ow ds' =>
          obtain ⟨b, zs, q1, q2, q3, q4, q5, q6⟩ := q
          refine ⟨b, zs, q1, ⟨q2, ?_⟩, q3, q4, q5, q6.less le⟩
          rintro rfl
          exact S.sep i j b ds ds' n e e' e2 q1
        | well => exact q
    sep := fun j k b ds' es' n e1 e2' e3 e4' => by
      rcases set_at e1 with ⟨_, z, _⟩ | ⟨n1, e1⟩
      · cases z
      · rcases set_at e2' with ⟨_, z, _⟩ | ⟨n2, e2'⟩
        · cases z
        · exact S.sep j k b ds' es' n e1 e2' e3 e4'
    wok := S.wok
    sub := fun b z => ⟨S.sub b z, by rintro rfl; exact w0 z⟩
    lw := ⟨fun b z => S.lw.l b z.1, S.lw.t⟩
    new := fun b z z0 => S.new b z.1 z0
    ch0 := S.ch0 }
theorem SF.less {W W' : Addr → Prop} {H : Hp} {D : Ends} (le : ∀ a, W' a → W a) : ∀ {o : Out}, SF c W H D o → SF c W' H D o
  | .nx Γ, q => fun V σ' H' S k x => q V σ' H' S (fun b o n t h => k b o (fun z => n (le b z)) t h) fun a z => (x a z).imp (le a) id
  | .bk Γ, q => fun V σ' H' S k x => q V σ' H' S (fun b o n t h => k b o (fun z => n (le b z)) t h) fun a z => (x a z).imp (le a) id
  | .ct Γ, q => fun V σ' H' S k x => q V σ' H' S (fun b o n t h => k b o (fun z => n (le b z)) t h) fun a z => (x a z).imp (le a) id
  | .rt d, q => q
theorem sf_frz {i : Nat} (h : PS X st (tSF c g1)) : PS X st (tSF c (sFrz i g1)) := ps_weak h fun D σ H ⟨W, Γ, S, q⟩ => by
  unfold sFrz at q
  split at q
  · rename_i ds e1
    obtain ⟨W', le, S'⟩ := S.frz e1
    exact ⟨W', _, S', (g1 _).mono (fun o z => SF.less le z) q⟩
  · exact q.elim
/-! new lists -/
theorem pn_f (h : PE X e (tN c F)) : PE X e (tF c fun Γ => (F Γ).bind fun ds => .ret (.list ds)) := pe_weak h fun σ H Q ⟨W, Γ, S, q⟩ => ⟨W, Γ, S, (F Γ).mono (fun ds q H' p xs k hp e r => q H' _ k (.lst (S.lw.dom hp) e (r.less fun a z => .inl z))) q⟩
def nLst (F : List Cell → M (List PyData)) : List Cell → M (List PyData) := fun Γ => (F Γ).bind fun ds => (M.gd (ds.length ≤ 1000)).bind fun _ => .ret ds
theorem Ch.free {c : Fc} {W : Addr → Prop} {H H1 : Hp} {σ : L2.St} {Γ : List Cell} (S : Sr c W H σ Γ) (k : Ch c H H1) {p : Addr} (hp : H1 p = none) : H p = none := by
  cases e : H p with
  | none => rfl
  | some o =>
    by_cases w : some p = c.ow
    · obtain ⟨_, _, _, q, _⟩ := k.wl p w.symm
      rw [hp] at q
      cases q
    · by_cases t : c.T p
      · obtain ⟨_, q, _⟩ := k.tb p t
        rw [hp] at q
        cases q
      · rw [k.kp p o w t e] at hp
        cases hp
theorem pn_lst (h : PA X es (tAF c F)) : PE X (.List es pos) (tN c (nLst F)) := pe_weak (pe_lst h) fun σ H Q ⟨W, Γ, S, q⟩ => ⟨W, Γ, S, (F Γ).mono (fun ds q H1 vs k dd =>
  ⟨Nat.le_trans (by rw [dd.length]; exact q.1) (by decide), fun p hp => q.2 _ p vs (k.trans ((S.ch k).new1 hp)) (Ch.free S k hp) upd_same (dal_new hp dd)⟩) q⟩
end
end Dl

set_option Elab.async false
set_option linter.all false
set_option maxRecDepth 100000
set_option maxHeartbeats 2000000
set_option autoImplicit false
/-! Dw: what is walked, loops, comprehensions, by data. -/
namespace Dl
open PySem PySem.Spec PyProof.Rows L2 Gd RZ
section
variable {c : Fc} {W Wc : Addr → Prop} {H H1 H2 : Hp} {v : V} {d : PyData} {vs : List V} {ds : List PyData}
theorem Da.move (lw : LW c.T W H1) (x : Ex W H1 Wc) (k : Kw c.T W H1 H) (h : Da W c.K H1 v d) : Da Wc c.K H v d := by
  have h1 : Da (fun a => W a ∨ Wc a) c.K H1 v d := h.w fun a xs e n z => by
    rcases z with z | z
    · exact n z
    · rcases x a z with z | z
      · exact n z
      · rw [e] at z
        cases z
  have lv : LV c.T (fun a => W a ∨ Wc a) H1 := ⟨fun a o w e => by
    have w' : W a := by
      rcases w with w | w
      · exact w
      · rcases x a w with z | z
        · exact z
        · rw [e] at z
          cases z
    obtain ⟨xs, e2⟩ := lw.l a w'
    rw [e] at e2
    exact ⟨xs, Option.some.inj e2⟩, lw.t⟩
  exact (h1.kw lv fun b o n t e => k b o (fun z => n (.inl z)) t e).less fun a z => .inr z
theorem DaL.move (lw : LW c.T W H1) (x : Ex W H1 Wc) (k : Kw c.T W H1 H) : ∀ {vs : List V} {ds : List PyData}, DaL W c.K H1 vs ds → DaL Wc c.K H vs ds
  | _, _, .nil => .nil
  | _, _, .cons h r => .cons (h.move lw x k) (DaL.move lw x k r)
end
/-- the iterator yields what stands at those data -/
structure ItOk (c : Fc) (W : Addr → Prop) (J : It) (H1 : Hp) (ds : List PyData) : Prop where
  step : ∀ (i : Nat) (Wc : Addr → Prop) (H : Hp) (d : PyData), ds[i]? = some d → Ex W H1 Wc → Kw c.T W H1 H → J.go i H ∧ ∀ x H', J.yld i H x H' → Same H H' ∧ Da Wc c.K H' x d
  stop : ∀ (H : Hp), Kw c.T W H1 H → J.stop ds.length H
def tIF (c : Fc) (src : List Cell → M (List PyData)) : TI := fun σ H R => ∃ W Γ, Sr c W H σ Γ ∧ (src Γ).run fun ds => ∀ J H', Ch c H H' → ItOk c W J H' ds → R J H'
def sLs (f : List Cell → M PyData) : List Cell → M (List PyData) := fun Γ => (f Γ).bind fun d => match d with
  | .list ds => .ret ds
  | _ => .fail
def sTs (f : List Cell → M PyData) : List Cell → M (List PyData) := fun Γ => (f Γ).bind fun d => match d with
  | .tuple ds => .ret ds
  | _ => .fail
def sRg1 (F : List Cell → M (List PyData)) : List Cell → M (List PyData) := fun Γ => (F Γ).bind fun ds => match ds with
  | [.int j] => (M.gd (-(2 ^ 62) ≤ j ∧ j < 2 ^ 62)).bind fun _ => .ret ((List.range j.toNat).map fun k => .int (0 + (k : Nat)))
  | _ => .fail
def sRg2 (F : List Cell → M (List PyData)) : List Cell → M (List PyData) := fun Γ => (F Γ).bind fun ds => match ds with
  | [.int i, .int j] => (M.gd (-(2 ^ 62) ≤ i ∧ i < 2 ^ 62 ∧ -(2 ^ 62) ≤ j ∧ j < 2 ^ 62)).bind fun _ => .ret ((List.range (j - i).toNat).map fun k => .int (i + (k : Nat)))
  | _ => .fail
def zipD : List PyData → List PyData → List PyData
  | a :: as, b :: bs => .tuple [a, b] :: zipD as bs
  | _, _ => []
def sZip (F : List Cell → M (List PyData)) : List Cell → M (List PyData) := fun Γ => (F Γ).bind fun ds => match ds with
  | [.list a, .list b] => .ret (zipD a b)
  | [.tuple a, .tuple b] => .ret (zipD a b)
  | _ => .fail
def enuD : Nat → List PyData → List PyData
  | _, [] => []
  | n, a :: as => .tuple [.int (n : Nat), a] :: enuD (n + 1) as
def sEnu (f : List Cell → M PyData) : List Cell → M (List PyData) := fun Γ => (f Γ).bind fun d => match d with
  | .list a => .ret (enuD 0 a)
  | _ => .fail
theorem zipD_get : ∀ {as bs : List PyData} {i : Nat} {d : PyData}, (zipD as bs)[i]? = some d → ∃ a b, as[i]? = some a ∧ bs[i]? = some b ∧ d = .tuple [a, b]
  | a :: as, b :: bs, 0, d, e => by simp [zipD] at e; exact ⟨a, b, rfl, rfl, e.symm⟩
  | a :: as, b :: bs, i + 1, d, e => by simpa [zipD] using zipD_get (as := as) (bs := bs) (i := i) (d := d) (by simpa [zipD] using e)
  | [], _, _, _, e => by simp [zipD] at e
  | _ :: _, [], _, _, e => by simp [zipD] at e
theorem zipD_len : ∀ {as bs : List PyData}, as.length ≤ (zipD as bs).length ∨ bs.length ≤ (zipD as bs).length
  | a :: as, b :: bs => by
    have := zipD_len (as := as) (bs := bs)
    simp only [zipD, List.length_cons]
    omega
  | [], _ => .inl (Nat.zero_le _)
  | _ :: _, [] => .inr (Nat.zero_le _)
theorem enuD_get : ∀ {n : Nat} {as : List PyData} {i : Nat} {d : PyData}, (enuD n as)[i]? = some d → ∃ a, as[i]? = some a ∧ d = .tuple [.int ((n + i : Nat) : Int), a]
  | n, a :: as, 0, d, e => by simp [enuD] at e; exact ⟨a, rfl, e.symm⟩
  | n, a :: as, i + 1, d, e => by
    obtain ⟨b, h1, h2⟩ := enuD_get (n := n + 1) (as := as) (i := i) (d := d) (by simpa [enuD] using e)
    exact ⟨b, by simpa using h1, by rw [h2, show n + 1 + i = n + (i + 1) by omega]⟩
  | _, [], _, _, e => by simp [enuD] at e
theorem enuD_len : ∀ {n : Nat} {as : List PyData}, (enuD n as).length = as.length
  | _, [] => rfl
  | n, a :: as => by simp [enuD, enuD_len]
section
variable {X : Cx} {c : Fc} {e e1 e2 : Expr} {es : List Expr} {f : List Cell → M PyData} {F : List Cell → M (List PyData)} {tg : Expr} {pos : Pos} {W : Addr → Prop} {H H1 : Hp} {σ : L2.St} {Γ : List Cell}
theorem pi_weak {w w' : TI} (h : PI X tg e w) (f : ∀ σ H R, w' σ H R → w σ H R) : PI X tg e w' := ⟨fun pins s σ H R I q => h.run pins s σ H R I (f σ H R q)⟩
theorem kwL (lw : LW c.T W H1) {a : Addr} {xs : List V} (n : ¬ W a) (h : H1 a = some (.lst xs)) (k : Kw c.T W H1 H) : H a = some (.lst xs) := k a _ n (lw.noT h fun _ z => by cases z) h
theorem itok_list (lw : LW c.T W H1) {a : Addr} {xs : List V} {ds : List PyData} (n : ¬ W a) (h : H1 a = some (.lst xs)) (r : DaL W c.K H1 xs ds) : ItOk c W (Itl c.K a) H1 ds where
  step := fun i Wc H d e x k => by
    obtain ⟨v, hv, da⟩ := r.get' e
    have h2 := SqL.of (K := c.K) (kwL lw n h k)
    refine ⟨⟨xs, v, h2, hv⟩, ?_⟩
    rintro y H' ⟨rfl, q⟩
    have e2 := q xs h2
    rw [hv] at e2
    cases e2
    exact ⟨Same.refl _, da.move lw x k⟩
  stop := fun H k => ⟨xs, SqL.of (kwL lw n h k), Nat.le_of_eq r.length⟩
theorem itok_tup (lw : LW c.T W H1) {a : Addr} {xs : List V} {ds : List PyData} (h : SqT c.K H1 a xs) (r : DaL W c.K H1 xs ds) : ItOk c W (Itt c.K a) H1 ds where
  step := fun i Wc H d e x k => by
    obtain ⟨v, hv, da⟩ := r.get' e
    have h2 := sqT_kw lw.v k h
    refine ⟨⟨xs, v, h2, hv⟩, ?_⟩
    rintro y H' ⟨rfl, q⟩
    have e2 := q xs h2
    rw [hv] at e2
    cases e2
    exact ⟨Same.refl _, da.move lw x k⟩
  stop := fun H k => ⟨xs, sqT_kw lw.v k h, Nat.le_of_eq r.length⟩
theorem itok_rng {lo : Int} {n : Nat} : ItOk c W (Itr lo n) H1 ((List.range n).map fun k => .int (lo + (k : Nat))) where
  step := fun i Wc H d e x k => by
    rw [List.getElem?_map] at e
    obtain ⟨j, e1, rfl⟩ := Option.map_eq_some_iff.mp e
    obtain ⟨l, rfl⟩ := List.getElem?_eq_some_iff.mp e1
    rw [List.length_range] at l
    refine ⟨l, ?_⟩
    rintro y H' ⟨rfl, rfl⟩
    refine ⟨Same.refl _, ?_⟩
    rw [List.getElem_range]
    exact .int _
  stop := fun H k => by
    rw [List.length_map, List.length_range]
    exact Nat.le_refl _
theorem da_pair {Wc : Addr → Prop} {T : Addr} {v1 v2 : V} {a b : PyData} (hT : H T = none) (h1 : Da Wc c.K H v1 a) (h2 : Da Wc c.K H v2 b) : Da Wc c.K (upd H T (.tup [v1, v2])) (.ref T) (.tuple [a, b]) :=
  .tup (SqT.of upd_same) (.cons (h1.same (same_new hT)) (.cons (h2.same (same_new hT)) .nil))
theorem itok_zipL (lw : LW c.T W H1) {a b : Addr} {xs ys : List V} {ds es : List PyData} (n : ¬ W a) (h : H1 a = some (.lst xs)) (r : DaL W c.K H1 xs ds) (m : ¬ W b) (h' : H1 b = some (.lst ys)) (r' : DaL W c.K H1 ys es) : ItOk c W (Itz c.K a b) H1 (zipD ds es) where
  step := fun i Wc H d e x k => by
    obtain ⟨p, q, e1, e2, rfl⟩ := zipD_get e
    obtain ⟨v1, hv1, d1⟩ := r.get' e1
    obtain ⟨v2, hv2, d2⟩ := r'.get' e2
    have h3 := SqL.of (K := c.K) (kwL lw n h k)
    have h4 := SqL.of (K := c.K) (kwL lw m h' k)
    refine ⟨⟨xs, ys, _, _, h3, h4, hv1, hv2⟩, ?_⟩
    rintro _ _ ⟨T, y1, y2, rfl, hT, rfl, f1, f2⟩
    have z1 := f1 xs h3
    have z2 := f2 ys h4
    rw [hv1] at z1
    rw [hv2] at z2
    cases z1
    cases z2
    exact ⟨same_new hT, da_pair hT (d1.move lw x k) (d2.move lw x k)⟩
  stop := fun H k => ⟨xs, ys, SqL.of (kwL lw n h k), SqL.of (kwL lw m h' k), by
    have := zipD_len (as := ds) (bs := es)
    rw [r.length, r'.length]
    exact this⟩
theorem itok_zipT (lw : LW c.T W H1) {a b : Addr} {xs ys : List V} {ds es : List PyData} (h : SqT c.K H1 a xs) (r : DaL W c.K H1 xs ds) (h' : SqT c.K H1 b ys) (r' : DaL W c.K H1 ys es) : ItOk c W (ItzT c.K a b) H1 (zipD ds es) where
  step := fun i Wc H d e x k => by
    obtain ⟨p, q, e1, e2, rfl⟩ := zipD_get e
    obtain ⟨v1, hv1, d1⟩ := r.get' e1
    obtain ⟨v2, hv2, d2⟩ := r'.get' e2
    have h3 := sqT_kw lw.v k h
    have h4 := sqT_kw lw.v k h'
    refine ⟨⟨xs, ys, _, _, h3, h4, hv1, hv2⟩, ?_⟩
    rintro _ _ ⟨T, y1, y2, rfl, hT, rfl, f1, f2⟩
    have z1 := f1 xs h3
    have z2 := f2 ys h4
    rw [hv1] at z1
    rw [hv2] at z2
    cases z1
    cases z2
    exact ⟨same_new hT, da_pair hT (d1.move lw x k) (d2.move lw x k)⟩
  stop := fun H k => ⟨xs, ys, sqT_kw lw.v k h, sqT_kw lw.v k h', by
    have := zipD_len (as := ds) (bs := es)
    rw [r.length, r'.length]
    exact this⟩
theorem itok_enu (lw : LW c.T W H1) {a : Addr} {xs : List V} {ds : List PyData} (n : ¬ W a) (h : H1 a = some (.lst xs)) (r : DaL W c.K H1 xs ds) : ItOk c W (Ite c.K a) H1 (enuD 0 ds) where
  step := fun i Wc H d e x k => by
    obtain ⟨p, e1, rfl⟩ := enuD_get e
    obtain ⟨v, hv, da⟩ := r.get' e1
    have h2 := SqL.of (K := c.K) (kwL lw n h k)
    refine ⟨⟨xs, v, h2, hv⟩, ?_⟩
    rintro _ _ ⟨T, y, rfl, hT, rfl, q⟩
    have e2 := q xs h2
    rw [hv] at e2
    cases e2
    rw [Nat.zero_add]
    exact ⟨same_new hT, da_pair hT (.int _) (da.move lw x k)⟩
  stop := fun H k => ⟨xs, SqL.of (kwL lw n h k), by rw [enuD_len, r.length]; exact Nat.le_refl _⟩
theorem pif_list (eK : X.K = c.K) (he : PE X e (tF c f)) : PI X tg e (tIF c (sLs f)) := pi_weak (k_list eK he) fun σ H R ⟨W, Γ, S, q⟩ => ⟨W, Γ, S, (f Γ).mono (fun d q H1 v k a => by
  cases a with
  | lst n h r => exact ⟨_, rfl, ⟨_, SqL.of h⟩, q _ H1 k (itok_list (S.lwC k) n h r)⟩
  | _ => exact q.elim) q⟩
theorem pif_tup (eK : X.K = c.K) (he : PE X e (tF c f)) : PI X tg e (tIF c (sTs f)) := pi_weak (k_tup eK he) fun σ H R ⟨W, Γ, S, q⟩ => ⟨W, Γ, S, (f Γ).mono (fun d q H1 v k a => by
  cases a with
  | tup h r => exact ⟨_, rfl, ⟨_, h⟩, q _ H1 k (itok_tup (S.lwC k) h r)⟩
  | _ => exact q.elim) q⟩
theorem pif_rg1 (h : PI X tg e (iRng1 (tAF c F))) : PI X tg e (tIF c (sRg1 F)) := pi_weak h fun σ H R ⟨W, Γ, S, q⟩ => ⟨W, Γ, S, (F Γ).mono (fun ds q H1 vs k a => by
  dsimp only at q
  split at q
  · cases a with | cons a1 r => cases r; cases a1; exact ⟨_, rfl, q.1.1, q.1.2, q.2 _ H1 k itok_rng⟩
  · exact q.elim) q⟩
theorem pif_rg2 (h : PI X tg e (iRng2 (tAF c F))) : PI X tg e (tIF c (sRg2 F)) := pi_weak h fun σ H R ⟨W, Γ, S, q⟩ => ⟨W, Γ, S, (F Γ).mono (fun ds q H1 vs k a => by
  dsimp only at q
  split at q
  · cases a with | cons a1 r => cases r with | cons a2 r => cases r; cases a1; cases a2; exact ⟨_, _, rfl, q.1, q.2 _ H1 k itok_rng⟩
  · exact q.elim) q⟩
theorem pif_zip (h : PI X tg e (iZipA c.K (tAF c F))) : PI X tg e (tIF c (sZip F)) := pi_weak h fun σ H R ⟨W, Γ, S, q⟩ => ⟨W, Γ, S, (F Γ).mono (fun ds q H1 vs k a => by
  dsimp only at q
  split at q
  · cases a with | cons a1 r => cases r with | cons a2 r => cases r; cases a1 with | lst n h r1 => cases a2 with | lst m h' r2 => exact ⟨_, _, _, _, rfl, .inl ⟨SqL.of h, SqL.of h', q _ H1 k (itok_zipL (S.lwC k) n h r1 m h' r2)⟩⟩
  · cases a with | cons a1 r => cases r with | cons a2 r => cases r; cases a1 with | tup h r1 => cases a2 with | tup h' r2 => exact ⟨_, _, _, _, rfl, .inr ⟨h, h', q _ H1 k (itok_zipT (S.lwC k) h r1 h' r2)⟩⟩
  · exact q.elim) q⟩
theorem pif_enu (h : PI X tg e (iEnum c.K (fun σ H R => tF c f σ H fun x H1 => R [x] H1))) : PI X tg e (tIF c (sEnu f)) := pi_weak h fun σ H R ⟨W, Γ, S, q⟩ => ⟨W, Γ, S, (f Γ).mono (fun d q H1 v k a => by
  cases a with
  | lst n h r => exact ⟨_, _, rfl, SqL.of h, q _ H1 k (itok_enu (S.lwC k) n h r)⟩
  | _ => exact q.elim) q⟩
end
/-! ### for -/
def forL (b : Bg) (g : Sg) : List PyData → List Cell → M Out
  | [], Γ => .ret (.nx Γ)
  | d :: ds, Γ => (b d Γ).bind fun Γ1 => (g Γ1).bind fun o => match o with
    | .nx Γ' => forL b g ds Γ'
    | .ct Γ' => forL b g ds Γ'
    | .bk Γ' => .ret (.nx Γ')
    | .rt d => .ret (.rt d)
def sFor (src : List Cell → M (List PyData)) (b : Bg) (g : Sg) : Sg := fun Γ => (src Γ).bind fun ds => forL b g ds Γ
theorem sf_for {X : Cx} {c : Fc} {st : Stmt} {src : List Cell → M (List PyData)} {b : Bg} {g : Sg} {is : List Nat} (h : PS X st (tFor (tIF c src) (tGF c is b) (tSF c g))) : PS X st (tSF c (sFor src b g)) := ps_weak h fun D σ H ⟨W, Γ, S, q⟩ => by
  refine ⟨W, Γ, S, (src Γ).mono (fun ds q J H1 k it => ?_) q⟩
  have S1 := S.ch k
  have q1 : (forL b g ds Γ).run (SF c W H1 D) := (forL b g ds Γ).mono (fun o z => SF.chm S k z) q
  refine ⟨fun i m σ H => m = ds.length - i ∧ i ≤ ds.length ∧ ∃ Wc Γc, Sr c Wc H σ Γc ∧ Kw c.T W H1 H ∧ Ex W H1 Wc ∧ (forL b g (ds.drop i) Γc).run (SF c W H1 D), ⟨_, rfl, Nat.zero_le _, W, Γ, S1, Kw.refl, Ex.refl, q1⟩, ?_⟩
  rintro i m σ H ⟨rfl, hi, Wc, Γc, Sc, kc, xc, qc⟩
  by_cases hlt : i < ds.length
  · have e : ds[i]? = some ds[i] := List.getElem?_eq_getElem hlt
    rw [List.drop_eq_getElem_cons hlt] at qc
    obtain ⟨h1, h2⟩ := it.step i Wc H _ e xc kc
    refine .inr ⟨h1, fun σ' H' => ∃ Wd Γd, Sr c Wd H' σ' Γd ∧ Kw c.T W H1 H' ∧ Ex W H1 Wd ∧ (forL b g (ds.drop (i + 1)) Γd).run (SF c W H1 D), fun σ' H' ⟨Wd, Γd, x⟩ => ⟨ds.length - (i + 1), by omega, rfl, hlt, Wd, Γd, x⟩, fun x H' y => ?_⟩
    obtain ⟨sm, da⟩ := h2 x H' y
    have S2 := Sc.same sm
    have kk : Kw c.T W H1 H' := Kw.trans S1.lw kc (Kw.same sm) xc
    refine ⟨Wc, Γc, _, S2, da, (b _ Γc).mono (fun Γ1 q σ2 S3 _ => ⟨Wc, Γ1, S3, (g Γ1).mono (fun o q => ?_) q⟩) qc⟩
    cases o with
    | nx Γ' => exact fun W' σ' H3 S4 k4 x4 => ⟨W', Γ', S4, Kw.trans S1.lw kk k4 xc, Ex.trans S2.lw kk xc x4, q⟩
    | ct Γ' => exact fun W' σ' H3 S4 k4 x4 => ⟨W', Γ', S4, Kw.trans S1.lw kk k4 xc, Ex.trans S2.lw kk xc x4, q⟩
    | bk Γ' => exact fun W' σ' H3 S4 k4 x4 => q W' σ' H3 S4 (Kw.trans S1.lw kk k4 xc) (Ex.trans S2.lw kk xc x4)
    | rt d => exact q
  · obtain rfl : i = ds.length := by omega
    rw [List.drop_length] at qc
    exact .inl ⟨it.stop H kc, qc Wc σ H Sc kc xc⟩
end Dl

set_option Elab.async false
set_option linter.all false
set_option maxRecDepth 100000
set_option maxHeartbeats 2000000
set_option autoImplicit false
/-! Dx: comprehensions, all and any of generator expressions, by data. -/
namespace Dl
open PySem PySem.Spec PyProof.Rows L2 Gd RZ
def wipC (Γ : List Cell) : List Nat → List Cell
  | [] => Γ
  | v :: vs => (wipC Γ vs).set v .un
section
variable {c : Fc} {W : Addr → Prop} {H : Hp} {σ : L2.St} {Γ : List Cell}
theorem Sr.wipe (S : Sr c W H σ Γ) : ∀ vs : List Nat, Sr c W H (wipe σ vs) (wipC Γ vs)
  | [] => S
  | v :: vs => (Sr.wipe S vs).un
theorem wipe_get (σ : L2.St) (j : Nat) : ∀ vs : List Nat, (L2.wipe σ vs)[j]? = if j ∈ vs ∧ j < σ.length then some none else σ[j]?
  | [] => by simp [L2.wipe]
  | v :: vs => by
    unfold L2.wipe
    by_cases e : v = j
    · subst e
      by_cases l : v < σ.length
      · rw [List.getElem?_set_self (by rw [wipe_length]; exact l), if_pos ⟨by simp, l⟩]
      · rw [List.getElem?_eq_none (by rw [List.length_set, wipe_length]; omega), if_neg (fun z => l z.2), List.getElem?_eq_none (by omega)]
    · rw [List.getElem?_set_ne e, wipe_get σ j vs]
      have : j ∈ v :: vs ↔ j ∈ vs := by simp [show ¬ j = v from fun z => e z.symm]
      simp only [this]
theorem wipe_same {σ σ' : L2.St} {is vs : List Nat} (sub : ∀ i ∈ is, i ∈ vs) (h : Only is σ σ') : L2.wipe σ' vs = L2.wipe σ vs := by
  obtain ⟨hl, h⟩ := h
  refine List.ext_getElem? fun j => ?_
  rw [wipe_get, wipe_get, hl]
  by_cases z : j ∈ vs ∧ j < σ.length
  · rw [if_pos z, if_pos z]
  · rw [if_neg z, if_neg z]
    by_cases w : j ∈ vs
    · have l : ¬ j < σ.length := fun l => z ⟨w, l⟩
      rw [List.getElem?_eq_none (by omega), List.getElem?_eq_none (by omega)]
    · exact h j fun m => w (sub j m)
theorem wipe_wipe (σ : L2.St) (vs : List Nat) : L2.wipe (L2.wipe σ vs) vs = L2.wipe σ vs := by
  refine List.ext_getElem? fun j => ?_
  rw [wipe_get, wipe_get, wipe_length]
  by_cases z : j ∈ vs ∧ j < σ.length
  · rw [if_pos z, if_pos z]
  · rw [if_neg z, if_neg z]
theorem wipC_some {i : Nat} {ds : List PyData} : ∀ {vs : List Nat}, (wipC Γ vs)[i]? = some (.ow ds) → Γ[i]? = some (.ow ds) ∧ i ∉ vs
  | [], h => ⟨h, by simp⟩
  | v :: vs, h => by
    unfold wipC at h
    rcases set_at h with ⟨_, z, _⟩ | ⟨n, h⟩
    · cases z
    · obtain ⟨h1, h2⟩ := wipC_some h
      exact ⟨h1, by simp only [List.mem_cons, not_or]; exact ⟨fun e => n e.symm, h2⟩⟩
/-- a list of W that is no slot's is written -/
theorem Sr.putX (S : Sr c W H σ Γ) {a : Addr} {xs ys : List V} (w : W a) (w0 : ¬ c.W0 a) (m : some a ≠ c.ow) (e4 : H a = some (.lst xs)) (no : ∀ (j : Nat) (es : List PyData), Γ[j]? = some (.ow es) → σ[j]? = some (some (.ref a)) → False) : Sr c W (upd H a (.lst ys)) σ Γ := by
  have kw : Kw c.T W H (upd H a (.lst ys)) := fun b o n t h => by
    rw [upd_ne (fun z => n (by rw [z]; exact w))]
    exact h
  refine {
    len := S.len
    at' := fun j z e' => ?_
    sep := S.sep
    wok := fun v e5 => ⟨(S.wok v e5).1, ?_⟩
    sub := S.sub
    lw := ⟨fun b z => ?_, fun b t => ?_⟩
    new := S.new
    ch0 := fun b o n t h => ?_ }
  · have q := S.at' j z e'
    cases z with
    | un => trivial
    | im d => obtain ⟨u, e1, q⟩ := q; exact ⟨u, e1, q.kw S.lw.v kw⟩
    | ow ds' =>
      obtain ⟨b, zs, q1, q2, q3, q4, q5, q6⟩ := q
      refine ⟨b, zs, q1, q2, q3, q4, ?_, q6.kw S.lw.v kw⟩
      rw [upd_ne]
      · exact q5
      · rintro rfl
        exact no j ds' e' q1
    | well => exact q
  · obtain ⟨x, y, z, q, q2⟩ := S.wl v e5
    refine ⟨x, y, z, ?_, q2⟩
    rw [upd_ne]
    · exact q
    · rintro rfl
      exact m e5.symm
  · by_cases z2 : b = a
    · exact ⟨ys, by rw [z2]; exact upd_same⟩
    · obtain ⟨xs, q⟩ := S.lw.l b z
      exact ⟨xs, by rw [upd_ne z2]; exact q⟩
  · obtain ⟨ps, q, q2⟩ := S.lw.t b t
    refine ⟨ps, ?_, q2⟩
    rw [upd_ne]
    · exact q
    · rintro rfl
      rw [e4] at q
      cases q
  · rw [upd_ne]
    · exact S.ch0 b o n t h
    · rintro rfl
      rw [S.new b w w0] at h
      cases h
end
/-! ### comprehensions -/
def tYesM : List Cell → M Bool := fun _ => .ret true
def lcL (b : Bg) (t : List Cell → M Bool) (f : List Cell → M PyData) (Γ : List Cell) : List PyData → M (List PyData)
  | [] => .ret []
  | d :: ds => (b d Γ).bind fun Γ1 => (t Γ1).bind fun k => if k then (f Γ1).bind fun e => (lcL b t f Γ ds).bind fun r => .ret (e :: r) else lcL b t f Γ ds
def mLc (vs : List Nat) (src : List Cell → M (List PyData)) (b : Bg) (t : List Cell → M Bool) (f : List Cell → M PyData) : List Cell → M (List PyData) := fun Γ => (src Γ).bind fun ds => (M.gd (ds.length ≤ 1000)).bind fun _ => lcL b t f (wipC Γ vs) ds
section
variable {c : Fc} {src : List Cell → M (List PyData)} {b : Bg} {t : List Cell → M Bool} {f : List Cell → M PyData} {is vs : List Nat}
theorem w_lcF {σ : L2.St} {H : Hp} {Q : VK} (sub : ∀ i ∈ is, i ∈ vs) (q : tN c (mLc vs src b t f) σ H Q) : tLc (tIF c src) (tGF c is b) (tTF c t) (tF c f) vs σ H Q := by
  obtain ⟨W, Γ, S, q⟩ := q
  refine ⟨W, Γ, S, (src Γ).mono (fun ds q J H1 k it => ?_) q⟩
  obtain ⟨hz, q⟩ := q
  intro D hD
  have S1 := S.ch k
  have hD0 := Ch.free S k hD
  have cD : Ch c H (upd H1 D (.lst [])) := k.trans (S1.new1 hD)
  have Sd : Sr c (W1 W D) (upd H1 D (.lst [])) σ Γ := S.more cD hD0 upd_same
  have Sw := Sd.wipe vs
  refine ⟨fun i m H2 => m = ds.length - i ∧ i ≤ ds.length ∧ ∃ acc accd, Sr c (W1 W D) H2 (wipe σ vs) (wipC Γ vs) ∧ H2 D = some (.lst acc) ∧ DaL (W1 W D) c.K H2 acc accd ∧ acc.length ≤ i ∧ Kw c.T (W1 W D) (upd H1 D (.lst [])) H2 ∧ (∀ b o, some b ≠ c.ow → ¬ c.T b → H b = some o → H2 b = some o) ∧
    (lcL b t f (wipC Γ vs) (ds.drop i)).run fun r => ∀ H' p xs, Ch c H H' → H p = none → H' p = some (.lst xs) → DaL (W1 W p) c.K H' xs (accd ++ r) → Q (.ref p) H', ⟨_, rfl, Nat.zero_le _, [], [], Sw, upd_same, .nil, Nat.le_refl _, Kw.refl, cD.kp, q⟩, ?_⟩
  rintro i m H2 ⟨rfl, hi, acc, accd, S2, e2, r2, l2, k2, kp2, q2⟩
  have kw1 : Kw c.T W H1 H2 := fun b o n t h => by
    have nb : b ≠ D := by
      rintro rfl
      rw [hD] at h
      cases h
    exact k2 b o (fun z => z.elim n nb) t (by rw [upd_ne nb]; exact h)
  have ex : Ex W H1 (W1 W D) := fun a z => z.imp id fun z => by rw [z]; exact hD
  by_cases hlt : i < ds.length
  · have e : ds[i]? = some ds[i] := List.getElem?_eq_getElem hlt
    rw [List.drop_eq_getElem_cons hlt] at q2
    obtain ⟨h1, h2⟩ := it.step i (W1 W D) H2 _ e ex kw1
    refine .inr ⟨h1, fun H3 => ∃ acc accd, Sr c (W1 W D) H3 (wipe σ vs) (wipC Γ vs) ∧ H3 D = some (.lst acc) ∧ DaL (W1 W D) c.K H3 acc accd ∧ acc.length ≤ i + 1 ∧ Kw c.T (W1 W D) (upd H1 D (.lst [])) H3 ∧ (∀ b o, some b ≠ c.ow → ¬ c.T b → H b = some o → H3 b = some o) ∧
      (lcL b t f (wipC Γ vs) (ds.drop (i + 1))).run fun r => ∀ H' p xs, Ch c H H' → H p = none → H' p = some (.lst xs) → DaL (W1 W p) c.K H' xs (accd ++ r) → Q (.ref p) H', fun H3 ⟨acc, accd, x⟩ => ⟨ds.length - (i + 1), by omega, rfl, hlt, acc, accd, x⟩, fun x H3 y => ?_⟩
    obtain ⟨sm, da⟩ := h2 x H3 y
    have S3 := S2.same sm
    have c3 : Ch c H2 H3 := S2.cs sm
    refine ⟨W1 W D, _, _, S3, da, (b _ _).mono (fun Γ1 q σ2 S4 hs => ⟨(wipe_same sub hs).trans (wipe_wipe σ vs), W1 W D, Γ1, S4, (t Γ1).mono (fun kk q H4 c4 => ?_) q⟩) q2⟩
    have e3 : H4 D = some (.lst acc) := c4.kp _ _ (S.noow hD0) (S3.lw.noT (sm _ _ e2) fun _ z => by cases z) (sm _ _ e2)
    have c24 : Ch c H2 H4 := c3.trans c4
    have S5 := S2.ch c24
    have r4 := S2.dal c24 r2
    have kp4 : ∀ b o, some b ≠ c.ow → ¬ c.T b → H b = some o → H4 b = some o := fun b o n t h => c24.kp b o n t (kp2 b o n t h)
    have kw4 : Kw c.T (W1 W D) (upd H1 D (.lst [])) H4 := Kw.trans Sd.lw k2 (S2.kwC c24) Ex.refl
    cases kk with
    | false => exact ⟨acc, accd, S5, e3, r4, Nat.le_succ_of_le l2, kw4, kp4, q⟩
    | true =>
      refine ⟨W1 W D, Γ1, S4.ch c4, (f Γ1).mono (fun ed q H5 y c5 dy => ?_) q⟩
      have c45 : Ch c H4 H5 := c5
      have e5 : H5 D = some (.lst acc) := c5.kp _ _ (S.noow hD0) (S5.lw.noT e3 fun _ z => by cases z) e3
      have S6 := S5.ch c5
      have r5 := S5.dal c5 r4
      have kwD : Kw c.T (W1 W D) H5 (upd H5 D (.lst (acc ++ [y]))) := fun b o n t h => by
        rw [upd_ne (fun z => n (.inr z))]
        exact h
      have hl : acc.length < sizeLine := Nat.lt_of_lt_of_le (by omega : acc.length < 1001) (by decide)
      have Sput : Sr c (W1 W D) (upd H5 D (.lst (acc ++ [y]))) (L2.wipe σ vs) (wipC Γ vs) := S6.putX (.inr rfl) (fun z => S.lw.dom hD0 (S.sub D z)) (S.noow hD0) e5 (fun j es e1 e2 => by
        have := Sw.at' j _ e1
        obtain ⟨a, xs, q1, q2, q3, q4, q5, q6⟩ := this
        have w : (wipC Γ vs)[j]? = some (.ow es) := e1
        obtain ⟨g1, g2⟩ := wipC_some w
        obtain ⟨a', xs', p1, p2, p3, p4, p5, p6⟩ := S.at' j _ g1
        have : (L2.wipe σ vs)[j]? = σ[j]? := by rw [wipe_get, if_neg fun z => g2 z.1]
        rw [this, p1] at e2
        cases e2
        rw [hD0] at p5
        cases p5)
      refine ⟨acc, e5, hl, acc ++ [y], accd ++ [ed], Sput, upd_same, (r5.append (.cons dy .nil)).kw S6.lw.v kwD, by rw [List.length_append]; exact Nat.succ_le_succ l2, Kw.trans Sd.lw (Kw.trans Sd.lw kw4 (S5.kwC c5) Ex.refl) kwD Ex.refl, fun b o n t h => ?_, ?_⟩
      · rw [upd_ne (ne_of_none h hD0)]
        exact c5.kp b o n t (kp4 b o n t h)
      · exact (lcL b t f (wipC Γ vs) (ds.drop (i + 1))).mono (fun r z H' p xs h1 h2 h3 h4 => z H' p xs h1 h2 h3 (by rw [List.append_assoc] at h4; exact h4)) q
  · obtain rfl : i = ds.length := by omega
    rw [List.drop_length] at q2
    have q3 := q2 H2 D acc ⟨kp2, S2.lw.t, S2.wl⟩ hD0 e2 (by rw [List.append_nil]; exact r2)
    exact .inl ⟨it.stop H2 kw1, q3⟩
end
end Dl
namespace Dl
open PySem PySem.Spec PyProof.Rows L2 Gd RZ
section
variable {X : Cx} {c : Fc} {e e1 : Expr} {es : List Expr} {src : List Cell → M (List PyData)} {b : Bg} {t : List Cell → M Bool} {f elt : List Cell → M PyData} {is vs : List Nat}
theorem pn_lc (h : PE X e (tLc (tIF c src) (tGF c is b) (tTF c t) (tF c f) vs)) (sub : ∀ i ∈ is, i ∈ vs := by decide) : PE X e (tN c (mLc vs src b t f)) := pe_weak h fun σ H Q q => w_lcF sub q
theorem ptsf_nil : PTs X [] (tTF c tYesM) := ⟨fun pins s σ H Q I ⟨W, Γ, S, q⟩ => pts_nil.run pins s σ H Q I (q H S.refl)⟩
/-! ### all, any of a generator expression -/
def capC : Option Cell → Cell
  | some (.im d) => .im d
  | _ => .un
def agL (b0 : Bool) (elt : List Cell → M PyData) (Γ : List Cell) : List PyData → M PyData
  | [] => .ret (.bool b0)
  | d :: ds => (elt (.im d :: Γ)).bind fun y => (asB y).bind fun k => if k = b0 then agL b0 elt Γ ds else .ret (.bool (!b0))
def mAG (b0 : Bool) (caps : List Nat) (f elt : List Cell → M PyData) : List Cell → M PyData := fun Γ => (f Γ).bind fun d => match d with
  | .tuple ds => agL b0 elt (caps.map fun j => capC Γ[j]?) ds
  | _ => .fail
theorem capS {W : Addr → Prop} {H : Hp} {σ : L2.St} {Γ : List Cell} (S : Sr c W H σ Γ) (caps : List Nat) (u : Option V) : Sr c W H (u :: caps.map fun j => (σ[j]?).join) (.un :: caps.map fun j => capC Γ[j]?) where
  len := by simp
  at' := fun i z e => by
    cases i with
    | zero => cases e; trivial
    | succ i =>
      rw [List.getElem?_cons_succ] at e ⊢
      rw [List.getElem?_map] at e ⊢
      cases q : caps[i]? with
      | none => rw [q] at e; cases e
      | some j =>
        rw [q] at e
        cases e
        show CellAt c W H (some ((σ[j]?).join)) (capC Γ[j]?)
        cases w : Γ[j]? with
        | none => exact trivial
        | some z =>
          cases z with
          | im d =>
            obtain ⟨v, e2, a⟩ := S.at' j _ w
            exact ⟨v, by rw [e2]; rfl, a⟩
          | un => exact trivial
          | ow ds => exact trivial
          | well => exact trivial
  sep := fun i j a ds es n e1 e2 e3 e4 => by
    have no : ∀ (i : Nat) (ds : List PyData), (.un :: caps.map fun j => capC Γ[j]?)[i]? ≠ some (.ow ds) := fun i ds e => by
      cases i with
      | zero => cases e
      | succ i =>
        rw [List.getElem?_cons_succ, List.getElem?_map] at e
        cases q : caps[i]? with
        | none => rw [q] at e; cases e
        | some j =>
          rw [q] at e
          have e' : capC Γ[j]? = .ow ds := Option.some.inj e
          unfold capC at e'
          split at e' <;> cases e'
    exact no i ds e1
  wok := S.wok
  sub := S.sub
  lw := S.lw
  new := S.new
  ch0 := S.ch0
theorem pf_ag {P : Addr} {b0 : Bool} {caps : List Nat} (h : PE X e (tAG c.K P b0 caps (tGF c [0] (bNm 0)) (tF c f) (tF c elt))) (hP : c.T P) : PE X e (tF c (mAG b0 caps f elt)) := pe_weak h fun σ H Q ⟨W, Γ, S, q⟩ => ⟨W, Γ, S, (f Γ).mono (fun d q H1 v k da => by
  dsimp only at q
  split at q
  · rename_i ds
    cases da with
    | @tup a xs _ h1 r =>
      have S1 := S.ch k
      refine ⟨a, xs, rfl, h1, S1.lw.t P hP, fun H2 tb => ?_⟩
      have c12 : Ch c H1 H2 := by
        refine ⟨fun b o n t e => ?_, fun b t => ?_, fun w e => ?_⟩
        · rw [tb.2 b (fun z => t (by rw [z]; exact hP))]; exact e
        · by_cases z : b = P
          · rw [z]; exact tb.1
          · obtain ⟨ps, e1, e2⟩ := S1.lw.t b t
            exact ⟨ps, by rw [tb.2 b z]; exact e1, e2⟩
        · obtain ⟨x, y, z, e1, e2⟩ := S1.wl w e
          refine ⟨x, y, z, ?_, e2⟩
          rw [tb.2 w]
          · exact e1
          · rintro rfl
            obtain ⟨ps, e3, _⟩ := S1.lw.t w hP
            rw [e1] at e3
            cases e3
      have S2 := S1.ch c12
      have cap := capS S2 caps none
      let Γ' : List Cell := caps.map fun j => capC Γ[j]?
      let post : PyData → Prop := fun d => ∀ H' v, Ch c H H' → Da W c.K H' v d → Q v H'
      let Js : Nat → L2.St → Hp → Prop := fun i σ' H' => ∃ z, Sr c W H' σ' (z :: Γ') ∧ Ch c H H' ∧ SqT c.K H' a xs ∧ DaL W c.K H' xs ds ∧ (agL b0 elt Γ' (ds.drop i)).run post
      have j0 : Js 0 (none :: caps.map fun j => (σ[j]?).join) H2 := ⟨.un, cap, k.trans c12, sqT_kw S1.lw.v (S1.kwC c12) h1, S1.dal c12 r, q⟩
      refine ⟨Js, fun i b σ' H' => (b = b0 → Js (i + 1) σ' H') ∧ (b = (!b0) → Q (.bl (!b0)) H'), j0, ?_⟩
      refine ⟨fun i σ' H' ⟨z, s, k1, h, r, q⟩ => h, fun i v σ' H' hv ⟨z, s, k1, h, r, q⟩ => ?_, fun i σ' H' o => o.1 rfl, fun i σ' H' _ o => o.2 rfl, fun σ' H' ⟨z, s, k1, h, r, q⟩ => ?_⟩
      · obtain ⟨d, hd, dv⟩ := r.get hv
        have hl : i < ds.length := (List.getElem?_eq_some_iff.mp hd).1
        have hd' : ds[i] = d := (List.getElem?_eq_some_iff.mp hd).2
        rw [List.drop_eq_getElem_cons hl, hd'] at q
        refine ⟨W, _, d, s, dv, fun σ2 s2 _ => ?_⟩
        refine ⟨W, _, s2, (elt _).mono (fun y q H3 u k3 dy => ?_) q⟩
        cases dy with
        | bl b =>
          refine ⟨b, rfl, fun e => ?_, fun e => ?_⟩
          · have q' : (if b = b0 then agL b0 elt Γ' (ds.drop (i + 1)) else .ret (.bool (!b0))).run post := q
            rw [if_pos e] at q'
            exact ⟨_, s2.ch k3, k1.trans k3, sqT_kw s.lw.v (s.kwC k3) h, s.dal k3 r, q'⟩
          · have q' : (if b = b0 then agL b0 elt Γ' (ds.drop (i + 1)) else .ret (.bool (!b0))).run post := q
            rw [if_neg (by rw [e]; cases b0 <;> decide)] at q'
            exact q' H3 _ (k1.trans k3) (.bl _)
        | _ => exact q.elim
      · rw [r.length, List.drop_length] at q
        exact q H' _ k1 (.bl _)
  · exact q.elim) q⟩
end
end Dl

set_option Elab.async false
set_option linter.all false
set_option maxRecDepth 100000
set_option maxHeartbeats 2000000
set_option autoImplicit false
/-! Dy: defs by data: promises, calls. -/
namespace Dl
open PySem PySem.Spec PyProof.Rows L2 Gd RZ
/-- what a def leaves: all stands but the well; tables grow -/
abbrev fc (K : PySem.W.Frag) (T : Addr → Prop) (ow : Option Addr) (W : Addr → Prop) (H : Hp) : Fc := ⟨K, T, ow, W, H⟩
/-- a def of n data: what it hands back -/
def spD (K : PySem.W.Frag) (T : Addr → Prop) (n : Nat) (g : List PyData → M PyData) : Sp := fun vs H Q _ => ∃ W ds, DaL W K H vs ds ∧ LW T W H ∧ ds.length = n ∧ (g ds).run fun d => ∀ H' v, Ch (fc K T none W H) H H' → Da W K H' v d → Q v H'
/-- a def of a well and n data -/
def spW (K : PySem.W.Frag) (T : Addr → Prop) (n : Nat) (g : List PyData → M PyData) : Sp := fun vs H Q _ => ∃ w W ds us, vs = .ref w :: us ∧ W w ∧ Wl H w ∧ DaL W K H us ds ∧ LW T W H ∧ ds.length = n ∧ (g ds).run fun d => ∀ H' v, Ch (fc K T (some w) W H) H H' → Da W K H' v d → Q v H'
def outD : Out → M PyData
  | .rt d => .ret d
  | .nx _ => .ret .none
  | _ => .fail
/-- a def's body as a function of its arguments; k: how many other names it has -/
def fnD (k : Nat) (m : Sg) (ds : List PyData) : M PyData := (m (ds.map .im ++ List.replicate k .un)).bind outD
def fnW (k : Nat) (m : Sg) (ds : List PyData) : M PyData := (m (.well :: ds.map .im ++ List.replicate k .un)).bind outD
section
variable {K : PySem.W.Frag} {T : Addr → Prop} {W : Addr → Prop} {H : Hp}
theorem start_im {c : Fc} (eK : c.K = K) : ∀ {vs : List V} {ds : List PyData} (k : Nat), DaL W K H vs ds → ∀ (i : Nat) (z : Cell), (ds.map Cell.im ++ List.replicate k .un)[i]? = some z → CellAt c W H (vs.map some ++ List.replicate k none)[i]? z
  | _, _, k, .nil, i, z, e => by
    rw [List.map_nil, List.nil_append, List.getElem?_replicate] at e
    split at e
    · cases e; trivial
    · cases e
  | _, _, k, .cons (v := v) (d := d) h r, 0, z, e => by
    simp at e
    subst e
    exact ⟨v, by simp, by rw [eK]; exact h⟩
  | _, _, k, .cons h r, i + 1, z, e => by
    have := start_im eK k r i z (by simpa using e)
    simpa using this
theorem start_no : ∀ {ds : List PyData} {k i : Nat} {es : List PyData}, (ds.map Cell.im ++ List.replicate k .un)[i]? ≠ some (.ow es)
  | [], k, i, es, e => by
    rw [List.map_nil, List.nil_append, List.getElem?_replicate] at e
    split at e <;> cases e
  | d :: ds, k, 0, es, e => by simp at e
  | d :: ds, k, i + 1, es, e => start_no (ds := ds) (k := k) (i := i) (es := es) (by simpa using e)
theorem sr_start {vs : List V} {ds : List PyData} {k : Nat} (h : DaL W K H vs ds) (lw : LW T W H) : Sr (fc K T none W H) W H (vs.map some ++ List.replicate k none) (ds.map .im ++ List.replicate k .un) where
  len := by simp [h.length]
  at' := start_im rfl k h
  sep := fun i j a ds es n e1 => (start_no e1).elim
  wok := fun w e => nomatch e
  sub := fun _ w => w
  lw := lw
  new := fun a w n => (n w).elim
  ch0 := fun b o _ _ e => e
theorem sr_startW {w : Addr} {vs : List V} {ds : List PyData} {k : Nat} (hw : W w) (wl : Wl H w) (h : DaL W K H vs ds) (lw : LW T W H) : Sr (fc K T (some w) W H) W H ((V.ref w :: vs).map some ++ List.replicate k none) (.well :: ds.map .im ++ List.replicate k .un) where
  len := by simp [h.length]
  at' := fun i z e => by
    cases i with
    | zero =>
      simp at e
      subst e
      exact ⟨w, rfl, by simp⟩
    | succ i =>
      have := start_im (c := fc K T (some w) W H) rfl k h i z (by simpa using e)
      simpa using this
  sep := fun i j a ds es n e1 => by
    cases i with
    | zero => simp at e1
    | succ i => exact (start_no (by simpa using e1)).elim
  wok := fun v e => by cases e; exact ⟨hw, wl⟩
  sub := fun _ w => w
  lw := lw
  new := fun a w n => (n w).elim
  ch0 := fun b o _ _ e => e
/-- a body of data keeps the def's promise -/
theorem body_d {vs : List V} {Q : VK} {E : XK} {N : List Str} {n k : Nat} {m : Sg} (hN : N.length = n + k) (h : spD K T n (fnD k m) vs H Q E) : ∃ c : Fc, c.K = K ∧ c.T = T ∧ c.ow = none ∧ tSF c m { nx := fun _ H' => Q .non H', rt := Q } (start N vs) H := by
  obtain ⟨W, ds, h1, lw, l, q⟩ := h
  have q : (m (ds.map .im ++ List.replicate k .un)).run fun o => (outD o).run fun d => ∀ H' v, Ch (fc K T none W H) H H' → Da W K H' v d → Q v H' := q
  refine ⟨fc K T none W H, rfl, rfl, rfl, W, ds.map .im ++ List.replicate k .un, ?_, (m _).mono (fun o q => ?_) q⟩
  · unfold L2.start
    rw [show N.length - vs.length = k by rw [h1.length, l]; omega]
    exact sr_start h1 lw
  · cases o with
    | rt d => exact q
    | nx Γ => exact fun W' σ' H' S _ _ => q H' _ S.ret .non
    | bk Γ => exact q.elim
    | ct Γ => exact q.elim
theorem body_w {vs : List V} {Q : VK} {E : XK} {N : List Str} {n k : Nat} {m : Sg} (hN : N.length = n + 1 + k) (h : spW K T n (fnW k m) vs H Q E) : ∃ c : Fc, c.K = K ∧ c.T = T ∧ tSF c m { nx := fun _ H' => Q .non H', rt := Q } (start N vs) H := by
  obtain ⟨w, W, ds, us, rfl, hw, wl, h1, lw, l, q⟩ := h
  have q : (m (.well :: ds.map .im ++ List.replicate k .un)).run fun o => (outD o).run fun d => ∀ H' v, Ch (fc K T (some w) W H) H H' → Da W K H' v d → Q v H' := q
  refine ⟨fc K T (some w) W H, rfl, rfl, W, .well :: ds.map .im ++ List.replicate k .un, ?_, (m _).mono (fun o q => ?_) q⟩
  · unfold L2.start
    rw [show N.length - (V.ref w :: us).length = k by rw [List.length_cons, h1.length, l]; omega]
    exact sr_startW hw wl h1 lw
  · cases o with
    | rt d => exact q
    | nx Γ => exact fun W' σ' H' S _ _ => q H' _ S.ret .non
    | bk Γ => exact q.elim
    | ct Γ => exact q.elim
theorem spD.len {n : Nat} {g : List PyData → M PyData} {vs : List V} {Q : VK} {E : XK} (h : spD K T n g vs H Q E) : vs.length = n := by
  obtain ⟨W, ds, h1, _, l, _⟩ := h
  rw [h1.length, l]
theorem spW.len {n : Nat} {g : List PyData → M PyData} {vs : List V} {Q : VK} {E : XK} (h : spW K T n g vs H Q E) : vs.length = n + 1 := by
  obtain ⟨w, W, ds, us, rfl, _, _, h1, _, l, _⟩ := h
  rw [List.length_cons, h1.length, l]
/-- one function for another that comes to the same -/
theorem spD.imp {n : Nat} {g g' : List PyData → M PyData} (hg : ∀ ds p, ds.length = n → (g' ds).run p → (g ds).run p) {vs : List V} {Q : VK} {E : XK} (h : spD K T n g' vs H Q E) : spD K T n g vs H Q E := by
  obtain ⟨W, ds, h1, lw, l, q⟩ := h
  exact ⟨W, ds, h1, lw, l, hg ds _ l q⟩
theorem spW.imp {n : Nat} {g g' : List PyData → M PyData} (hg : ∀ ds p, ds.length = n → (g' ds).run p → (g ds).run p) {vs : List V} {Q : VK} {E : XK} (h : spW K T n g' vs H Q E) : spW K T n g vs H Q E := by
  obtain ⟨w, W, ds, us, e, a, b, h1, lw, l, q⟩ := h
  exact ⟨w, W, ds, us, e, a, b, h1, lw, l, hg ds _ l q⟩
end
section
variable {X : Cx} {c : Fc} {e : Expr} {F : List Cell → M (List PyData)} {n i : Nat} {g : List PyData → M PyData} {E : XK}
theorem ch_none {T W H H' H1} {K : PySem.W.Frag} {W1 : Addr → Prop} (e : T = c.T) (wl : ∀ w, c.ow = some w → Wl H w) (lw : LW c.T W H) (k : Ch (fc K T none W1 H1) H H') : Ch c H H' := by
  subst e
  refine ⟨fun b o _ t h => k.kp b o (fun z => nomatch z) t h, k.tb, fun w e => ?_⟩
  obtain ⟨x, y, z, q, r⟩ := wl w e
  exact ⟨x, y, z, k.kp w _ (fun z => nomatch z) (lw.noT q fun _ z => by cases z) q, r⟩
theorem w_callD {σ : L2.St} {H : Hp} {Q : VK} (q : tF c (mFn (fun ds => (M.gd (ds.length = n)).bind fun _ => g ds) F) σ H Q) : tCall (spD c.K c.T n g) [] E (tAF c F) σ H Q := by
  obtain ⟨W, Γ, S, q⟩ := q
  refine ⟨W, Γ, S, (F Γ).mono (fun ds q H1 vs k a => ?_) q⟩
  show spD c.K c.T n g (vs ++ []) H1 Q E
  rw [List.append_nil]
  have S1 := S.ch k
  exact ⟨W, ds, a, S1.lw, q.1, (g ds).mono (fun d z H' v k2 da => z H' v (k.trans (ch_none rfl S1.wl S1.lw k2)) da) q.2⟩
theorem pf_callD (h : PE X e (tCall (spD c.K c.T n g) [] E (tAF c F))) : PE X e (tF c (mFn (fun ds => (M.gd (ds.length = n)).bind fun _ => g ds) F)) := pe_weak h fun σ H Q q => w_callD q
/-- a call with the well ahead -/
theorem pf_callW (h : PE X e (tCall (spW c.K c.T n g) [] E (tCons (tVar i) (tAF c F)))) : PE X e (tF c fun Γ => match Γ[i]? with
    | some .well => mFn (fun ds => (M.gd (ds.length = n)).bind fun _ => g ds) F Γ
    | _ => .fail) := pe_weak h fun σ H Q ⟨W, Γ, S, q⟩ => by
  dsimp only at q
  split at q
  · rename_i e1
    obtain ⟨w, ow, e2⟩ := S.at' i _ e1
    refine ⟨_, e2, W, Γ, S, (F Γ).mono (fun ds q H1 vs k a => ?_) q⟩
    have S1 := S.ch k
    refine ⟨w, W, ds, vs, by rw [List.append_nil], S1.ww w ow, S1.wl w ow, a, S1.lw, q.1, (g ds).mono (fun d z H' v k2 da => z H' v (k.trans ⟨?_, k2.tb, ?_⟩) da) q.2⟩
    · rw [ow]; exact k2.kp
    · rw [ow]; exact k2.wl
  · exact q.elim
/-- keywords alone -/
theorem pf_callK {ks : Nat} {G : {α : Type} → List α → List α → List α} {t : TA} (h : PE X e (tCK (spD c.K c.T n g) 0 ks G E tNil t)) (hG : ∀ {W : Addr → Prop} {H : Hp} {vs : List V} {ds : List PyData}, DaL W c.K H vs ds → DaL W c.K H (G [] vs) (G [] ds))
    (ht : ∀ σ H R, tAF c F σ H R → t σ H R) : PE X e (tF c (mFn (fun ds => (M.gd (ds.length = ks ∧ (G [] ds).length = n)).bind fun _ => g (G [] ds)) F)) := pe_weak h fun σ H Q ⟨W, Γ, S, q⟩ => ht _ _ _ ⟨W, Γ, S, (F Γ).mono (fun ds q H1 vs k a => by
  have S1 := S.ch k
  exact ⟨rfl, by rw [a.length]; exact q.1.1, W, G [] ds, hG a, S1.lw, q.1.2, (g (G [] ds)).mono (fun d z H' v k2 da => z H' v (k.trans (ch_none rfl S1.wl S1.lw k2)) da) q.2⟩) q⟩
theorem pkf_nil : PK X [] (tAF c mNil) := ⟨fun pos pins s σ H R I ⟨W, Γ, S, q⟩ => pk_nil.run pos pins s σ H R I (q H _ S.refl .nil)⟩
theorem pkf_cons {x : Option Str} {f : List Cell → M PyData} {kws : List Keyword} {kpos : Pos} (ha : PE X e (tF c f)) (hr : PK X kws (tAF c F)) : PK X (⟨x, e, kpos⟩ :: kws) (tAF c (mCons f F)) :=
  ⟨fun pos pins s σ H R I ⟨W, Γ, S, q⟩ => (pk_cons ha hr).run pos pins s σ H R I ⟨W, Γ, S, (f Γ).mono (fun a q H1 x k1 da => ⟨W, Γ, S.ch k1, (F Γ).mono (fun ds q H2 vs k2 dd => q H2 _ (k1.trans k2) (.cons ((S.ch k1).da k2 da) dd)) q⟩) q⟩⟩
end
end Dl

set_option Elab.async false
set_option linter.all false
set_option maxRecDepth 100000
set_option maxHeartbeats 4000000
set_option autoImplicit false
/-! Dz: further rules by data. -/
namespace Dl
open PySem PySem.Spec PyProof.Rows L2 Gd RZ
section
variable {X : Cx} {c : Fc} {e e1 e2 : Expr} {es : List Expr} {st : Stmt} {f g : List Cell → M PyData} {F : List Cell → M (List PyData)} {pos : Pos} {i : Nat}
/-! assignments by their readings -/
theorem sf_set {te : TE} (h : PS X st (tAsg te (gName i))) (w : ∀ σ H Q, tF c f σ H Q → te σ H Q) : PS X st (tSF c (sSet i f)) := ps_weak h fun D σ H ⟨W, Γ, S, q⟩ => w _ _ _ ⟨W, Γ, S, (f Γ).mono (fun d q H1 v k a => q.nx1 S k ((S.ch k).set a)) q⟩
theorem sf_set1 (h : PS X st (tAsg (tF c f) (gName i))) : PS X st (tSF c (sSet i f)) := sf_set h fun _ _ _ q => q
theorem sf_ownW {te : TE} (h : PS X st (tAsg te (gName i))) (w : ∀ σ H Q, tN c F σ H Q → te σ H Q) : PS X st (tSF c (sOwn i F)) := ps_weak h fun D σ H ⟨W, Γ, S, q⟩ => w _ _ _ ⟨W, Γ, S, (F Γ).mono (fun ds q H1 p xs k hp e r => q _ _ H1 (S.own k hp e r) (S.kwC k) fun a z => z.imp id fun w => by rw [w]; exact hp) q⟩
def mOfN (F : List Cell → M (List PyData)) : List Cell → M PyData := fun Γ => (F Γ).bind fun ds => .ret (.list ds)
theorem tN_of {σ : L2.St} {H : Hp} {Q : VK} (q : tF c (mOfN F) σ H Q) : tN c F σ H Q := by
  obtain ⟨W, Γ, S, q⟩ := q
  exact ⟨W, Γ, S, (F Γ).mono (fun ds q H' p xs k hp e r => q H' _ k (.lst (S.lw.dom hp) e (r.less fun a z => .inl z))) q⟩
theorem pn_m (h : PE X e (tN c F)) : PE X e (tF c (mOfN F)) := pn_f h
/-! names of the top -/
theorem pf_gint {x : Str} {i : Int} (hg : Gl X x) (hm : ∃ t, X.mg x = some (.int i t)) (hd : (x == ("__debug__" : Str)) = false := by decide) : PE X (.Name x pos) (tF c (mCon (.int i))) := by
  obtain ⟨t, hm⟩ := hm
  exact pf_tc (pe_glob hg hm (v := .int i) ⟨t, rfl⟩ hd) fun _ _ => .int i
/-- a constant of the top: what it comes to at each heap -/
def GDat (K : PySem.W.Frag) (mg : Str → Option Value) (x : Str) (d : PyData) : Prop := ∃ v u, mg x = some u ∧ RelV v u ∧ ∀ W H, Da W K H v d
theorem pf_gdat {x : Str} {d : PyData} (hg : Gl X x) (hm : GDat c.K X.mg x d) (hd : (x == ("__debug__" : Str)) = false := by decide) : PE X (.Name x pos) (tF c (mCon d)) := by
  obtain ⟨v, u, h1, h2, h3⟩ := hm
  exact pf_tc (pe_glob hg h1 h2 hd) h3
/-! parts -/
def cutD (xs : List PyData) (lo hi : Option Int) : List PyData := (xs.drop (HT.sIx xs.length 0 lo)).take (HT.sIx xs.length xs.length hi - HT.sIx xs.length 0 lo)
theorem cutD_da {W : Addr → Prop} {H : Hp} {xs : List V} {ds : List PyData} (r : DaL W c.K H xs ds) (lo hi : Option Int) : DaL W c.K H (cutV xs lo hi) (cutD ds lo hi) := by
  unfold cutV cutD
  rw [r.length]
  exact (r.drop _).take _
def o_cut (lo hi : Option Int) : PyData → M PyData
  | .tuple a => .ret (.tuple (cutD a lo hi))
  | .list a => .ret (.list (cutD a lo hi))
  | _ => .fail
def pNone : List Cell → M (Option Int) := fun _ => .ret none
def pSome (f : List Cell → M PyData) : List Cell → M (Option Int) := fun Γ => (f Γ).bind fun d => match d with
  | .int i => .ret (some i)
  | _ => .fail
def tOF (c : Fc) (p : List Cell → M (Option Int)) : TO := fun σ H R => ∃ W Γ, Sr c W H σ Γ ∧ (p Γ).run fun o => ∀ H', Ch c H H' → R o H'
theorem po_weak {e : Option Expr} {t t' : TO} (h : PO X e t) (f : ∀ σ H Q, t' σ H Q → t σ H Q) : PO X e t' := ⟨fun pins s σ H Q I q => h.run pins s σ H Q I (f σ H Q q)⟩
theorem pof_none : PO X none (tOF c pNone) := po_weak po_none fun σ H Q ⟨W, Γ, S, q⟩ => q H S.refl
theorem pof_some (h : PE X e (tF c f)) : PO X (some e) (tOF c (pSome f)) := po_weak (po_some h) fun σ H Q ⟨W, Γ, S, q⟩ => ⟨W, Γ, S, (f Γ).mono (fun d q H1 v k a => by
  dsimp only at q
  split at q
  · cases a; exact ⟨_, rfl, q H1 k⟩
  · exact q.elim) q⟩
def mCut (f : List Cell → M PyData) (lo hi : List Cell → M (Option Int)) : List Cell → M PyData := fun Γ => (f Γ).bind fun d => (lo Γ).bind fun l => (hi Γ).bind fun h => o_cut l h d
theorem cut_all {xs : List V} {lo hi : Option Int} (h : HT.sIx xs.length 0 lo = 0 ∧ HT.sIx xs.length xs.length hi = xs.length) : cutV xs lo hi = xs := by
  unfold cutV
  rw [h.1, h.2]
  simp
theorem pf_cut {lo hi : Option Expr} {pl ph : List Cell → M (Option Int)} {p2 : Pos} (eK : X.K = c.K) (he : PE X e (tG c f)) (hl : PO X lo (tOF c pl)) (hu : PO X hi (tOF c ph)) : PE X (.Subscript e (.Slice lo hi none p2) pos) (tF c (mCut f pl ph)) :=
  pe_weak (pe_slice (k_sl eK) he hl hu) fun σ H Q ⟨W, Γ, S, q⟩ => ⟨W, Γ, S, (f Γ).mono (fun d q H1 x k1 da => ⟨W, Γ, S.ch k1, (pl Γ).mono (fun l q H2 k2 => ⟨W, Γ, (S.ch k1).ch k2, (ph Γ).mono (fun h q H3 k3 => by
    have k : Ch c H H3 := (k1.trans k2).trans k3
    have S3 := S.ch k
    have d3 := (S.ch k1).pk (k2.trans k3) da
    unfold o_cut at q
    split at q
    · rename_i a
      obtain ⟨p, xs, rfl, h1, r1⟩ := pk_tup d3
      refine .inr ⟨p, xs, rfl, h1, fun z => ?_, fun z p hp => ?_⟩
      · have e := cut_all z
        have r2 := cutD_da r1 l h
        rw [e] at r2
        exact q H3 _ k (.tup h1 r2)
      · exact q _ _ (k.trans (S3.new1 hp)) (.tup (SqT.of upd_same) ((cutD_da r1 l h).same (same_new hp)))
    · rename_i a
      obtain ⟨p, xs, rfl, h1, r1⟩ := pk_lst d3
      exact .inl ⟨p, xs, rfl, SqL.of h1, fun p hp => q _ _ (k.trans (S3.new1 hp)) (.lst (S3.lw.dom hp) upd_same ((cutD_da r1 l h).same (same_new hp)))⟩
    · exact q.elim) q⟩) q⟩) q⟩
def o_rev : PyData → M PyData
  | .tuple a => .ret (.tuple a.reverse)
  | .list a => .ret (.list a.reverse)
  | _ => .fail
end
end Dl

set_option Elab.async false
set_option linter.all false
set_option maxRecDepth 100000
set_option maxHeartbeats 4000000
set_option autoImplicit false
/-! Dq: t[::-1] of a tuple; t * k; max and min of tuples. -/
namespace Dl
open PySem PySem.Spec PyProof.Rows L2 Gd RZ HT
section
variable {prog : Program} {w : World} {A : Around} {E : Value → Shared → Prop} {s : Shared}
theorem adjust_rev (n : Nat) : Builtin.Slice.sliceAdjust none none (-1) (n : Int) = ((n : Int) - 1, -1) := by
  unfold Builtin.Slice.sliceAdjust
  simp
theorem places_rev (n : Nat) : Builtin.Slice.slicePlaces ((n : Int) - 1) (-1) (-1) = n := by
  unfold Builtin.Slice.slicePlaces
  by_cases h : n = 0
  · subst h; simp
  · simp
    omega
theorem sliceApplied_rev {sl : Addr} {t : Tok} {n : Nat} {Q : Int × Int × Nat → Shared → Prop} (hs : s.heap.IsSliceOf sl .none .none (.int (-1) t))
    (h : Q ((n : Int) - 1, -1, n) s) : wpAny (model prog w) A (Builtin.Slice.sliceApplied (.ref sl) (pure (n : Int))) Q E s := by
  obtain ⟨os, hos, hcs, hds⟩ := id hs
  unfold Builtin.Slice.sliceApplied Builtin.Slice.sliceFields
  refine wpAny_bind (wpAny_bind (wpAny_field hos hds (x := .none) rfl (wpAny_bind (wpAny_field hos hds (x := .none) rfl (wpAny_bind (wpAny_field hos hds (x := .int (-1) t) rfl (wpAny_pure ?_)))))))
  refine wpAny_bind (slicePart_int ?_)
  show wpAny _ _ (if ((-1 : Int) == 0) = true then _ else _) _ _ s
  rw [if_neg (by decide)]
  refine wpAny_bind (slicePart_none (wpAny_bind (slicePart_none (wpAny_bind (wpAny_pure ?_)))))
  show wpAny _ _ (match Builtin.Slice.sliceAdjust none none (-1) (n : Int) with | (lo, hi) => pure (lo, (-1 : Int), Builtin.Slice.slicePlaces lo hi (-1))) _ _ s
  rw [adjust_rev n]
  show wpAny _ _ (pure ((n : Int) - 1, (-1 : Int), Builtin.Slice.slicePlaces ((n : Int) - 1) (-1) (-1))) _ _ s
  rw [places_rev]
  exact wpAny_pure h
theorem fm_congr {α β : Type} {f g : α → Option β} : ∀ {l : List α}, (∀ a ∈ l, f a = g a) → l.filterMap f = l.filterMap g
  | [], _ => rfl
  | a :: l, h => by
    rw [List.filterMap_cons, List.filterMap_cons, h a (List.mem_cons_self ..), fm_congr fun b m => h b (List.mem_cons_of_mem _ m)]
theorem pick_rev (xs : Array Value) : ((List.range xs.size).filterMap fun (m : Nat) => xs[(((xs.size : Int) - 1) + (m : Int) * (-1)).toNat]?).toArray = xs.toList.reverse.toArray := by
  have e : ((List.range xs.size).filterMap fun (m : Nat) => xs[(((xs.size : Int) - 1) + (m : Int) * (-1)).toNat]?) = ((List.range xs.size).map fun k => xs.size - 1 - k).filterMap (xs[·]?) := by
    rw [List.filterMap_map]
    refine fm_congr fun m hm => ?_
    have := List.mem_range.mp hm
    show xs[(((xs.size : Int) - 1) + (m : Int) * (-1)).toNat]? = xs[xs.size - 1 - m]?
    rw [show (((xs.size : Int) - 1) + (m : Int) * (-1)).toNat = xs.size - 1 - m by omega]
  rw [e, PySem.W.krv_range, List.filterMap_reverse, PySem.W.krv_all]
theorem getItem_tuple_rev {t sl : Addr} {items : Array Value} {u : Tok} {Q : Value → Shared → Prop} (ht : IsTup s.heap t items) (hs : s.heap.IsSliceOf sl .none .none (.int (-1) u))
    (h : Q (.ref s.heap.objs.size) { s with heap := s.heap.push { cls := .type "tuple", data := .seq items.toList.reverse.toArray } }) (hsz : items.size ≤ sizeLine) : wpAny (model prog w) A (getItem (.ref t) (.ref sl)) Q E s := by
  have htake : sizeOk (.seq items.toList.reverse.toArray) := by
    show items.toList.reverse.toArray.size ≤ sizeLine
    rw [List.size_toArray, List.length_reverse, Array.length_toList]
    exact hsz
  obtain ⟨os, hos, hcs, hds⟩ := id hs
  have hTs : s.TypeIs (.ref sl) "slice" := ⟨os, hos, hcs⟩
  unfold getItem
  try with_reducible refine wpAny_holding ?_
  first | refine wpAny_bind (wpAny_pure ?_) | skip
  refine wpAny_bind (wpAny_sequenceKey ht.typeIs (by decide) ?_)
  refine wpAny_bind (wpAny_callSpecial?_slot (name := Str.ofString "__getitem__") ht.typeIs PyProof.Rows.slot_tuple_getitem
    (wpAny_call_entry PyProof.Rows.slot_tuple_getitem ht.typeIs entry_tuple_getitem ?_ (args_tuple_getitem _ _)))
  show wpAny _ _ (Builtin.Tuple.tupleItemsOf (.ref t) >>= _) _ _ s
  refine wpAny_bind (tupleItemsOf_ ht ?_)
  refine wpAny_bind (wpAny_typeOf hTs ?_)
  rw [if_pos (by decide)]
  refine wpAny_bind (sliceApplied_rev hs ?_)
  show wpAny _ _ (if (((items.size : Int) - 1) == 0 && (-1 : Int) == 1 && items.size == items.size) = true then _ else _) _ _ s
  rw [if_neg (by simp), pick_rev]
  first
    | exact wpAny_bind (m := Builtin.Tuple.tupleExact _) (wpAny_newObj_type (wpAny_pure ⟨_, rfl, wpAny_pure h⟩) htake)
    | exact wpAny_bind (m := Builtin.Tuple.tupleExact _) (wpAny_newObj_type (wpAny_bind (wpAny_pure (wpAny_pure ⟨_, rfl, wpAny_pure h⟩))) htake)
    | exact wpAny_bind (wpAny_bind (m := Builtin.Tuple.tupleExact _) (wpAny_newObj_type (wpAny_pure (wpAny_pure ⟨_, rfl, wpAny_pure h⟩)) htake))
    | exact wpAny_bind (wpAny_bind (m := Builtin.Tuple.tupleExact _) (wpAny_newObj_type (wpAny_pure ⟨_, rfl, wpAny_pure h⟩) htake))
end
section
/-! ### t * k, k up to 1 -/
theorem tuple_mul1 (l : Addr) (items : Array Value) (n : Nat) (dd : Option Addr) (sl : Array (Option Value)) (x : Int) (u : Tok) (c0 : (decide (x < -(2 ^ 63)) || decide (x ≥ 2 ^ 63)) = false) (c1 : (items.isEmpty || x == 1) = true) :
    Meets (Builtin.«tuple.__mul__» ⟨[.ref l, .int x u], []⟩) (fun _ R s => s.heap.get? l = some { cls := .type "tuple", dict := dd, data := .seq items n, slots := sl } ∧ R (.ok (.ret (Value.ref l))) s) :=
  .of_wp fun prog w A R s h => by
    obtain ⟨hp, g, d, tk, os⟩ := s
    obtain ⟨hl, h⟩ := h
    have f1 := AutoSeq1.idx_int
    wp_walk using wpAny_loadPart' hl
    repeat (first
      | (refine wpAny_ite_false (decide_eq_false (by rw [c0]; exact Bool.false_ne_true)) ?_; wp_walk using wpAny_loadPart' hl)
      | (refine wpAny_ite_true (decide_eq_true c1) ?_; wp_walk using wpAny_loadPart' hl))
    exact ⟨_, rfl, h⟩
theorem tuple_mul0 (l : Addr) (items : Array Value) (n : Nat) (dd : Option Addr) (sl : Array (Option Value)) (x : Int) (u : Tok) (c0 : (decide (x < -(2 ^ 63)) || decide (x ≥ 2 ^ 63)) = false) (c1 : (items.isEmpty || x == 1) = false) (c2 : (decide (x ≤ 0) || items.isEmpty) = true) :
    Meets (Builtin.«tuple.__mul__» ⟨[.ref l, .int x u], []⟩) (fun _ R s => s.heap.get? l = some { cls := .type "tuple", dict := dd, data := .seq items n, slots := sl } ∧ R (.ok (.ret (Value.ref s.heap.objs.size))) { s with heap := s.heap.push { cls := Value.type "tuple", data := Data.seq #[] }, toks := s.toks }) :=
  .of_wp fun prog w A R s h => by
    obtain ⟨hp, g, d, tk, os⟩ := s
    obtain ⟨hl, h⟩ := h
    have f1 := AutoSeq1.idx_int
    wp_walk using wpAny_loadPart' hl
    repeat (first
      | (refine wpAny_ite_false (decide_eq_false (by rw [c0]; exact Bool.false_ne_true)) ?_; wp_walk using wpAny_loadPart' hl)
      | (refine wpAny_ite_false (decide_eq_false (by rw [c1]; exact Bool.false_ne_true)) ?_; wp_walk using wpAny_loadPart' hl)
      | (refine wpAny_ite_true (decide_eq_true c2) ?_; wp_walk using wpAny_loadPart' hl))
    exact ⟨_, rfl, h⟩
end
/-! ### xs[::-1], of either kind -/
def tRevA (K : PySem.W.Frag) (te : TE) : TE := fun σ H Q => te σ H fun x H1 => ∃ a xs, x = .ref a ∧ ((SqL K H1 a xs ∧ ∀ p, H1 p = none → Q (.ref p) (upd H1 p (.lst xs.reverse))) ∨ (SqT K H1 a xs ∧ ∀ p, H1 p = none → Q (.ref p) (upd H1 p (.tup xs.reverse))))
section
variable {X : Cx} {c : Fc}
theorem pe_revA {e : Expr} {te : TE} {k : Nat} {p1 p2 p3 pos : Pos} (he : PE X e te) : PE X (.Subscript e (.Slice none none (some (.UnaryOp .USub (.Constant (.int 1) k p1) p2)) p3) pos) (tRevA X.K te) := by
  refine ⟨fun pins s σ H Q I h => ?_⟩
  refine Subscript_ (thn (he.run pins s σ H _ I h) fun v s1 ⟨x, H1, I1, r1, q1⟩ => ?_)
  obtain ⟨a, xs, ex, hq⟩ := q1
  subst ex
  cases r1
  have hst : PO X (some (.UnaryOp .USub (.Constant (.int 1) k p1) p2)) (tPart (tUn (rU fun i => .int (-i)) (tC (.int 1)))) := po_some (pe_un un_neg pe_int)
  refine wpAny_Slice (thn (po_none.run pins s1 σ H1 (fun o H2 => o = none ∧ H2 = H1) I1 ⟨rfl, rfl⟩) fun vl s2 ⟨l, H2, I2, pl, el, e2⟩ => ?_)
  subst el e2
  refine thn (po_none.run pins s2 σ H2 (fun o H3 => o = none ∧ H3 = H2) I2 ⟨rfl, rfl⟩) fun vu s3 ⟨u, H3, I3, pu, eu, e3⟩ => ?_
  subst eu e3
  refine thn (hst.run pins s3 σ H3 (fun o H4 => o = some (-1) ∧ H4 = H3) I3 ⟨1, rfl, -1, rfl, rfl, rfl⟩) fun vs s4 ⟨o, H4, I4, ps, eo, e4⟩ => ?_
  subst eo e4
  have I5 : Inv X pins σ H4 { s4 with heap := s4.heap.push { cls := .type "slice", data := .fields #[vl, vu, vs] } } := I4.kept (t' := s4.toks) fun b ob q => Heap.get?_push_of_some _ q
  show wpAny (model X.prog X.w) X.A (subscriptTail e (.Slice none none (some (.UnaryOp .USub (.Constant (.int 1) k p1) p2)) p3) (.ref a) (.ref s4.heap.objs.size)) (EP X pins σ Q) X.xe { s4 with heap := s4.heap.push { cls := .type "slice", data := .fields #[vl, vu, vs] } }
  rcases hq with ⟨hx, q⟩ | ⟨hx, q⟩
  · obtain ⟨its, r, ht, hz⟩ := I5.list hx
    have hlen := r.length
    refine tail_any (ops := [.ref a, .ref s4.heap.objs.size]) ht.isList.typeIs (PySem.slot_list_getitem.lookup) ?_ (by with_unfolding_all rfl)
    refine wpAny_getItem_list_slice ht.isList (Heap.IsSliceOf.new _ vl vu vs) pl pu ps (by decide) ?_ (by rw [List.size_toArray]; omega)
    rw [PySem.W.krv_pick]
    refine ⟨.ref _, _, I5.laid (t' := s4.toks) (o := .lst xs.reverse) (fun b ob q => Heap.get?_push_of_some _ q) (Nat.le_refl _) ?_, rfl, q _ (I5.hok.fresh (Nat.le_refl _))⟩
    exact ⟨by rw [List.length_reverse]; exact hz, _, 0, r.reverse, Heap.get?_push_size _ rfl⟩
  · obtain ⟨its, r, ht, hz⟩ := I5.tuple hx
    have hlen := r.length
    refine tail_any (ops := [.ref a, .ref s4.heap.objs.size]) ht.typeIs (PyProof.Rows.slot_tuple_getitem.lookup) ?_ (by with_unfolding_all rfl)
    cases pl
    cases pu
    cases ps with
    | int i t =>
      refine getItem_tuple_rev ht (Heap.IsSliceOf.new _ .none .none _) ?_ (by rw [List.size_toArray]; omega)
      refine ⟨.ref _, _, I5.laid (t' := s4.toks) (o := .tup xs.reverse) (fun b ob q => Heap.get?_push_of_some _ q) (Nat.le_refl _) ?_, rfl, q _ (I5.hok.fresh (Nat.le_refl _))⟩
      exact ⟨by rw [List.length_reverse]; exact hz, _, r.reverse, IsTup.new _ _⟩
theorem pf_rev {e : Expr} {f : List Cell → M PyData} {k : Nat} {p1 p2 p3 pos : Pos} (eK : X.K = c.K) (he : PE X e (tG c f)) : PE X (.Subscript e (.Slice none none (some (.UnaryOp .USub (.Constant (.int 1) k p1) p2)) p3) pos) (tF c (mUn o_rev f)) :=
  pe_weak (pe_revA he) fun σ H Q ⟨W, Γ, S, q⟩ => by
    rw [eK]
    refine ⟨W, Γ, S, (f Γ).mono (fun d q H1 x k da => ?_) q⟩
    have S1 := S.ch k
    unfold o_rev at q
    split at q
    · obtain ⟨p, xs, rfl, h1, r1⟩ := pk_tup da
      exact ⟨p, xs, rfl, .inr ⟨h1, fun p hp => q _ _ (k.trans (S1.new1 hp)) (.tup (SqT.of upd_same) (r1.rev.same (same_new hp)))⟩⟩
    · obtain ⟨p, xs, rfl, h1, r1⟩ := pk_lst da
      exact ⟨p, xs, rfl, .inl ⟨SqL.of h1, fun p hp => q _ _ (k.trans (S1.new1 hp)) (.lst (S1.lw.dom hp) upd_same (r1.rev.same (same_new hp)))⟩⟩
    · exact q.elim
/-! ### t * k for all k -/
def rRepX (K : PySem.W.Frag) : R2 := fun x y H Q => ∃ l k xs, x = .ref l ∧ y = .int k ∧ SqT K H l xs ∧ -1000 ≤ k ∧ k ≤ 1000 ∧ xs.length ≤ 1000 ∧ (xs = [] ∨ k = 1 → Q (.ref l) H) ∧ (xs ≠ [] → k ≤ 0 → ∀ p, H p = none → Q (.ref p) (upd H p (.tup []))) ∧
  (xs ≠ [] → 2 ≤ k → ∀ p, H p = none → Q (.ref p) (upd H p (.tup (List.replicate k.toNat xs).flatten)))
theorem op_repX : OpR X (binaryOp .Mult) (rRepX X.K) := by
  intro pins s σ H x y v u Q I rx ry h
  obtain ⟨l, k, xs, rfl, rfl, hT, h0, h2, hz, q1, q0, q2⟩ := h
  have c0 : (decide (k < -(2 ^ 63)) || decide (k ≥ 2 ^ 63)) = false := by
    rw [decide_eq_false (by omega), decide_eq_false (by omega)] <;> rfl
  by_cases hk : 2 ≤ k ∧ xs ≠ []
  · exact op_repT pins s σ H _ _ v u Q I rx ry ⟨l, k, xs, rfl, rfl, hT, hk.2, hk.1, h2, hz, q2 hk.2 hk.1⟩
  · cases rx
    obtain ⟨t, rfl⟩ := ry
    obtain ⟨its, r, ⟨⟨cls, dd, data, sl⟩, ho, hc, n, hd⟩, hs⟩ := I.tuple hT
    simp only at hc hd
    subst hc hd
    have hle : its.length = xs.length := r.length.symm
    by_cases h1 : xs = [] ∨ k = 1
    · have c1 : (its.toArray.isEmpty || k == 1) = true := by
        rcases h1 with h1 | h1
        · have : its = [] := List.eq_nil_of_length_eq_zero (by rw [hle, h1]; rfl)
          rw [this]
          rfl
        · rw [h1]
          simp
      refine wpAny_binaryOp_repeat_ref (T := "tuple") (U := "int") (by decide) ⟨_, ho, rfl⟩ (fun s' => typeIs_int s' k t) noFill_tuple_mul F.fills_int_mul F.slot_int_rmul repeat_tuple F.slot_int_index.lookup
        (call_meets F.slot_int_rmul (typeIs_int s k t) F.entry_int_rmul (F.args_int_rmul_2 _ _) (int_rmul_tuple k t l its.toArray n dd sl)
          ⟨ho, rfl, ⟨_, ho, rfl⟩, call_meets F.slot_tuple_mul ⟨_, ho, rfl⟩ F.entry_tuple_mul (F.args_tuple_mul_2 _ _) (tuple_mul1 l its.toArray n dd sl k t c0 c1) ⟨ho, ?_⟩⟩)
      exact ⟨.ref l, H, I, rfl, q1 h1⟩
    · have hx : xs ≠ [] := fun z => h1 (.inl z)
      have hk0 : k ≤ 0 := by
        by_cases z : 2 ≤ k
        · exact absurd ⟨z, hx⟩ hk
        · have : k ≠ 1 := fun z => h1 (.inr z)
          omega
      have c1 : (its.toArray.isEmpty || k == 1) = false := by
        have hi : its.toArray.isEmpty = false := by
          cases its with
          | nil => exact absurd (List.eq_nil_of_length_eq_zero hle.symm) hx
          | cons a b => rfl
        rw [hi, Bool.false_or]
        exact beq_eq_false_iff_ne.mpr (fun z => h1 (.inr z))
      have c2 : (decide (k ≤ 0) || its.toArray.isEmpty) = true := by
        rw [decide_eq_true hk0]
        rfl
      refine wpAny_binaryOp_repeat_ref (T := "tuple") (U := "int") (by decide) ⟨_, ho, rfl⟩ (fun s' => typeIs_int s' k t) noFill_tuple_mul F.fills_int_mul F.slot_int_rmul repeat_tuple F.slot_int_index.lookup
        (call_meets F.slot_int_rmul (typeIs_int s k t) F.entry_int_rmul (F.args_int_rmul_2 _ _) (int_rmul_tuple k t l its.toArray n dd sl)
          ⟨ho, rfl, ⟨_, ho, rfl⟩, call_meets F.slot_tuple_mul ⟨_, ho, rfl⟩ F.entry_tuple_mul (F.args_tuple_mul_2 _ _) (tuple_mul0 l its.toArray n dd sl k t c0 c1 c2) ⟨ho, ?_⟩⟩)
      refine ⟨.ref s.heap.objs.size, _, I.laid (t' := s.toks) (o := .tup []) (fun b ob q => Heap.get?_push_of_some _ q) (Nat.le_refl _) ?_, rfl, q0 hx hk0 _ (I.hok.fresh (Nat.le_refl _))⟩
      exact ⟨Nat.zero_le _, [], .nil, IsTup.new _ _⟩
def rMulX (K : PySem.W.Frag) : R2 := fun x y H Q => rI CMulA (fun i j => .int (i * j)) x y H Q ∨ rRepX K x y H Q ∨ rRep x y H Q
theorem k_mulX {K : PySem.W.Frag} (e : X.K = K) : OpR X (binaryOp .Mult) (rMulX K) := e ▸ op_mulI.or (op_repX.or op_rep)
def o_mulX : PyData → PyData → M PyData
  | .int i, .int j => (M.gd (CMulA i j)).bind fun _ => .ret (.int (i * j))
  | .tuple a, .int k => (M.gd (-1000 ≤ k ∧ k ≤ 1000 ∧ a.length ≤ 1000)).bind fun _ => .ret (.tuple (List.replicate k.toNat a).flatten)
  | .list a, .int k => (M.gd (0 ≤ k ∧ k ≤ 1000 ∧ a.length ≤ 1000)).bind fun _ => .ret (.list (List.replicate k.toNat a).flatten)
  | _, _ => .fail
theorem op2_mulX : Op2 c (rMulX c.K) o_mulX := by
  intro W H x y a b Q lw hx hy q
  unfold o_mulX at q
  split at q
  · rw [pk_int hx, pk_int hy]
    exact .inl ⟨_, _, rfl, rfl, q.1, q.2 H _ (Same.refl H) (.int _)⟩
  · rename_i a k
    obtain ⟨p, xs, rfl, h1, r1⟩ := pk_tup hx
    rw [pk_int hy]
    obtain ⟨⟨z1, z2, z3⟩, q⟩ := q
    have l1 := r1.length
    refine .inr (.inl ⟨p, k, xs, rfl, rfl, h1, z1, z2, by omega, fun z => ?_, fun z0 z p hp => ?_, fun z0 z p hp => q _ _ (same_new hp) (.tup (SqT.of upd_same) ((r1.reps _).same (same_new hp)))⟩)
    · refine q H _ (Same.refl H) (.tup h1 ?_)
      rcases z with z | z
      · subst z
        cases r1
        have : (List.replicate k.toNat ([] : List PyData)).flatten = [] := by simp
        rw [this]
        exact .nil
      · subst z
        have : (List.replicate (1 : Int).toNat a).flatten = a := by simp
        rw [this]
        exact r1
    · refine q _ _ (same_new hp) (.tup (SqT.of upd_same) ?_)
      have : k.toNat = 0 := by omega
      rw [this]
      exact .nil
  · rename_i a k
    obtain ⟨p, xs, rfl, h1, r1⟩ := pk_lst hx
    rw [pk_int hy]
    obtain ⟨⟨z1, z2, z3⟩, q⟩ := q
    have l1 := r1.length
    refine .inr (.inr ⟨p, k, xs, rfl, rfl, h1, by omega, by omega, ?_, fun p hp => q _ _ (same_new hp) (.lst (lw.dom hp) upd_same ((r1.reps _).same (same_new hp)))⟩)
    have : xs.length * k.toNat ≤ 1000 * 1000 := Nat.mul_le_mul (by omega) (by omega)
    rw [sizeLine_eq]
    omega
  · exact q.elim
/-! ### max, min of a tuple of ints -/
theorem alike_ints : ∀ {ns : List Int}, PySem.W.AlikeAll (ns.map PyData.int) := by
  intro ns
  refine ⟨fun x hx y hy => ?_, fun x hx => ?_⟩
  · obtain ⟨i, _, rfl⟩ := List.mem_map.mp hx
    obtain ⟨j, _, rfl⟩ := List.mem_map.mp hy
    rfl
  · obtain ⟨i, _, rfl⟩ := List.mem_map.mp hx
    exact fun z => by cases z
theorem depth_ints : ∀ ns : List Int, PyData.depthAll (ns.map PyData.int) = 0
  | [] => rfl
  | i :: ns => by
    simp only [List.map_cons, PyData.depthAll, PyData.depth, depth_ints ns]
    rfl
theorem ints_reads {h : Heap} : ∀ {ns : List Int} {us : List Value}, Vals (ns.map V.int) us → ∃ as, ReadsAll h us (ns.map PyData.int) as
  | [], _, r => by cases r; exact ⟨_, .nil⟩
  | i :: ns, _, r => by
    cases r with
    | cons r1 r2 =>
      obtain ⟨t, rfl⟩ := r1
      obtain ⟨as, q⟩ := ints_reads r2
      exact ⟨_, .cons (.int i t) q⟩
def rMaxT (K : PySem.W.Frag) : List V → Hp → VK → Prop := fun vs H Q => ∃ (a : Addr) (n : Int) (ns : List Int), vs = [V.ref a] ∧ SqT K H a ((n :: ns).map V.int) ∧ Q (.int (ns.foldl max n)) H
theorem reads_int {h : Heap} {u : Value} {i : Int} {as : List Addr} (r : Reads h u (.int i) as) : RelV (.int i) u := by
  cases r with
  | int _ t => exact ⟨t, rfl⟩
theorem call_maxT (hc : X.calm = true) (hu : X.A.units + 64 < cLine) : CallR X (.builtin "max") (rMaxT X.K) := by
  intro pins s σ H vs us Q I r h
  obtain ⟨a, n, ns, rfl, hs, q⟩ := h
  obtain ⟨its, rv, hl, _⟩ := I.tuple hs
  rw [Vals.ref1 r]
  obtain ⟨as, hr⟩ := ints_reads (h := s.heap) rv
  refine PySem.W.max_tuple_data (x := .int n) (xs := ns.map .int) (I.ok.hd hc) (show s.heap.IsTuple a its.toArray from hl) hr (alike_ints (ns := n :: ns)) (by rw [show PyData.int n :: ns.map PyData.int = (n :: ns).map PyData.int from rfl, depth_ints]; omega) fun i v h' tk bs _ rd hk => ?_
  rw [PySem.W.maxD_ints] at rd
  exact ⟨.int _, H, I.kept (t' := tk) hk, reads_int rd, q⟩
theorem k_maxT {K : PySem.W.Frag} (e : X.K = K) (hc : X.calm = true) (hu : X.A.units + 64 < cLine) : CallR X (.builtin "max") (rMaxT K) := e ▸ call_maxT hc hu
/-- intsO, told by a list of them -/
def intsO : List PyData → Option (List Int)
  | [] => some []
  | .int b :: r => (intsO r).map (b :: ·)
  | _ :: _ => none
theorem ints_da {W : Addr → Prop} {H : Hp} : ∀ {xs : List V} {ds : List PyData} {bs : List Int}, DaL W c.K H xs ds → intsO ds = some bs → xs = bs.map V.int
  | _, _, _, .nil, e => by cases e; rfl
  | _, _, bs, .cons (ds := r') (d := d) h r, e => by
    cases d with
    | int b =>
      simp only [intsO, Option.map_eq_some_iff] at e
      obtain ⟨cs, e1, rfl⟩ := e
      cases h
      rw [ints_da r e1]
      rfl
    | _ => simp [intsO] at e
def o_maxT : PyData → M PyData
  | .tuple a => (M.opt (intsO a)).bind fun bs => match bs with
    | n :: ns => .ret (.int (ns.foldl max n))
    | [] => .fail
  | _ => .fail
theorem fn_maxT : Fn1 c (fun x => rMaxT c.K [x]) o_maxT := by
  intro W H x a Q lw hx q
  unfold o_maxT at q
  split at q
  · rename_i a
    obtain ⟨p, xs, rfl, h1, r1⟩ := pk_tup hx
    cases e : intsO a with
    | none => rw [e] at q; exact q.elim
    | some bs =>
      rw [e] at q
      have e2 := ints_da r1 e
      subst e2
      cases bs with
      | nil => exact q.elim
      | cons n ns => exact ⟨p, n, ns, rfl, h1, q H _ (Same.refl H) (.int _)⟩
  · exact q.elim
/-- max(e, default=d) -/
def o_maxD : PyData → PyData → M PyData
  | .tuple a, .int d => (M.opt (intsO a)).bind fun bs => match bs with
    | n :: ns => .ret (.int (ns.foldl max n))
    | [] => .ret (.int d)
  | _, _ => .fail
theorem pf_maxD {e1 e2 : Expr} {f g : List Cell → M PyData} {p pos kp : Pos} (eK : X.K = c.K) (hc : X.calm = true) (hu : X.A.units + 64 < cLine) (hg : Gl X "max") (hm : X.mg "max" = none) (ha : PE X e1 (tF c f)) (hb : PE X e2 (tF c g))
    (he : starEach [e1] X.env = (false, eval e1 X.env) :: starEach [] X.env := by rfl) :
    PE X (.Call (.Name "max" p) [e1] [⟨some "default", e2, kp⟩] pos) (tF c (mOp o_maxD f g)) := by
  refine ⟨fun pins s σ H Q I h => ?_⟩
  obtain ⟨W, Γ, S, h⟩ := h
  refine wpAny_Call_Name_kw (ld_blt I hg hm (show bootBuiltins "max" = some (.builtin "max") by decide +kernel) ?_ (by decide) (by decide))
  have hk : backTo pos (starEach [e1] X.env) = (false, eval e1 X.env) :: backTo pos (starEach [] X.env) := by
    rw [he]; rfl
  refine PyProof.Rows.callWith_kw ?_ hk (by rw [hk]; rfl)
  refine thn ((pa_cons ha pa_nil he).run pos pins s σ H (fun vs H1 => ∃ v d, vs = [v] ∧ Da W c.K H1 v d ∧ Ch c H H1 ∧ ((g Γ).bind fun b => o_maxD d b).run fun d => ∀ H' v, Ch c H H' → Da W c.K H' v d → Q v H') I ⟨W, Γ, S, (f Γ).mono (fun d q H1 v k da => ⟨v, d, rfl, da, k, q⟩) h⟩) fun us s1 ⟨vs, H1, I1, r1, v, d, e, da, k1, q1⟩ => ?_
  subst e
  obtain ⟨u, rfl, ru⟩ := vals1 r1
  refine thn ((pk_cons (nm := some "default") (kpos := kp) hb pk_nil).run pos pins s1 σ H1 (fun vs H2 => ∃ v2 b, vs = [v2] ∧ Da W c.K H2 v2 b ∧ Ch c H1 H2 ∧ (o_maxD d b).run fun d => ∀ H' v, Ch c H H' → Da W c.K H' v d → Q v H') I1 ⟨W, Γ, S.ch k1, (g Γ).mono (fun b q H2 v k db => ⟨v, b, rfl, db, k, q⟩) q1⟩) fun us2 s2 ⟨vs2, H2, I2, r2, v2, b, e2, db, k2, q2⟩ => ?_
  subst e2
  obtain ⟨u2, rfl, ru2⟩ := vals1 r2
  have da2 := (S.ch k1).da k2 da
  have kk := k1.trans k2
  unfold o_maxD at q2
  split at q2
  · rename_i _ _ dl dd
    cases da2 with
    | @tup ad xs _ h1 r =>
      cases db
      obtain ⟨t2, rfl⟩ := ru2
      cases ru
      cases ei : intsO _ with
      | none => rw [ei] at q2; exact q2.elim
      | some bs =>
        rw [ei] at q2
        have ex := ints_da r ei
        subst ex
        rw [← eK] at h1
        obtain ⟨its, rv, hl, _⟩ := I2.tuple h1
        obtain ⟨as, hr⟩ := ints_reads (h := s2.heap) rv
        refine PySem.W.max_tuple_default (xs := bs.map .int) (I2.ok.hd hc) (show s2.heap.IsTuple ad its.toArray from hl) hr alike_ints (by rw [depth_ints]; omega) (fun e0 h' tk hk => ?_) fun y ys i v h' tk bs' e0 _ rd hk => ?_
        · cases bs with
          | nil => exact ⟨.int dl, H2, I2.kept (t' := tk) hk, ⟨_, rfl⟩, q2 H2 _ kk (.int _)⟩
          | cons n ns => cases e0
        · cases bs with
          | nil => cases e0
          | cons n ns =>
            injection e0 with e1 e2
            subst e1 e2
            rw [PySem.W.maxD_ints] at rd
            exact ⟨.int _, H2, I2.kept (t' := tk) hk, reads_int rd, q2 H2 _ kk (.int _)⟩
  · exact q2.elim
end
end Dl

set_option Elab.async false
set_option linter.all false
set_option maxRecDepth 100000
set_option maxHeartbeats 4000000
set_option autoImplicit false
/-! Dr: sides of generator expressions; the end of a def by data. -/
namespace Dl
open PySem PySem.Spec PyProof.Rows L2 Gd RZ
theorem room_g {k : Nat} {A : Around} (r : Room (k + 1) A) (env : Env) : Room k (A.in1.in1.deeper env) :=
  ⟨r.hd, by have := r.dp; show A.depth + 1 + 3 * k + 5 < _; omega, by have := r.un; show A.units + 1 + 1 + 3 + 16 * k + 200 < _; omega⟩
theorem cl_g {A : Around} (h : Cl A) (env : Env) : Cl (A.in1.in1.deeper env) := cl_deeper (cl_in1 (cl_in1 h)) env
theorem cl_eq {A A2 : Around} {env : Env} (h : A2 = A.in1.in1.deeper env) (c : Cl A) : Cl A2 := by subst h; exact cl_g c env
theorem room_eq {k : Nat} {A A2 : Around} {env : Env} (h : A2 = A.in1.in1.deeper env) (r : Room (k + 1) A) : Room k A2 := by subst h; exact room_g r env
theorem gens_of {env : Env} {scope dsc : Scope} {x : Str} {n : Nat} (h1 : scope.kind = .function) (h2 : scope.isCoroutine = false) (h3 : (scope.names.all fun y => y.2 != .cell) = true) (h4 : scope.names.lookup (".0" : Str) = some NameKind.local) (h5 : scope.names.lookup x = some .local)
    (h6 : (scope.names.all fun y => y.2 != .free || dsc.names.lookup y.1 == some .cell) = true) (hc : env.cells = cellsFrom n dsc.names []) : GxR.GenS env scope x := by
  refine ⟨h1, h2, fun y hy e => ?_, h4, h5, fun y hy e => ?_⟩
  · have := List.all_eq_true.mp h3 y hy
    rw [e] at this
    exact absurd this (by decide)
  · have := List.all_eq_true.mp h6 y hy
    rw [e] at this
    have q : dsc.names.lookup y.1 = some .cell := by
      have z : ((NameKind.free != NameKind.free) = false) := by decide
      rw [z, Bool.false_or] at this
      exact eq_of_beq this
    rw [hc]
    exact Option.isSome_iff_exists.mp (PySem.W.cellsFrom_some _ _ _ (.inl q))
def capB (N : List Str) (dsc scope : Scope) : List Str → List Nat → Bool
  | [], [] => true
  | y :: ys, j :: js => (scope.names.lookup y == some .free) && ((N[j]? == some y) && ((dsc.names.lookup y == some .cell) && capB N dsc scope ys js))
  | _, _ => false
theorem caps_of {X : Cx} {scope : Scope} : ∀ {ys : List Str} {caps : List Nat}, capB X.N X.env.scope scope ys caps = true → Caps X scope ys caps
  | [], [], _ => ⟨rfl, fun i y e => by simp at e⟩
  | y :: ys, j :: js, h => by
    unfold capB at h
    obtain ⟨h1, h⟩ := (Bool.and_eq_true_iff.mp h)
    obtain ⟨h2, h⟩ := (Bool.and_eq_true_iff.mp h)
    obtain ⟨h3, h⟩ := (Bool.and_eq_true_iff.mp h)
    obtain ⟨q1, q2⟩ := caps_of h
    refine ⟨by rw [List.length_cons, List.length_cons, q1], fun i z e => ?_⟩
    cases i with
    | zero =>
      rw [List.getElem?_cons_zero] at e
      cases e
      exact ⟨eq_of_beq h1, j, rfl, eq_of_beq h2, .inl (eq_of_beq h3)⟩
    | succ i =>
      rw [List.getElem?_cons_succ] at e
      obtain ⟨a, j', b, c⟩ := q2 i z e
      exact ⟨a, j', by rw [List.getElem?_cons_succ]; exact b, c⟩
  | [], _ :: _, h => by simp [capB] at h
  | _ :: _, [], h => by simp [capB] at h
section
variable {K : PySem.W.Frag} {T : Addr → Prop}
theorem body_d' {vs : List V} {H : Hp} {Q : VK} {E : XK} {N : List Str} {n k : Nat} {m : Sg} (hN : N.length = n + k) (h : spD K T n (fnD k m) vs H Q E) : ∃ W0 H0, tSF (fc K T none W0 H0) m { nx := fun _ H' => Q .non H', rt := Q } (L2.start N vs) H := by
  obtain ⟨W, ds, h1, lw, l, q⟩ := h
  have q : (m (ds.map .im ++ List.replicate k .un)).run fun o => (outD o).run fun d => ∀ H' v, Ch (fc K T none W H) H H' → Da W K H' v d → Q v H' := q
  refine ⟨W, H, W, ds.map .im ++ List.replicate k .un, ?_, (m _).mono (fun o q => ?_) q⟩
  · unfold L2.start
    rw [show N.length - vs.length = k by rw [h1.length, l]; omega]
    exact sr_start h1 lw
  · cases o with
    | rt d => exact q
    | nx Γ => exact fun W' σ' H' S _ _ => q H' _ S.ret .non
    | bk Γ => exact q.elim
    | ct Γ => exact q.elim
theorem body_w' {vs : List V} {H : Hp} {Q : VK} {E : XK} {N : List Str} {n k : Nat} {m : Sg} (hN : N.length = n + 1 + k) (h : spW K T n (fnW k m) vs H Q E) : ∃ w W0 H0, tSF (fc K T (some w) W0 H0) m { nx := fun _ H' => Q .non H', rt := Q } (L2.start N vs) H := by
  obtain ⟨w, W, ds, us, rfl, hw, wl, h1, lw, l, q⟩ := h
  have q : (m (.well :: ds.map .im ++ List.replicate k .un)).run fun o => (outD o).run fun d => ∀ H' v, Ch (fc K T (some w) W H) H H' → Da W K H' v d → Q v H' := q
  refine ⟨w, W, H, W, .well :: ds.map .im ++ List.replicate k .un, ?_, (m _).mono (fun o q => ?_) q⟩
  · unfold L2.start
    rw [show N.length - (V.ref w :: us).length = k by rw [List.length_cons, h1.length, l]; omega]
    exact sr_startW hw wl h1 lw
  · cases o with
    | rt d => exact q
    | nx Γ => exact fun W' σ' H' S _ _ => q H' _ S.ret .non
    | bk Γ => exact q.elim
    | ct Γ => exact q.elim
end
/-- where a def's code object stands, and its table -/
def CdT (T : Addr → Prop) (base : Heap) (mg : Str → Option Value) (cdv : Value) : Prop := ∃ cd P, T P ∧ cdv = .ref cd ∧ GxR.TabB base mg cd P
/-- a def of the text with its code object's table -/
def DefT (T : Addr → Prop) (base : Heap) (K : PySem.W.Frag) (mg : Str → Option Value) (x : Str) (st : Stmt) : Prop :=
  ∃ f fd, FunD K x x (defArgs st) (defBody st) (defScope st) [] [] f fd ∧ mg x = some (.ref f) ∧ ∀ c fd', K.lookup f = some c → c.data = .func fd' → CdT T base mg fd'.code
theorem FnG.ok2 {P : Program} {w : World} {K : PySem.W.Frag} {mg : Str → Option Value} {base : Heap} {x : Str} {st : Stmt} {N ps : List Str} {k : Nat} {sp : Sp} {T : Addr → Prop} (D : DefT T base K mg x st) (S : FnScope N ps (defScope st)) (len : ∀ vs H Q E, sp vs H Q E → vs.length = ps.length)
    (hbi : ∀ (kV doc pm : Value) (an : Option Addr) (cdv ct : Value) (us : List Value), us.length = ps.length → bindArgs (PySem.W.fnOf x x (defArgs st) (defBody st) (defScope st) .none kV doc pm an cdv ct) ⟨us, []⟩ = pure (ps.zip us))
    (hb : ∀ (f : Addr) (cdv : Value) (A : Around) (outer : List Env) (s : Shared) (H : Hp) (vs : List V) (Q : VK) (E : XK), Cl (A.deeper (envOfC x (defScope st) s.heap.objs.size f cdv)) → Room k (A.deeper (envOfC x (defScope st) s.heap.objs.size f cdv)) → CdT T base mg cdv → sp vs H Q E →
      ∃ t, PSs (cxOf CX0 P w K mg base N x (defScope st) f cdv A outer s H E).nox (defBody st) t ∧ t { nx := fun _ H' => Q .non H', rt := Q } (L2.start N vs) H) :
    Cal P w K mg base x (k + 1) ps sp := by
  obtain ⟨f, fd, F, g, hcd⟩ := D
  refine ⟨f, fd, FnG.ok F S len (fun cdv A outer s H vs Q E hG hr _ hl h => ?_), g, F.kp, F.bindsN hbi⟩
  have cd : CdT T base mg cdv := by
    obtain ⟨oc, od, dV, kV, doc, pm, an, cdv', ct, osl, rfl, lk, _⟩ := F.ex
    obtain ⟨fd', e1, e2⟩ := hl _ lk
    have := hcd _ fd' lk e1
    rw [e2] at this
    exact this
  obtain ⟨t, h1, h2⟩ := hb f cdv A outer s H vs Q E hG hr cd h
  exact ⟨t, h1.nox, h2⟩
end Dl

set_option Elab.async false
set_option linter.all false
set_option maxRecDepth 100000
set_option maxHeartbeats 4000000
set_option autoImplicit false
/-! Dk: small rules for the printed derivations. -/
namespace Dl
open PySem PySem.Spec PyProof.Rows L2 Gd RZ
/-- a def that may be called by keywords alone -/
def CalK (P : Program) (w : World) (K : PySem.W.Frag) (mg : Str → Option Value) (base : Heap) (x : Str) (k : Nat) (ps ks : List Str) (sp : Sp) (G : {α : Type} → List α → List α → List α) : Prop :=
  ∃ f fd, FnG P w K mg base CX0 k f fd ps sp ∧ mg x = some (.ref f) ∧ PySem.W.keepIn K (.ref f) = true ∧ KwB K fd ps ks 0 G
abbrev gId {α : Type} (_ ws : List α) : List α := ws
abbrev gRev {α : Type} (_ ws : List α) : List α := ws.reverse
theorem Def1.calK {P : Program} {w : World} {K : PySem.W.Frag} {mg : Str → Option Value} {base : Heap} {x : Str} {st : Stmt} {N ps ks : List Str} {k : Nat} {sp : Sp} {G : {α : Type} → List α → List α → List α}
    (D : Def1 K mg x st) (S : FnScope N ps (defScope st)) (len : ∀ vs H Q E, sp vs H Q E → vs.length = ps.length)
    (hbi : ∀ (kV doc pm : Value) (an : Option Addr) (cdv ct : Value) (ws : List Value), ws.length = ks.length → bindArgs (PySem.W.fnOf x x (defArgs st) (defBody st) (defScope st) .none kV doc pm an cdv ct) ⟨[], ks.zip ws⟩ = pure (ps.zip (G [] ws)))
    (hrel : ∀ {vs zs : List V} {us ws : List Value}, Vals vs us → Vals zs ws → Vals (G vs zs) (G us ws))
    (hb : ∀ (f : Addr) (cdv : Value) (A : Around) (outer : List Env) (s : Shared) (H : Hp) (vs : List V) (Q : VK) (E : XK), Cl (A.deeper (envOfC x (defScope st) s.heap.objs.size f cdv)) → Room k (A.deeper (envOfC x (defScope st) s.heap.objs.size f cdv)) → sp vs H Q E →
      ∃ t, PSs (cxOf CX0 P w K mg base N x (defScope st) f cdv A outer s H E).nox (defBody st) t ∧ t { nx := fun _ H' => Q .non H', rt := Q } (L2.start N vs) H) :
    CalK P w K mg base x (k + 1) ps ks sp G := by
  obtain ⟨f, fd, F, g⟩ := D
  refine ⟨f, fd, FnG.ok F S len (fun cdv A outer s H vs Q E hG hr _ _ h => ?_), g, F.kp, ⟨fun s us ws h1 h2 => ?_, fun r1 r2 _ _ => hrel r1 r2⟩⟩
  · obtain ⟨t, h1, h2⟩ := hb f cdv A outer s H vs Q E hG hr h
    exact ⟨t, h1.nox, h2⟩
  · have e : us = [] := List.eq_nil_of_length_eq_zero h1
    subst e
    obtain ⟨oc, od, dV, kV, doc, pm, an, cdv, ct, osl, rfl, lk, hcd, hD, hK⟩ := F.ex
    rcases hD with ⟨_, rfl⟩ | ⟨e, _⟩
    · exact .of_eq (hbi kV doc pm an cdv ct ws h2)
    · exact absurd rfl e
section
variable {X : Cx} {c : Fc} {K : PySem.W.Frag} {e : Expr} {f : List Cell → M PyData} {pos : Pos}
theorem op2_lt : Op2 c Gd.rLt (o_cmp fun i j => decide (i < j)) := op2_cmp
theorem op2_le : Op2 c Gd.rLe (o_cmp fun i j => decide (i ≤ j)) := op2_cmp
theorem op2_gt : Op2 c Gd.rGt (o_cmp fun i j => decide (j < i)) := op2_cmp
theorem op2_ge : Op2 c Gd.rGe (o_cmp fun i j => decide (j ≤ i)) := op2_cmp
theorem k_in (e : X.K = K) : OpR X (compareOp .In) (rIn K false) := e ▸ op_in_seq
theorem k_notIn (e : X.K = K) : OpR X (compareOp .NotIn) (rIn K true) := e ▸ op_notIn_seq
theorem ptsf_one {c' : Expr} {t : List Cell → M Bool} (h : PT X c' (tTF c t)) : PTs X [c'] (tTF c t) := pts_one h
theorem pf_pow {i k j j2 p2 p3} (h : CPow i k) : PE X (.BinOp (.Constant (.int i) j p2) .Pow (.Constant (.int k) j2 p3) pos) (tF c (mCon (.int (i ^ k.toNat)))) :=
  pe_weak (pe_op op_pow pe_int pe_int) fun σ H Q ⟨W, Γ, S, q⟩ => ⟨i, k, rfl, rfl, h, q H _ S.refl (.int _)⟩
/-! == and != with the empty tuple -/
def rEqT (K : PySem.W.Frag) : R2 := fun x y H Q => ∃ a b xs, x = .ref a ∧ y = .ref b ∧ SqT K H a xs ∧ SqT K H b [] ∧ Q (.bl (decide (xs = []))) H
def rNeT (K : PySem.W.Frag) : R2 := fun x y H Q => ∃ a b xs, x = .ref a ∧ y = .ref b ∧ SqT K H a xs ∧ SqT K H b [] ∧ Q (.bl (!decide (xs = []))) H
theorem sz_nil {xs : List V} {its : List Value} (r : Vals xs its) : ((List.range (min its.toArray.size ([] : List Value).toArray.size)).all (fun _ => true) && its.toArray.size == ([] : List Value).toArray.size) = decide (xs = []) := by
  have l := r.length
  cases xs with
  | nil => cases r; rfl
  | cons x xs =>
    cases r
    simp
theorem op_eqT (hu : X.A.units + 64 < cLine) : OpR X (compareOp .Eq) (rEqT X.K) := by
  intro pins s σ H x y v u Q I rx ry h
  obtain ⟨a, b, xs, rfl, rfl, ha, hb, q⟩ := h
  cases rx
  cases ry
  obtain ⟨its, r, pa, _⟩ := I.tuple ha
  obtain ⟨its2, r2, pb, _⟩ := I.tuple hb
  cases r2
  refine SeqAt.RcAt.tuples (e := fun _ => true) (show s.heap.IsTuple a its.toArray from pa) (show s.heap.IsTuple b ([] : List Value).toArray from pb) (by omega) (fun j h1 h2 => absurd h2 (by simp)) X.prog X.w _ _ ?_
  rw [sz_nil r]
  exact ⟨.bl _, H, I, rfl, q⟩
theorem op_neT (hu : X.A.units + 64 < cLine) : OpR X (compareOp .NotEq) (rNeT X.K) := by
  intro pins s σ H x y v u Q I rx ry h
  obtain ⟨a, b, xs, rfl, rfl, ha, hb, q⟩ := h
  cases rx
  cases ry
  obtain ⟨its, r, pa, _⟩ := I.tuple ha
  obtain ⟨its2, r2, pb, _⟩ := I.tuple hb
  cases r2
  refine SeqAt.RcNeAt.tuples (e := fun _ => true) (show s.heap.IsTuple a its.toArray from pa) (show s.heap.IsTuple b ([] : List Value).toArray from pb) (by omega) (fun j h1 h2 => absurd h2 (by simp)) X.prog X.w _ _ ?_
  rw [sz_nil r]
  exact ⟨.bl _, H, I, rfl, q⟩
def rEqX (K : PySem.W.Frag) : R2 := fun x y H Q => rEqA K x y H Q ∨ rEqT K x y H Q
def rNeX (K : PySem.W.Frag) : R2 := fun x y H Q => rNeA K x y H Q ∨ rNeT K x y H Q
theorem k_eqX (e : X.K = K) (hu : X.A.units + 64 < cLine) : OpR X (compareOp .Eq) (rEqX K) := e ▸ (op_eqA hu).or (op_eqT hu)
theorem k_neX (e : X.K = K) (hu : X.A.units + 64 < cLine) : OpR X (compareOp .NotEq) (rNeX K) := e ▸ (op_neA hu).or (op_neT hu)
def o_eqX : PyData → PyData → M PyData
  | .str a, .str b => .ret (.bool (decide (a = b)))
  | .tuple ds, .tuple [] => .ret (.bool (decide (ds = [])))
  | a, b => (M.gd (SeqAt.shaped a = true ∧ SeqAt.shaped b = true)).bind fun _ => .ret (.bool (PyData.eqv a b))
def o_neX : PyData → PyData → M PyData
  | .str a, .str b => .ret (.bool (!decide (a = b)))
  | .tuple ds, .tuple [] => .ret (.bool (!decide (ds = [])))
  | a, b => (M.gd (SeqAt.shaped a = true ∧ SeqAt.shaped b = true)).bind fun _ => .ret (.bool (!PyData.eqv a b))
theorem nil_iff {W : Addr → Prop} {H : Hp} {xs : List V} {ds : List PyData} (r : DaL W K H xs ds) : decide (ds = []) = decide (xs = []) := by cases r <;> simp
theorem op2_eqX : Op2 c (rEqX c.K) o_eqX := by
  intro W H x y a b Q lw hx hy q
  unfold o_eqX at q
  split at q
  · rename_i a b
    rw [pk_str hx, pk_str hy]
    refine .inl (.inl ⟨rfl, ?_⟩)
    rw [show decide (V.str a = V.str b) = decide (a = b) by simp]
    exact q H _ (Same.refl H) (.bl _)
  · obtain ⟨p, xs, rfl, h1, r1⟩ := pk_tup hx
    obtain ⟨p2, ys, rfl, h2, r2⟩ := pk_tup hy
    cases r2
    refine .inr ⟨p, p2, xs, rfl, rfl, h1, h2, ?_⟩
    rw [← nil_iff r1]
    exact q H _ (Same.refl H) (.bl _)
  · exact .inl (op2_eq W H x y _ _ Q lw hx hy q)
theorem op2_neX : Op2 c (rNeX c.K) o_neX := by
  intro W H x y a b Q lw hx hy q
  unfold o_neX at q
  split at q
  · rename_i a b
    rw [pk_str hx, pk_str hy]
    refine .inl (.inl ⟨rfl, ?_⟩)
    rw [show decide (V.str a = V.str b) = decide (a = b) by simp]
    exact q H _ (Same.refl H) (.bl _)
  · obtain ⟨p, xs, rfl, h1, r1⟩ := pk_tup hx
    obtain ⟨p2, ys, rfl, h2, r2⟩ := pk_tup hy
    cases r2
    refine .inr ⟨p, p2, xs, rfl, rfl, h1, h2, ?_⟩
    rw [← nil_iff r1]
    exact q H _ (Same.refl H) (.bl _)
  · exact .inl (op2_ne W H x y _ _ Q lw hx hy q)
/-- keywords alone -/
theorem pe_calK {k : Nat} {ps ks : List Str} {sp : Sp} {x : Str} {p : Pos} {kws : List Keyword} {tk : TA} {G : {α : Type} → List α → List α → List α} (C : CalK X.prog X.w X.K X.mg X.base x k ps ks sp G) (hG : Cl X.A) (hr : Room k X.A) (hg : Gl X x) (hkw : PK X kws tk)
    (hall : (backToKw pos (keywordEach kws X.env)).all (·.1.isSome) = true := by rfl) (hks : (backToKw pos (keywordEach kws X.env)).filterMap (·.1) = ks := by rfl) (hdb : (x == ("__debug__" : Str)) = false := by decide)
    (hpl : ((backTo pos (starEach [] X.env)).any (·.1) || (backToKw pos (keywordEach kws X.env)).any (·.1.isNone)) = false := by rfl) : PE X (.Call (.Name x p) [] kws pos) (tCK sp 0 ks.length G E0 tNil tk) := by
  obtain ⟨f, fd, F, hm, hk, hb⟩ := C
  exact pe_ck0 F hG hr hg hm hk hb pass0 hkw hall hks hdb hpl
/-- one(well, e) -/
def g_one : PyData → M PyData
  | .tuple ds => (M.gd (ds ≠ [] ∧ ds.length ≤ 1000000)).bind fun _ => M.any (· ∈ ds)
  | .list ds => (M.gd (ds ≠ [] ∧ ds.length ≤ 1000000)).bind fun _ => M.any (· ∈ ds)
  | _ => .fail
def mOne (i : Nat) (f : List Cell → M PyData) : List Cell → M PyData := fun Γ => match Γ[i]? with
  | some .well => (f Γ).bind g_one
  | _ => .fail
theorem DaL.mem {W : Addr → Prop} {H : Hp} : ∀ {vs : List V} {ds : List PyData}, DaL W K H vs ds → ∀ {v : V}, v ∈ vs → ∃ d ∈ ds, Da W K H v d
  | _, _, .nil, _, e => by cases e
  | _, _, .cons h r, v, e => by
    rcases List.mem_cons.mp e with rfl | e
    · exact ⟨_, List.mem_cons_self .., h⟩
    · obtain ⟨d, m, q⟩ := DaL.mem r e
      exact ⟨d, List.mem_cons_of_mem _ m, q⟩
theorem Sr.chw {W : Addr → Prop} {H H' : Hp} {σ : L2.St} {Γ : List Cell} (S : Sr c W H σ Γ) {w : Addr} (ow : c.ow = some w) (k : Kp w H H') (wl : Wl H' w) : Ch c H H' :=
  ⟨fun b o n t h => k b o (fun z => n (by rw [z, ow])) h, fun a t => (by
    obtain ⟨ps, e, r⟩ := S.lw.t a t
    refine ⟨ps, k a _ ?_ e, r⟩
    rintro rfl
    obtain ⟨_, _, _, q, _⟩ := S.wl a ow
    rw [e] at q
    cases q), fun v e => (by rw [ow] at e; cases e; exact wl)⟩
theorem pf_one1 {E : XK} {i : Nat} (h : PE X e (tCall (spOne c.K) [] E (tCons (tVar i) (tCons (tG c f) tNil)))) : PE X e (tF c (mOne i f)) := pe_weak h fun σ H Q ⟨W, Γ, S, q⟩ => by
  unfold mOne at q
  split at q
  · rename_i e1
    obtain ⟨w, ow, e2⟩ := S.at' i _ e1
    refine ⟨_, e2, W, Γ, S, (f Γ).mono (fun d q H1 v k da => ?_) q⟩
    have S1 := S.ch k
    unfold g_one at q
    split at q
    · obtain ⟨p, xs, rfl, h1, r1⟩ := pk_tup da
      refine ⟨w, p, xs, rfl, .inl h1, fun z => ?_, by have := q.1.2; rw [r1.length]; omega, S1.wl w ow, fun v hv H2 k2 w2 => ?_⟩
      · subst z; cases r1; exact q.1.1 rfl
      · obtain ⟨d, hd, dd⟩ := r1.mem hv
        have c2 := S1.chw ow k2 w2
        exact q.2 d hd H2 v (k.trans c2) (S1.da c2 dd)
    · obtain ⟨p, xs, rfl, h1, r1⟩ := pk_lst da
      refine ⟨w, p, xs, rfl, .inr ⟨SqL.of h1, ?_⟩, fun z => ?_, by have := q.1.2; rw [r1.length]; omega, S1.wl w ow, fun v hv H2 k2 w2 => ?_⟩
      · rintro rfl
        rcases da with da | ⟨a, ys, es, e3, _, n, _⟩
        · cases da with | lst n h r => exact n (S1.ww p ow)
        · cases e3; exact n ow.symm
      · subst z; cases r1; exact q.1.1 rfl
      · obtain ⟨d, hd, dd⟩ := r1.mem hv
        have c2 := S1.chw ow k2 w2
        exact q.2 d hd H2 v (k.trans c2) (S1.da c2 dd)
    · exact q.elim
  · exact q.elim
end
end Dl

set_option Elab.async false
set_option linter.all false
set_option maxRecDepth 100000
set_option maxHeartbeats 4000000
set_option autoImplicit false
namespace K2
open PySem PySem.Spec PyProof.Rows L2 RZ Gd Dl
def top (i : Nat) : Stmt := PySem.Challenge.pw_trialground_k02_whole_trials_worlds_ques.main.body.getD i (.Pass ⟨0, 0, 0, 0⟩)
structure Txt (K : PySem.W.Frag) (mg : Str → Option Value) : Prop where
  n_int : mg "int" = none
  n_len : mg "len" = none
  n_abs : mg "abs" = none
  n_divmod : mg "divmod" = none
  n_range : mg "range" = none
  n_tuple : mg "tuple" = none
  n_list : mg "list" = none
  n_zip : mg "zip" = none
  n_repr : mg "repr" = none
  n_isinstance : mg "isinstance" = none
  n_all : mg "all" = none
  n_any : mg "any" = none
  n_max : mg "max" = none
  n_min : mg "min" = none
  n_bool : mg "bool" = none
  g_MOST_PLOTS : ∃ t, mg "MOST_PLOTS" = some (.int 10 t)
  g_MOST_UNKNOWNS : ∃ t, mg "MOST_UNKNOWNS" = some (.int 5 t)
  g_GREATEST_BLOCK : ∃ t, mg "GREATEST_BLOCK" = some (.int 4 t)
  g_gcd : mg "gcd" = some (.builtin "math.gcd")
abbrev s_is_whole : Stmt := top 5
def N_is_whole : List Str := ["value"]
def P_is_whole : List Str := ["value"]
theorem sc_is_whole : FnScope N_is_whole P_is_whole (defScope s_is_whole) := ⟨rfl, rfl, rfl, by decide +kernel, rfl, by decide +kernel, by decide +kernel⟩
abbrev s_is_fraction : Stmt := top 6
def N_is_fraction : List Str := ["value", "above", "below"]
def P_is_fraction : List Str := ["value"]
theorem sc_is_fraction : FnScope N_is_fraction P_is_fraction (defScope s_is_fraction) := ⟨rfl, rfl, rfl, by decide +kernel, rfl, by decide +kernel, by decide +kernel⟩
abbrev s_is_row : Stmt := top 7
def N_is_row : List Str := ["value", "many", "part"]
def P_is_row : List Str := ["value", "many"]
theorem sc_is_row : FnScope N_is_row P_is_row (defScope s_is_row) := ⟨rfl, rfl, rfl, by decide +kernel, rfl, by decide +kernel, by decide +kernel⟩
abbrev s_is_index : Stmt := top 9
def N_is_index : List Str := ["value", "many"]
def P_is_index : List Str := ["value", "many"]
theorem sc_is_index : FnScope N_is_index P_is_index (defScope s_is_index) := ⟨rfl, rfl, rfl, by decide +kernel, rfl, by decide +kernel, by decide +kernel⟩
abbrev s_is_trial : Stmt := top 14
def N_is_trial : List Str := ["value", "rows", "spreads", "blocks"]
def P_is_trial : List Str := ["value"]
theorem sc_is_trial : FnScope N_is_trial P_is_trial (defScope s_is_trial) := ⟨rfl, rfl, rfl, by decide +kernel, rfl, by decide +kernel, by decide +kernel⟩
abbrev s_is_world : Stmt := top 15
def N_is_world : List Str := ["trial", "value"]
def P_is_world : List Str := ["trial", "value"]
theorem sc_is_world : FnScope N_is_world P_is_world (defScope s_is_world) := ⟨rfl, rfl, rfl, by decide +kernel, rfl, by decide +kernel, by decide +kernel⟩
abbrev s_is_question : Stmt := top 16
def N_is_question : List Str := ["trial", "value"]
def P_is_question : List Str := ["trial", "value"]
theorem sc_is_question : FnScope N_is_question P_is_question (defScope s_is_question) := ⟨rfl, rfl, rfl, by decide +kernel, rfl, by decide +kernel, by decide +kernel⟩
abbrev s_levels_of : Stmt := top 17
def N_levels_of : List Str := ["trial"]
def P_levels_of : List Str := ["trial"]
theorem sc_levels_of : FnScope N_levels_of P_levels_of (defScope s_levels_of) := ⟨rfl, rfl, rfl, by decide +kernel, rfl, by decide +kernel, by decide +kernel⟩
abbrev s_check_trial : Stmt := top 18
def N_check_trial : List Str := ["trial"]
def P_check_trial : List Str := ["trial"]
theorem sc_check_trial : FnScope N_check_trial P_check_trial (defScope s_check_trial) := ⟨rfl, rfl, rfl, by decide +kernel, rfl, by decide +kernel, by decide +kernel⟩
abbrev s_is_world_of : Stmt := top 19
def N_is_world_of : List Str := ["trial", "value", "values", "levels"]
def P_is_world_of : List Str := ["trial", "value"]
theorem sc_is_world_of : FnScope N_is_world_of P_is_world_of (defScope s_is_world_of) := ⟨rfl, rfl, rfl, by decide +kernel, rfl, by decide +kernel, by decide +kernel⟩
abbrev s_is_question_of : Stmt := top 20
def N_is_question_of : List Str := ["trial", "value"]
def P_is_question_of : List Str := ["trial", "value"]
theorem sc_is_question_of : FnScope N_is_question_of P_is_question_of (defScope s_is_question_of) := ⟨rfl, rfl, rfl, by decide +kernel, rfl, by decide +kernel, by decide +kernel⟩
abbrev s_is_spread : Stmt := top 21
def N_is_spread : List Str := ["value"]
def P_is_spread : List Str := ["value"]
theorem sc_is_spread : FnScope N_is_spread P_is_spread (defScope s_is_spread) := ⟨rfl, rfl, rfl, by decide +kernel, rfl, by decide +kernel, by decide +kernel⟩
abbrev s_is_block : Stmt := top 22
def N_is_block : List Str := ["value"]
def P_is_block : List Str := ["value"]
theorem sc_is_block : FnScope N_is_block P_is_block (defScope s_is_block) := ⟨rfl, rfl, rfl, by decide +kernel, rfl, by decide +kernel, by decide +kernel⟩
abbrev s_count_levels : Stmt := top 23
def N_count_levels : List Str := ["trial"]
def P_count_levels : List Str := ["trial"]
theorem sc_count_levels : FnScope N_count_levels P_count_levels (defScope s_count_levels) := ⟨rfl, rfl, rfl, by decide +kernel, rfl, by decide +kernel, by decide +kernel⟩
abbrev s__are_plots : Stmt := top 24
def N__are_plots : List Str := ["value", "first", "row"]
def P__are_plots : List Str := ["value"]
theorem sc__are_plots : FnScope N__are_plots P__are_plots (defScope s__are_plots) := ⟨rfl, rfl, rfl, by decide +kernel, rfl, by decide +kernel, by decide +kernel⟩
abbrev s__are_spreads : Stmt := top 25
def N__are_spreads : List Str := ["value", "many", "spread"]
def P__are_spreads : List Str := ["value", "many"]
theorem sc__are_spreads : FnScope N__are_spreads P__are_spreads (defScope s__are_spreads) := ⟨rfl, rfl, rfl, by decide +kernel, rfl, by decide +kernel, by decide +kernel⟩
abbrev s__are_blocks : Stmt := top 26
def N__are_blocks : List Str := ["value", "many", "block"]
def P__are_blocks : List Str := ["value", "many"]
theorem sc__are_blocks : FnScope N__are_blocks P__are_blocks (defScope s__are_blocks) := ⟨rfl, rfl, rfl, by decide +kernel, rfl, by decide +kernel, by decide +kernel⟩
abbrev s__law_well : Stmt := top 28
def N__law_well : List Str := ["_law_script", "_law_lap", "_law_mixed", "_law_cell", "_law_own"]
def P__law_well : List Str := ["_law_script", "_law_lap"]
theorem sc__law_well : FnScope N__law_well P__law_well (defScope s__law_well) := ⟨rfl, rfl, rfl, by decide +kernel, rfl, by decide +kernel, by decide +kernel⟩
abbrev s__law_draw : Stmt := top 29
def N__law_draw : List Str := ["_law_well_here", "_law_few", "_law_figure", "_law_mixed"]
def P__law_draw : List Str := ["_law_well_here", "_law_few"]
theorem sc__law_draw : FnScope N__law_draw P__law_draw (defScope s__law_draw) := ⟨rfl, rfl, rfl, by decide +kernel, rfl, by decide +kernel, by decide +kernel⟩
abbrev s__law_one : Stmt := top 30
def N__law_one : List Str := ["_law_well_here", "_law_some"]
def P__law_one : List Str := ["_law_well_here", "_law_some"]
theorem sc__law_one : FnScope N__law_one P__law_one (defScope s__law_one) := ⟨rfl, rfl, rfl, by decide +kernel, rfl, by decide +kernel, by decide +kernel⟩
abbrev s__law_lean : Stmt := top 31
def N__law_lean : List Str := ["_law_top", "_law_base", "_law_far", "_law_rest"]
def P__law_lean : List Str := ["_law_top", "_law_base"]
theorem sc__law_lean : FnScope N__law_lean P__law_lean (defScope s__law_lean) := ⟨rfl, rfl, rfl, by decide +kernel, rfl, by decide +kernel, by decide +kernel⟩
abbrev s__law_minus : Stmt := top 32
def N__law_minus : List Str := ["_law_x", "_law_y"]
def P__law_minus : List Str := ["_law_x", "_law_y"]
theorem sc__law_minus : FnScope N__law_minus P__law_minus (defScope s__law_minus) := ⟨rfl, rfl, rfl, by decide +kernel, rfl, by decide +kernel, by decide +kernel⟩
abbrev s__law_is_whole : Stmt := top 33
def N__law_is_whole : List Str := ["_law_thing"]
def P__law_is_whole : List Str := ["_law_thing"]
theorem sc__law_is_whole : FnScope N__law_is_whole P__law_is_whole (defScope s__law_is_whole) := ⟨rfl, rfl, rfl, by decide +kernel, rfl, by decide +kernel, by decide +kernel⟩
abbrev s__law_is_tuple : Stmt := top 34
def N__law_is_tuple : List Str := ["_law_thing", "_law_few"]
def P__law_is_tuple : List Str := ["_law_thing", "_law_few"]
theorem sc__law_is_tuple : FnScope N__law_is_tuple P__law_is_tuple (defScope s__law_is_tuple) := ⟨rfl, rfl, rfl, by decide +kernel, rfl, by decide +kernel, by decide +kernel⟩
abbrev s__law_is_part : Stmt := top 35
def N__law_is_part : List Str := ["_law_thing"]
def P__law_is_part : List Str := ["_law_thing"]
theorem sc__law_is_part : FnScope N__law_is_part P__law_is_part (defScope s__law_is_part) := ⟨rfl, rfl, rfl, by decide +kernel, rfl, by decide +kernel, by decide +kernel⟩
abbrev s__law_is_row : Stmt := top 36
def N__law_is_row : List Str := ["_law_thing", "_law_few", "_law_x"]
def P__law_is_row : List Str := ["_law_thing", "_law_few"]
theorem sc__law_is_row : FnScope N__law_is_row P__law_is_row (defScope s__law_is_row) := ⟨rfl, rfl, rfl, by decide +kernel, rfl, by decide +kernel, by decide +kernel⟩
abbrev s__law_odd : Stmt := top 37
def N__law_odd : List Str := ["_law_well_here", "_law_some", "_law_more"]
def P__law_odd : List Str := ["_law_well_here"]
theorem sc__law_odd : FnScope N__law_odd P__law_odd (defScope s__law_odd) := ⟨rfl, rfl, rfl, by decide +kernel, rfl, by decide +kernel, by decide +kernel⟩
abbrev s__law_bent : Stmt := top 38
def N__law_bent : List Str := ["_law_well_here", "_law_thing", "_law_path", "_law_here", "_law_turn", "_law_at", "_law_way", "_law_whole"]
def P__law_bent : List Str := ["_law_well_here", "_law_thing"]
theorem sc__law_bent : FnScope N__law_bent P__law_bent (defScope s__law_bent) := ⟨rfl, rfl, rfl, by decide +kernel, rfl, by decide +kernel, by decide +kernel⟩
abbrev s__law_maybe : Stmt := top 39
def N__law_maybe : List Str := ["_law_well_here", "_law_thing", "_law_way"]
def P__law_maybe : List Str := ["_law_well_here", "_law_thing"]
theorem sc__law_maybe : FnScope N__law_maybe P__law_maybe (defScope s__law_maybe) := ⟨rfl, rfl, rfl, by decide +kernel, rfl, by decide +kernel, by decide +kernel⟩
abbrev s__law_number : Stmt := top 40
def N__law_number : List Str := ["_law_well_here", "_law_way"]
def P__law_number : List Str := ["_law_well_here"]
theorem sc__law_number : FnScope N__law_number P__law_number (defScope s__law_number) := ⟨rfl, rfl, rfl, by decide +kernel, rfl, by decide +kernel, by decide +kernel⟩
abbrev s__law_numbers : Stmt := top 41
def N__law_numbers : List Str := ["_law_well_here", "_law_few", "_law_found", "_law_turn"]
def P__law_numbers : List Str := ["_law_well_here", "_law_few"]
theorem sc__law_numbers : FnScope N__law_numbers P__law_numbers (defScope s__law_numbers) := ⟨rfl, rfl, rfl, by decide +kernel, rfl, by decide +kernel, by decide +kernel⟩
abbrev s__law_trial : Stmt := top 42
def N__law_trial : List Str := ["_law_well_here", "_law_most", "_law_few", "_law_rows", "_law_spreads", "_law_blocks", "_law_many", "_law_kinds", "_law_turn", "_law_row", "_law_one_here", "_law_two", "_law_x", "_law_y"]
def P__law_trial : List Str := ["_law_well_here", "_law_most"]
theorem sc__law_trial : FnScope N__law_trial P__law_trial (defScope s__law_trial) := ⟨rfl, rfl, rfl, by decide +kernel, rfl, by decide +kernel, by decide +kernel⟩
abbrev s__law_levels : Stmt := top 43
def N__law_levels : List Str := ["_law_trial_here"]
def P__law_levels : List Str := ["_law_trial_here"]
theorem sc__law_levels : FnScope N__law_levels P__law_levels (defScope s__law_levels) := ⟨rfl, rfl, rfl, by decide +kernel, rfl, by decide +kernel, by decide +kernel⟩
abbrev s__law_world : Stmt := top 44
def N__law_world : List Str := ["_law_well_here", "_law_trial_here"]
def P__law_world : List Str := ["_law_well_here", "_law_trial_here"]
theorem sc__law_world : FnScope N__law_world P__law_world (defScope s__law_world) := ⟨rfl, rfl, rfl, by decide +kernel, rfl, by decide +kernel, by decide +kernel⟩
abbrev s__law_is_trial : Stmt := top 45
def N__law_is_trial : List Str := ["_law_thing", "_law_rows", "_law_spreads", "_law_blocks", "_law_row", "_law_part", "_law_each"]
def P__law_is_trial : List Str := ["_law_thing"]
theorem sc__law_is_trial : FnScope N__law_is_trial P__law_is_trial (defScope s__law_is_trial) := ⟨rfl, rfl, rfl, by decide +kernel, rfl, by decide +kernel, by decide +kernel⟩
abbrev s__law_is_world : Stmt := top 46
def N__law_is_world : List Str := ["_law_trial_here", "_law_thing"]
def P__law_is_world : List Str := ["_law_trial_here", "_law_thing"]
theorem sc__law_is_world : FnScope N__law_is_world P__law_is_world (defScope s__law_is_world) := ⟨rfl, rfl, rfl, by decide +kernel, rfl, by decide +kernel, by decide +kernel⟩
abbrev s__law_planted : Stmt := top 47
def N__law_planted : List Str := ["_law_well_here", "_law_trial_here", "_law_rows", "_law_spreads", "_law_blocks", "_law_way", "_law_more"]
def P__law_planted : List Str := ["_law_well_here", "_law_trial_here"]
theorem sc__law_planted : FnScope N__law_planted P__law_planted (defScope s__law_planted) := ⟨rfl, rfl, rfl, by decide +kernel, rfl, by decide +kernel, by decide +kernel⟩
abbrev s__law_right : Stmt := top 48
def N__law_right : List Str := ["_law_well_here", "_law_turn", "_law_trial_here", "_law_some", "_law_each", "_law_due", "_law_world_here", "_law_asked"]
def P__law_right : List Str := ["_law_well_here"]
theorem sc__law_right : FnScope N__law_right P__law_right (defScope s__law_right) := ⟨rfl, rfl, rfl, by decide +kernel, rfl, by decide +kernel, by decide +kernel⟩
abbrev s_law : Stmt := top 49
def N_law : List Str := ["_law_script", "_law_lap"]
def P_law : List Str := ["_law_script"]
theorem sc_law : FnScope N_law P_law (defScope s_law) := ⟨rfl, rfl, rfl, by decide +kernel, rfl, by decide +kernel, by decide +kernel⟩
end K2

set_option Elab.async false
set_option linter.all false
set_option maxRecDepth 100000
set_option maxHeartbeats 4000000
set_option autoImplicit false
namespace K2
open PySem PySem.Spec PyProof.Rows L2 RZ Gd Dl
/-! what the program's looks come to -/
def wholeB : PyData → Bool
  | .int _ => true
  | _ => false
def fracB : PyData → Bool
  | .tuple [.int a, .int b] => decide (0 < b) && decide (((Nat.gcd a.natAbs b.natAbs : Nat) : Int) = 1)
  | _ => false
def rowB (k : Int) : PyData → Bool
  | .tuple ds => decide ((ds.length : Int) = k) && ds.all fracB
  | _ => false
def blockB : PyData → Bool
  | .int i => decide (0 ≤ i) && decide (i ≤ 4)
  | _ => false
def indexB (n : Int) : PyData → Bool
  | .int i => decide (0 ≤ i) && decide (i < n)
  | _ => false
def rowLen : PyData → Option Int
  | .tuple r => some r.length
  | _ => none
def plotsB : PyData → Bool
  | .tuple (.tuple r :: rows) => decide ((rows.length : Int) + 1 ≤ 10) && (decide (1 ≤ (r.length : Int)) && (decide ((r.length : Int) ≤ 5) && (PyData.tuple r :: rows).all (rowB r.length)))
  | _ => false
def posB : PyData → Bool
  | .tuple (.int a :: _) => decide (0 < a)
  | _ => false
def spreadsB (k : Int) : PyData → Bool
  | .tuple ds => rowB k (.tuple ds) && ds.all posB
  | _ => false
def blocksB (k : Int) : PyData → Bool
  | .tuple ds => (decide (ds.length = 0) || decide ((ds.length : Int) = k)) && ds.all blockB
  | _ => false
def lenI : PyData → Int
  | .tuple ds => ds.length
  | _ => 0
def trialB : PyData → Bool
  | .tuple [r, s, b] => plotsB r && (spreadsB (lenI r) s && blocksB (lenI r) b)
  | _ => false
/-- how many unknowns, how many levels -/
def unk : PyData → Int
  | .tuple (.tuple (.tuple r :: _) :: _) => r.length
  | _ => 0
def maxI : List PyData → Int
  | [] => -1
  | d :: ds => match intsO (d :: ds) with
    | some (n :: ns) => ns.foldl max n
    | _ => -1
def lev : PyData → Int
  | .tuple [_, _, .tuple b] => maxI b + 1
  | _ => 0
def worldB (t : PyData) : PyData → Bool
  | .tuple [v, l] => rowB (unk t) v && rowB (lev t) l
  | _ => false
def g_whole : List PyData → M PyData
  | [d] => .ret (.bool (wholeB d))
  | _ => .fail
def g_frac : List PyData → M PyData
  | [d] => .ret (.bool (fracB d))
  | _ => .fail
def g_row : List PyData → M PyData
  | [d, .int k] => .ret (.bool (rowB k d))
  | _ => .fail
def g_block : List PyData → M PyData
  | [d] => .ret (.bool (blockB d))
  | _ => .fail
def g_index : List PyData → M PyData
  | [d, .int n] => .ret (.bool (indexB n d))
  | _ => .fail
def g_spread : List PyData → M PyData
  | [d] => .ret (.bool (fracB d && posB d))
  | _ => .fail
def g_plots : List PyData → M PyData
  | [d] => .ret (.bool (plotsB d))
  | _ => .fail
def g_spreads : List PyData → M PyData
  | [d, .int k] => .ret (.bool (spreadsB k d))
  | _ => .fail
def g_blocks : List PyData → M PyData
  | [d, .int k] => .ret (.bool (blocksB k d))
  | _ => .fail
def g_trial : List PyData → M PyData
  | [d] => .ret (.bool (trialB d))
  | _ => .fail
def g_check : List PyData → M PyData
  | [d] => (M.gd (trialB d = true)).bind fun _ => .ret .none
  | _ => .fail
def g_count : List PyData → M PyData
  | [d] => (M.gd (trialB d = true)).bind fun _ => .ret (.int (lev d))
  | _ => .fail
def g_quest : List PyData → M PyData
  | [t, d] => (M.gd (trialB t = true)).bind fun _ => .ret (.bool (rowB (unk t) d))
  | _ => .fail
def g_worldOf : List PyData → M PyData
  | [t, d] => (M.gd (trialB t = true)).bind fun _ => .ret (.bool (worldB t d))
  | _ => .fail
def bd_is_whole : {m : Sg // ∀ {P : Program} {w : World} {K : PySem.W.Frag} {mg : Str → Option Value} {base : Heap} {f : Addr} {cdv : Value} {A : Around} {outer : List Env} {s : Shared} {H : Hp} {E : XK} {T : Addr → Prop} {W0 : Addr → Prop} {H0 : Hp} (Tx : Txt K mg) (hG : Cl (A.deeper (envOfC "is_whole" (defScope s_is_whole) s.heap.objs.size f cdv))) (hr : Room (1 - 1) (A.deeper (envOfC "is_whole" (defScope s_is_whole) s.heap.objs.size f cdv))),
    PSs (cxOf CX0 P w K mg base N_is_whole "is_whole" (defScope s_is_whole) f cdv A outer s H E).nox (defBody s_is_whole) (tSF (fc K T none W0 H0) m)} :=
  ⟨_, fun {P w K mg base f cdv A outer s H E T W0 H0} Tx hG hr => have hu := hr.units; have hu2 := u150 hr; have nd := sc_is_whole.nd; (sf_one (sf_ret (pf_and (pf_isi (T := "int") rfl rfl Tx.n_isinstance (pg_var (pv 0)) (pe_bltn (v := .ty "int") rfl Tx.n_int (by decide +kernel) rfl)) (pf_one (pf_not (pf_isi (T := "bool") rfl rfl Tx.n_isinstance (pg_var (pv 0)) (pe_bltn (v := .ty "bool") rfl Tx.n_bool (by decide +kernel) rfl)))))))⟩
theorem cal_is_whole {P : Program} {w : World} {K : PySem.W.Frag} {mg : Str → Option Value} {base : Heap} {T : Addr → Prop} (Tx : Txt K mg) (D : Def1 K mg "is_whole" s_is_whole) {g : List PyData → M PyData} (hg : ∀ ds p, ds.length = 1 → (g ds).run p → (fnD 0 bd_is_whole.1 ds).run p) : Cal P w K mg base "is_whole" 1 P_is_whole (spD K T 1 g) := by
  refine D.cal (k := 1-1) sc_is_whole (fun vs H Q E h => h.len) (fun _ _ _ _ _ _ us hl => match us, hl with | [_], _ => rfl) fun f cdv A outer s H vs Q E hG hr h => ?_
  obtain ⟨W0, H0, q⟩ := body_d' (N := N_is_whole) (n := 1) (k := 0) (m := bd_is_whole.1) rfl (h.imp hg)

  exact ⟨_, bd_is_whole.2 Tx hG hr, q⟩
def bd_is_fraction : {m : Sg // ∀ {P : Program} {w : World} {K : PySem.W.Frag} {mg : Str → Option Value} {base : Heap} {f : Addr} {cdv : Value} {A : Around} {outer : List Env} {s : Shared} {H : Hp} {E : XK} {T : Addr → Prop} {W0 : Addr → Prop} {H0 : Hp} (Tx : Txt K mg) (c_is_whole : Cal P w K mg base "is_whole" 1 P_is_whole (spD K T 1 g_whole)) (hG : Cl (A.deeper (envOfC "is_fraction" (defScope s_is_fraction) s.heap.objs.size f cdv))) (hr : Room (2 - 1) (A.deeper (envOfC "is_fraction" (defScope s_is_fraction) s.heap.objs.size f cdv))),
    PSs (cxOf CX0 P w K mg base N_is_fraction "is_fraction" (defScope s_is_fraction) f cdv A outer s H E).nox (defBody s_is_fraction) (tSF (fc K T none W0 H0) m)} :=
  ⟨_, fun {P w K mg base f cdv A outer s H E T W0 H0} Tx c_is_whole hG hr => have hu := hr.units; have hu2 := u150 hr; have nd := sc_is_fraction.nd; (sf_cons (sf_if (PW.pt (pwf_or (ptf_not (ptf_val (pf_isi (T := "tuple") rfl rfl Tx.n_isinstance (pg_var (pv 0)) (pe_bltn (v := .ty "tuple") rfl Tx.n_tuple (by decide +kernel) rfl)))) (pwf_or1 (ptf_cmp (k_neX (K := K) rfl hu) op2_neX (pf_g (pf_fn1 (fun ha => pe_callB (k_len (K := K) rfl) rfl Tx.n_len (by decide +kernel) ha) fn_len (pg_var (pv 0)))) (pf_g pf_int) (nomark _))))) (sf_one (sf_ret pf_bl)) sf_nil) (sf_cons (sf_asg (pf_var (pv 0)) (pgf_tup (n := 2) rfl rfl (pgsf_cons (pgf_name (pg_name (i := 1) nd rfl (Or.inl rfl))) (pgsf_cons (pgf_name (pg_name (i := 2) nd rfl (Or.inl rfl))) pgsf_nil)))) (sf_one (sf_ret (pf_and (pf_callD (pe_cal c_is_whole hG (hr.mono (by decide)) rfl (paf_cons (pf_var (pv 1)) paf_nil))) (pf_and (pf_callD (pe_cal c_is_whole hG (hr.mono (by decide)) rfl (paf_cons (pf_var (pv 2)) paf_nil))) (pf_and (pf_cmp op_gtA op2_gt (pg_var (pv 2)) (pf_g pf_int) (nomark _)) (pf_one (pf_cmp (k_eqX (K := K) rfl hu) op2_eqX (pf_g (pf_fn (fun ha => pe_callBfun cr_gcd rfl Tx.g_gcd ha) fn_gcd (paf_cons (pf_var (pv 1)) (paf_cons (pf_var (pv 2)) paf_nil)))) (pf_g pf_int) (nomark _))))))))))⟩
theorem cal_is_fraction {P : Program} {w : World} {K : PySem.W.Frag} {mg : Str → Option Value} {base : Heap} {T : Addr → Prop} (Tx : Txt K mg) (D : Def1 K mg "is_fraction" s_is_fraction) (c_is_whole : Cal P w K mg base "is_whole" 1 P_is_whole (spD K T 1 g_whole)) {g : List PyData → M PyData} (hg : ∀ ds p, ds.length = 1 → (g ds).run p → (fnD 2 bd_is_fraction.1 ds).run p) : Cal P w K mg base "is_fraction" 2 P_is_fraction (spD K T 1 g) := by
  refine D.cal (k := 2-1) sc_is_fraction (fun vs H Q E h => h.len) (fun _ _ _ _ _ _ us hl => match us, hl with | [_], _ => rfl) fun f cdv A outer s H vs Q E hG hr h => ?_
  obtain ⟨W0, H0, q⟩ := body_d' (N := N_is_fraction) (n := 1) (k := 2) (m := bd_is_fraction.1) rfl (h.imp hg)

  exact ⟨_, bd_is_fraction.2 Tx c_is_whole hG hr, q⟩
def bd_is_row : {m : Sg // ∀ {P : Program} {w : World} {K : PySem.W.Frag} {mg : Str → Option Value} {base : Heap} {f : Addr} {cd TP : Addr} {A : Around} {outer : List Env} {s : Shared} {H : Hp} {E : XK} {T : Addr → Prop} {W0 : Addr → Prop} {H0 : Hp} (Tx : Txt K mg) (c_is_fraction : Cal P w K mg base "is_fraction" 2 P_is_fraction (spD K T 1 g_frac)) (TB : GxR.TabB base mg cd TP) (hP : T TP) (hG : Cl (A.deeper (envOfC "is_row" (defScope s_is_row) s.heap.objs.size f (.ref cd)))) (hr : Room (4 - 1) (A.deeper (envOfC "is_row" (defScope s_is_row) s.heap.objs.size f (.ref cd)))),
    PSs (cxOf CX0 P w K mg base N_is_row "is_row" (defScope s_is_row) f (.ref cd) A outer s H E).nox (defBody s_is_row) (tSF (fc K T none W0 H0) m)} :=
  ⟨_, fun {P w K mg base f cd TP A outer s H E T W0 H0} Tx c_is_fraction TB hP hG hr => have hu := hr.units; have hu2 := u150 hr; have nd := sc_is_row.nd; (sf_one (sf_ret (pf_and (pf_isi (T := "tuple") rfl rfl Tx.n_isinstance (pg_var (pv 0)) (pe_bltn (v := .ty "tuple") rfl Tx.n_tuple (by decide +kernel) rfl)) (pf_and (pf_cmp (k_eqX (K := K) rfl hu) op2_eqX (pf_g (pf_fn1 (fun ha => pe_callB (k_len (K := K) rfl) rfl Tx.n_len (by decide +kernel) ha) fn_len (pg_var (pv 0)))) (pg_var (pv 1)) (nomark _)) (pf_one (pf_ag (b0 := true) (caps := []) (pe_allG (ys := []) hr rfl Tx.n_all (by decide +kernel) TB rfl (gens_of (n := s.heap.objs.size + 1) (dsc := defScope s_is_row) rfl rfl (by decide +kernel) rfl rfl (by decide +kernel) rfl) (pf_var (pv 0)) (fun _ => rfl) (caps_of (by with_unfolding_all rfl)) (fun _ _ _ _ _ _ _ => pgf_name (pg_name (i := 0) (show (["part"] : List Str).Nodup by decide +kernel) rfl (Or.inl rfl))) (fun A2 s4 H2 it L code bi hA => have hG := cl_eq hA hG; have hr := room_eq hA hr; have hu := hr.units; have hu2 := u150 hr; (pf_callD (pe_cal c_is_fraction hG (hr.mono (by decide)) rfl (paf_cons (pf_var (pv 0)) paf_nil))))) hP))))))⟩
theorem cal_is_row {P : Program} {w : World} {K : PySem.W.Frag} {mg : Str → Option Value} {base : Heap} {T : Addr → Prop} (Tx : Txt K mg) (D : DefT T base K mg "is_row" s_is_row) (c_is_fraction : Cal P w K mg base "is_fraction" 2 P_is_fraction (spD K T 1 g_frac)) {g : List PyData → M PyData} (hg : ∀ ds p, ds.length = 2 → (g ds).run p → (fnD 1 bd_is_row.1 ds).run p) : Cal P w K mg base "is_row" 4 P_is_row (spD K T 2 g) := by
  refine FnG.ok2 D (k := 4-1) sc_is_row (fun vs H Q E h => h.len) (fun _ _ _ _ _ _ us hl => match us, hl with | [_, _], _ => rfl) fun f cdv A outer s H vs Q E hG hr hc h => ?_
  obtain ⟨W0, H0, q⟩ := body_d' (N := N_is_row) (n := 2) (k := 1) (m := bd_is_row.1) rfl (h.imp hg)
  obtain ⟨cd, TP, hP, rfl, TB⟩ := hc
  exact ⟨_, bd_is_row.2 Tx c_is_fraction TB hP hG hr, q⟩
def bd_is_index : {m : Sg // ∀ {P : Program} {w : World} {K : PySem.W.Frag} {mg : Str → Option Value} {base : Heap} {f : Addr} {cdv : Value} {A : Around} {outer : List Env} {s : Shared} {H : Hp} {E : XK} {T : Addr → Prop} {W0 : Addr → Prop} {H0 : Hp} (Tx : Txt K mg) (c_is_whole : Cal P w K mg base "is_whole" 1 P_is_whole (spD K T 1 g_whole)) (hG : Cl (A.deeper (envOfC "is_index" (defScope s_is_index) s.heap.objs.size f cdv))) (hr : Room (2 - 1) (A.deeper (envOfC "is_index" (defScope s_is_index) s.heap.objs.size f cdv))),
    PSs (cxOf CX0 P w K mg base N_is_index "is_index" (defScope s_is_index) f cdv A outer s H E).nox (defBody s_is_index) (tSF (fc K T none W0 H0) m)} :=
  ⟨_, fun {P w K mg base f cdv A outer s H E T W0 H0} Tx c_is_whole hG hr => have hu := hr.units; have hu2 := u150 hr; have nd := sc_is_index.nd; (sf_one (sf_ret (pf_and (pf_callD (pe_cal c_is_whole hG (hr.mono (by decide)) rfl (paf_cons (pf_var (pv 0)) paf_nil))) (pf_one (pf_chn op_leA op_ltA op2_le op2_lt (pf_g pf_int) (pg_var (pv 0)) (pg_var (pv 1)))))))⟩
theorem cal_is_index {P : Program} {w : World} {K : PySem.W.Frag} {mg : Str → Option Value} {base : Heap} {T : Addr → Prop} (Tx : Txt K mg) (D : Def1 K mg "is_index" s_is_index) (c_is_whole : Cal P w K mg base "is_whole" 1 P_is_whole (spD K T 1 g_whole)) {g : List PyData → M PyData} (hg : ∀ ds p, ds.length = 2 → (g ds).run p → (fnD 0 bd_is_index.1 ds).run p) : Cal P w K mg base "is_index" 2 P_is_index (spD K T 2 g) := by
  refine D.cal (k := 2-1) sc_is_index (fun vs H Q E h => h.len) (fun _ _ _ _ _ _ us hl => match us, hl with | [_, _], _ => rfl) fun f cdv A outer s H vs Q E hG hr h => ?_
  obtain ⟨W0, H0, q⟩ := body_d' (N := N_is_index) (n := 2) (k := 0) (m := bd_is_index.1) rfl (h.imp hg)

  exact ⟨_, bd_is_index.2 Tx c_is_whole hG hr, q⟩
def bd_is_spread : {m : Sg // ∀ {P : Program} {w : World} {K : PySem.W.Frag} {mg : Str → Option Value} {base : Heap} {f : Addr} {cdv : Value} {A : Around} {outer : List Env} {s : Shared} {H : Hp} {E : XK} {T : Addr → Prop} {W0 : Addr → Prop} {H0 : Hp} (Tx : Txt K mg) (c_is_fraction : Cal P w K mg base "is_fraction" 2 P_is_fraction (spD K T 1 g_frac)) (hG : Cl (A.deeper (envOfC "is_spread" (defScope s_is_spread) s.heap.objs.size f cdv))) (hr : Room (3 - 1) (A.deeper (envOfC "is_spread" (defScope s_is_spread) s.heap.objs.size f cdv))),
    PSs (cxOf CX0 P w K mg base N_is_spread "is_spread" (defScope s_is_spread) f cdv A outer s H E).nox (defBody s_is_spread) (tSF (fc K T none W0 H0) m)} :=
  ⟨_, fun {P w K mg base f cdv A outer s H E T W0 H0} Tx c_is_fraction hG hr => have hu := hr.units; have hu2 := u150 hr; have nd := sc_is_spread.nd; (sf_one (sf_ret (pf_and (pf_callD (pe_cal c_is_fraction hG (hr.mono (by decide)) rfl (paf_cons (pf_var (pv 0)) paf_nil))) (pf_one (pf_cmp op_gtA op2_gt (pf_g (pf_ix (k_ix (K := K) rfl) op2_ix (pg_var (pv 0)) (pf_g pf_int) (fun _ _ => rfl))) (pf_g pf_int) (nomark _))))))⟩
theorem cal_is_spread {P : Program} {w : World} {K : PySem.W.Frag} {mg : Str → Option Value} {base : Heap} {T : Addr → Prop} (Tx : Txt K mg) (D : Def1 K mg "is_spread" s_is_spread) (c_is_fraction : Cal P w K mg base "is_fraction" 2 P_is_fraction (spD K T 1 g_frac)) {g : List PyData → M PyData} (hg : ∀ ds p, ds.length = 1 → (g ds).run p → (fnD 0 bd_is_spread.1 ds).run p) : Cal P w K mg base "is_spread" 3 P_is_spread (spD K T 1 g) := by
  refine D.cal (k := 3-1) sc_is_spread (fun vs H Q E h => h.len) (fun _ _ _ _ _ _ us hl => match us, hl with | [_], _ => rfl) fun f cdv A outer s H vs Q E hG hr h => ?_
  obtain ⟨W0, H0, q⟩ := body_d' (N := N_is_spread) (n := 1) (k := 0) (m := bd_is_spread.1) rfl (h.imp hg)

  exact ⟨_, bd_is_spread.2 Tx c_is_fraction hG hr, q⟩
def bd_is_block : {m : Sg // ∀ {P : Program} {w : World} {K : PySem.W.Frag} {mg : Str → Option Value} {base : Heap} {f : Addr} {cdv : Value} {A : Around} {outer : List Env} {s : Shared} {H : Hp} {E : XK} {T : Addr → Prop} {W0 : Addr → Prop} {H0 : Hp} (Tx : Txt K mg) (c_is_index : Cal P w K mg base "is_index" 2 P_is_index (spD K T 2 g_index)) (hG : Cl (A.deeper (envOfC "is_block" (defScope s_is_block) s.heap.objs.size f cdv))) (hr : Room (3 - 1) (A.deeper (envOfC "is_block" (defScope s_is_block) s.heap.objs.size f cdv))),
    PSs (cxOf CX0 P w K mg base N_is_block "is_block" (defScope s_is_block) f cdv A outer s H E).nox (defBody s_is_block) (tSF (fc K T none W0 H0) m)} :=
  ⟨_, fun {P w K mg base f cdv A outer s H E T W0 H0} Tx c_is_index hG hr => have hu := hr.units; have hu2 := u150 hr; have nd := sc_is_block.nd; (sf_one (sf_ret (pf_callD (pe_cal c_is_index hG (hr.mono (by decide)) rfl (paf_cons (pf_var (pv 0)) (paf_cons (pf_op (fun ha hb => pe_op (k_add (K := K) rfl) ha hb) op2_add (pf_g (pf_gint rfl Tx.g_GREATEST_BLOCK)) (pf_g pf_int)) paf_nil))))))⟩
theorem cal_is_block {P : Program} {w : World} {K : PySem.W.Frag} {mg : Str → Option Value} {base : Heap} {T : Addr → Prop} (Tx : Txt K mg) (D : Def1 K mg "is_block" s_is_block) (c_is_index : Cal P w K mg base "is_index" 2 P_is_index (spD K T 2 g_index)) {g : List PyData → M PyData} (hg : ∀ ds p, ds.length = 1 → (g ds).run p → (fnD 0 bd_is_block.1 ds).run p) : Cal P w K mg base "is_block" 3 P_is_block (spD K T 1 g) := by
  refine D.cal (k := 3-1) sc_is_block (fun vs H Q E h => h.len) (fun _ _ _ _ _ _ us hl => match us, hl with | [_], _ => rfl) fun f cdv A outer s H vs Q E hG hr h => ?_
  obtain ⟨W0, H0, q⟩ := body_d' (N := N_is_block) (n := 1) (k := 0) (m := bd_is_block.1) rfl (h.imp hg)

  exact ⟨_, bd_is_block.2 Tx c_is_index hG hr, q⟩
def bd__are_plots : {m : Sg // ∀ {P : Program} {w : World} {K : PySem.W.Frag} {mg : Str → Option Value} {base : Heap} {f : Addr} {cd TP : Addr} {A : Around} {outer : List Env} {s : Shared} {H : Hp} {E : XK} {T : Addr → Prop} {W0 : Addr → Prop} {H0 : Hp} (Tx : Txt K mg) (c_is_row : Cal P w K mg base "is_row" 4 P_is_row (spD K T 2 g_row)) (TB : GxR.TabB base mg cd TP) (hP : T TP) (hG : Cl (A.deeper (envOfC "_are_plots" (defScope s__are_plots) s.heap.objs.size f (.ref cd)))) (hr : Room (6 - 1) (A.deeper (envOfC "_are_plots" (defScope s__are_plots) s.heap.objs.size f (.ref cd)))),
    PSs (cxOf CX0 P w K mg base N__are_plots "_are_plots" (defScope s__are_plots) f (.ref cd) A outer s H E).nox (defBody s__are_plots) (tSF (fc K T none W0 H0) m)} :=
  ⟨_, fun {P w K mg base f cd TP A outer s H E T W0 H0} Tx c_is_row TB hP hG hr => have hu := hr.units; have hu2 := u150 hr; have nd := sc__are_plots.nd; (sf_cons (sf_if (PW.pt (pwf_or (ptf_not (ptf_val (pf_isi (T := "tuple") rfl rfl Tx.n_isinstance (pg_var (pv 0)) (pe_bltn (v := .ty "tuple") rfl Tx.n_tuple (by decide +kernel) rfl)))) (pwf_or1 (ptf_not (ptf_chn op_leA op_leA op2_le op2_le (pf_g pf_int) (pf_g (pf_fn1 (fun ha => pe_callB (k_len (K := K) rfl) rfl Tx.n_len (by decide +kernel) ha) fn_len (pg_var (pv 0)))) (pf_g (pf_gint rfl Tx.g_MOST_PLOTS))))))) (sf_one (sf_ret pf_bl)) sf_nil) (sf_cons (sf_set1 (ps_set (i := 1) nd rfl (Or.inr rfl) (pf_ix (k_ix (K := K) rfl) op2_ix (pg_var (pv 0)) (pf_g pf_int) (fun _ _ => rfl)))) (sf_cons (sf_if (PW.pt (pwf_or (ptf_not (ptf_val (pf_isi (T := "tuple") rfl rfl Tx.n_isinstance (pg_var (pv 1)) (pe_bltn (v := .ty "tuple") rfl Tx.n_tuple (by decide +kernel) rfl)))) (pwf_or1 (ptf_not (ptf_chn op_leA op_leA op2_le op2_le (pf_g pf_int) (pf_g (pf_fn1 (fun ha => pe_callB (k_len (K := K) rfl) rfl Tx.n_len (by decide +kernel) ha) fn_len (pg_var (pv 1)))) (pf_g (pf_gint rfl Tx.g_MOST_UNKNOWNS))))))) (sf_one (sf_ret pf_bl)) sf_nil) (sf_one (sf_ret (pf_ag (b0 := true) (caps := [1]) (pe_allG (ys := ["first"]) hr rfl Tx.n_all (by decide +kernel) TB rfl (gens_of (n := s.heap.objs.size + 1) (dsc := defScope s__are_plots) rfl rfl (by decide +kernel) rfl rfl (by decide +kernel) rfl) (pf_var (pv 0)) (fun _ => rfl) (caps_of (by with_unfolding_all rfl)) (fun _ _ _ _ _ _ _ => pgf_name (pg_name (i := 0) (show (["row", "first"] : List Str).Nodup by decide +kernel) rfl (Or.inl rfl))) (fun A2 s4 H2 it L code bi hA => have hG := cl_eq hA hG; have hr := room_eq hA hr; have hu := hr.units; have hu2 := u150 hr; (pf_callD (pe_cal c_is_row hG (hr.mono (by decide)) rfl (paf_cons (pf_var (pv 0)) (paf_cons (pf_fn1 (fun ha => pe_callB (k_len (K := K) rfl) rfl Tx.n_len (by decide +kernel) ha) fn_len (pg_var (pv 1))) paf_nil)))))) hP))))))⟩
theorem cal__are_plots {P : Program} {w : World} {K : PySem.W.Frag} {mg : Str → Option Value} {base : Heap} {T : Addr → Prop} (Tx : Txt K mg) (D : DefT T base K mg "_are_plots" s__are_plots) (c_is_row : Cal P w K mg base "is_row" 4 P_is_row (spD K T 2 g_row)) {g : List PyData → M PyData} (hg : ∀ ds p, ds.length = 1 → (g ds).run p → (fnD 2 bd__are_plots.1 ds).run p) : Cal P w K mg base "_are_plots" 6 P__are_plots (spD K T 1 g) := by
  refine FnG.ok2 D (k := 6-1) sc__are_plots (fun vs H Q E h => h.len) (fun _ _ _ _ _ _ us hl => match us, hl with | [_], _ => rfl) fun f cdv A outer s H vs Q E hG hr hc h => ?_
  obtain ⟨W0, H0, q⟩ := body_d' (N := N__are_plots) (n := 1) (k := 2) (m := bd__are_plots.1) rfl (h.imp hg)
  obtain ⟨cd, TP, hP, rfl, TB⟩ := hc
  exact ⟨_, bd__are_plots.2 Tx c_is_row TB hP hG hr, q⟩
def bd__are_spreads : {m : Sg // ∀ {P : Program} {w : World} {K : PySem.W.Frag} {mg : Str → Option Value} {base : Heap} {f : Addr} {cd TP : Addr} {A : Around} {outer : List Env} {s : Shared} {H : Hp} {E : XK} {T : Addr → Prop} {W0 : Addr → Prop} {H0 : Hp} (Tx : Txt K mg) (c_is_spread : Cal P w K mg base "is_spread" 3 P_is_spread (spD K T 1 g_spread)) (TB : GxR.TabB base mg cd TP) (hP : T TP) (hG : Cl (A.deeper (envOfC "_are_spreads" (defScope s__are_spreads) s.heap.objs.size f (.ref cd)))) (hr : Room (5 - 1) (A.deeper (envOfC "_are_spreads" (defScope s__are_spreads) s.heap.objs.size f (.ref cd)))),
    PSs (cxOf CX0 P w K mg base N__are_spreads "_are_spreads" (defScope s__are_spreads) f (.ref cd) A outer s H E).nox (defBody s__are_spreads) (tSF (fc K T none W0 H0) m)} :=
  ⟨_, fun {P w K mg base f cd TP A outer s H E T W0 H0} Tx c_is_spread TB hP hG hr => have hu := hr.units; have hu2 := u150 hr; have nd := sc__are_spreads.nd; (sf_one (sf_ret (pf_and (pf_isi (T := "tuple") rfl rfl Tx.n_isinstance (pg_var (pv 0)) (pe_bltn (v := .ty "tuple") rfl Tx.n_tuple (by decide +kernel) rfl)) (pf_and (pf_cmp (k_eqX (K := K) rfl hu) op2_eqX (pf_g (pf_fn1 (fun ha => pe_callB (k_len (K := K) rfl) rfl Tx.n_len (by decide +kernel) ha) fn_len (pg_var (pv 0)))) (pg_var (pv 1)) (nomark _)) (pf_one (pf_ag (b0 := true) (caps := []) (pe_allG (ys := []) hr rfl Tx.n_all (by decide +kernel) TB rfl (gens_of (n := s.heap.objs.size + 1) (dsc := defScope s__are_spreads) rfl rfl (by decide +kernel) rfl rfl (by decide +kernel) rfl) (pf_var (pv 0)) (fun _ => rfl) (caps_of (by with_unfolding_all rfl)) (fun _ _ _ _ _ _ _ => pgf_name (pg_name (i := 0) (show (["spread"] : List Str).Nodup by decide +kernel) rfl (Or.inl rfl))) (fun A2 s4 H2 it L code bi hA => have hG := cl_eq hA hG; have hr := room_eq hA hr; have hu := hr.units; have hu2 := u150 hr; (pf_callD (pe_cal c_is_spread hG (hr.mono (by decide)) rfl (paf_cons (pf_var (pv 0)) paf_nil))))) hP))))))⟩
theorem cal__are_spreads {P : Program} {w : World} {K : PySem.W.Frag} {mg : Str → Option Value} {base : Heap} {T : Addr → Prop} (Tx : Txt K mg) (D : DefT T base K mg "_are_spreads" s__are_spreads) (c_is_spread : Cal P w K mg base "is_spread" 3 P_is_spread (spD K T 1 g_spread)) {g : List PyData → M PyData} (hg : ∀ ds p, ds.length = 2 → (g ds).run p → (fnD 1 bd__are_spreads.1 ds).run p) : Cal P w K mg base "_are_spreads" 5 P__are_spreads (spD K T 2 g) := by
  refine FnG.ok2 D (k := 5-1) sc__are_spreads (fun vs H Q E h => h.len) (fun _ _ _ _ _ _ us hl => match us, hl with | [_, _], _ => rfl) fun f cdv A outer s H vs Q E hG hr hc h => ?_
  obtain ⟨W0, H0, q⟩ := body_d' (N := N__are_spreads) (n := 2) (k := 1) (m := bd__are_spreads.1) rfl (h.imp hg)
  obtain ⟨cd, TP, hP, rfl, TB⟩ := hc
  exact ⟨_, bd__are_spreads.2 Tx c_is_spread TB hP hG hr, q⟩
def bd__are_blocks : {m : Sg // ∀ {P : Program} {w : World} {K : PySem.W.Frag} {mg : Str → Option Value} {base : Heap} {f : Addr} {cd TP : Addr} {A : Around} {outer : List Env} {s : Shared} {H : Hp} {E : XK} {T : Addr → Prop} {W0 : Addr → Prop} {H0 : Hp} (Tx : Txt K mg) (c_is_block : Cal P w K mg base "is_block" 3 P_is_block (spD K T 1 g_block)) (TB : GxR.TabB base mg cd TP) (hP : T TP) (hG : Cl (A.deeper (envOfC "_are_blocks" (defScope s__are_blocks) s.heap.objs.size f (.ref cd)))) (hr : Room (5 - 1) (A.deeper (envOfC "_are_blocks" (defScope s__are_blocks) s.heap.objs.size f (.ref cd)))),
    PSs (cxOf CX0 P w K mg base N__are_blocks "_are_blocks" (defScope s__are_blocks) f (.ref cd) A outer s H E).nox (defBody s__are_blocks) (tSF (fc K T none W0 H0) m)} :=
  ⟨_, fun {P w K mg base f cd TP A outer s H E T W0 H0} Tx c_is_block TB hP hG hr => have hu := hr.units; have hu2 := u150 hr; have nd := sc__are_blocks.nd; (sf_cons (sf_if (PW.pt (pwf_or (ptf_not (ptf_val (pf_isi (T := "tuple") rfl rfl Tx.n_isinstance (pg_var (pv 0)) (pe_bltn (v := .ty "tuple") rfl Tx.n_tuple (by decide +kernel) rfl)))) (pwf_or1 (ptf_cmp (k_notIn (K := K) rfl) op2_in (pf_g (pf_fn1 (fun ha => pe_callB (k_len (K := K) rfl) rfl Tx.n_len (by decide +kernel) ha) fn_len (pg_var (pv 0)))) (pf_g (pf_tup (paf_cons pf_int (paf_cons (pf_var (pv 1)) paf_nil)))) (by with_unfolding_all rfl))))) (sf_one (sf_ret pf_bl)) sf_nil) (sf_one (sf_ret (pf_ag (b0 := true) (caps := []) (pe_allG (ys := []) hr rfl Tx.n_all (by decide +kernel) TB rfl (gens_of (n := s.heap.objs.size + 1) (dsc := defScope s__are_blocks) rfl rfl (by decide +kernel) rfl rfl (by decide +kernel) rfl) (pf_var (pv 0)) (fun _ => rfl) (caps_of (by with_unfolding_all rfl)) (fun _ _ _ _ _ _ _ => pgf_name (pg_name (i := 0) (show (["block"] : List Str).Nodup by decide +kernel) rfl (Or.inl rfl))) (fun A2 s4 H2 it L code bi hA => have hG := cl_eq hA hG; have hr := room_eq hA hr; have hu := hr.units; have hu2 := u150 hr; (pf_callD (pe_cal c_is_block hG (hr.mono (by decide)) rfl (paf_cons (pf_var (pv 0)) paf_nil))))) hP))))⟩
theorem cal__are_blocks {P : Program} {w : World} {K : PySem.W.Frag} {mg : Str → Option Value} {base : Heap} {T : Addr → Prop} (Tx : Txt K mg) (D : DefT T base K mg "_are_blocks" s__are_blocks) (c_is_block : Cal P w K mg base "is_block" 3 P_is_block (spD K T 1 g_block)) {g : List PyData → M PyData} (hg : ∀ ds p, ds.length = 2 → (g ds).run p → (fnD 1 bd__are_blocks.1 ds).run p) : Cal P w K mg base "_are_blocks" 5 P__are_blocks (spD K T 2 g) := by
  refine FnG.ok2 D (k := 5-1) sc__are_blocks (fun vs H Q E h => h.len) (fun _ _ _ _ _ _ us hl => match us, hl with | [_, _], _ => rfl) fun f cdv A outer s H vs Q E hG hr hc h => ?_
  obtain ⟨W0, H0, q⟩ := body_d' (N := N__are_blocks) (n := 2) (k := 1) (m := bd__are_blocks.1) rfl (h.imp hg)
  obtain ⟨cd, TP, hP, rfl, TB⟩ := hc
  exact ⟨_, bd__are_blocks.2 Tx c_is_block TB hP hG hr, q⟩
end K2

set_option Elab.async false
set_option linter.all false
set_option maxRecDepth 100000
set_option maxHeartbeats 4000000
set_option autoImplicit false
namespace K2
open PySem PySem.Spec PyProof.Rows L2 RZ Gd Dl
def bd_is_trial : {m : Sg // ∀ {P : Program} {w : World} {K : PySem.W.Frag} {mg : Str → Option Value} {base : Heap} {f : Addr} {cdv : Value} {A : Around} {outer : List Env} {s : Shared} {H : Hp} {E : XK} {T : Addr → Prop} {W0 : Addr → Prop} {H0 : Hp} (Tx : Txt K mg) (c__are_plots : Cal P w K mg base "_are_plots" 6 P__are_plots (spD K T 1 g_plots)) (c__are_spreads : Cal P w K mg base "_are_spreads" 5 P__are_spreads (spD K T 2 g_spreads)) (c__are_blocks : Cal P w K mg base "_are_blocks" 5 P__are_blocks (spD K T 2 g_blocks)) (hG : Cl (A.deeper (envOfC "is_trial" (defScope s_is_trial) s.heap.objs.size f cdv))) (hr : Room (7 - 1) (A.deeper (envOfC "is_trial" (defScope s_is_trial) s.heap.objs.size f cdv))),
    PSs (cxOf CX0 P w K mg base N_is_trial "is_trial" (defScope s_is_trial) f cdv A outer s H E).nox (defBody s_is_trial) (tSF (fc K T none W0 H0) m)} :=
  ⟨_, fun {P w K mg base f cdv A outer s H E T W0 H0} Tx c__are_plots c__are_spreads c__are_blocks hG hr => have hu := hr.units; have hu2 := u150 hr; have nd := sc_is_trial.nd; (sf_cons (sf_if (PW.pt (pwf_or (ptf_not (ptf_val (pf_isi (T := "tuple") rfl rfl Tx.n_isinstance (pg_var (pv 0)) (pe_bltn (v := .ty "tuple") rfl Tx.n_tuple (by decide +kernel) rfl)))) (pwf_or1 (ptf_cmp (k_neX (K := K) rfl hu) op2_neX (pf_g (pf_fn1 (fun ha => pe_callB (k_len (K := K) rfl) rfl Tx.n_len (by decide +kernel) ha) fn_len (pg_var (pv 0)))) (pf_g pf_int) (nomark _))))) (sf_one (sf_ret pf_bl)) sf_nil) (sf_cons (sf_asg (pf_var (pv 0)) (pgf_tup (n := 3) rfl rfl (pgsf_cons (pgf_name (pg_name (i := 1) nd rfl (Or.inl rfl))) (pgsf_cons (pgf_name (pg_name (i := 2) nd rfl (Or.inl rfl))) (pgsf_cons (pgf_name (pg_name (i := 3) nd rfl (Or.inl rfl))) pgsf_nil))))) (sf_one (sf_ret (pf_and (pf_callD (pe_cal c__are_plots hG (hr.mono (by decide)) rfl (paf_cons (pf_var (pv 1)) paf_nil))) (pf_and (pf_callD (pe_cal c__are_spreads hG (hr.mono (by decide)) rfl (paf_cons (pf_var (pv 2)) (paf_cons (pf_fn1 (fun ha => pe_callB (k_len (K := K) rfl) rfl Tx.n_len (by decide +kernel) ha) fn_len (pg_var (pv 1))) paf_nil)))) (pf_one (pf_callD (pe_cal c__are_blocks hG (hr.mono (by decide)) rfl (paf_cons (pf_var (pv 3)) (paf_cons (pf_fn1 (fun ha => pe_callB (k_len (K := K) rfl) rfl Tx.n_len (by decide +kernel) ha) fn_len (pg_var (pv 1))) paf_nil)))))))))))⟩
theorem cal_is_trial {P : Program} {w : World} {K : PySem.W.Frag} {mg : Str → Option Value} {base : Heap} {T : Addr → Prop} (Tx : Txt K mg) (D : Def1 K mg "is_trial" s_is_trial) (c__are_plots : Cal P w K mg base "_are_plots" 6 P__are_plots (spD K T 1 g_plots)) (c__are_spreads : Cal P w K mg base "_are_spreads" 5 P__are_spreads (spD K T 2 g_spreads)) (c__are_blocks : Cal P w K mg base "_are_blocks" 5 P__are_blocks (spD K T 2 g_blocks)) {g : List PyData → M PyData} (hg : ∀ ds p, ds.length = 1 → (g ds).run p → (fnD 3 bd_is_trial.1 ds).run p) : Cal P w K mg base "is_trial" 7 P_is_trial (spD K T 1 g) := by
  refine D.cal (k := 7-1) sc_is_trial (fun vs H Q E h => h.len) (fun _ _ _ _ _ _ us hl => match us, hl with | [_], _ => rfl) fun f cdv A outer s H vs Q E hG hr h => ?_
  obtain ⟨W0, H0, q⟩ := body_d' (N := N_is_trial) (n := 1) (k := 3) (m := bd_is_trial.1) rfl (h.imp hg)

  exact ⟨_, bd_is_trial.2 Tx c__are_plots c__are_spreads c__are_blocks hG hr, q⟩
theorem calk_is_trial {P : Program} {w : World} {K : PySem.W.Frag} {mg : Str → Option Value} {base : Heap} {T : Addr → Prop} (Tx : Txt K mg) (D : Def1 K mg "is_trial" s_is_trial) (c__are_plots : Cal P w K mg base "_are_plots" 6 P__are_plots (spD K T 1 g_plots)) (c__are_spreads : Cal P w K mg base "_are_spreads" 5 P__are_spreads (spD K T 2 g_spreads)) (c__are_blocks : Cal P w K mg base "_are_blocks" 5 P__are_blocks (spD K T 2 g_blocks)) {g : List PyData → M PyData} (hg : ∀ ds p, ds.length = 1 → (g ds).run p → (fnD 3 bd_is_trial.1 ds).run p) : CalK P w K mg base "is_trial" 7 P_is_trial ["value"] (spD K T 1 g) gId := by
  refine Dl.Def1.calK D (k := 7-1) (ks := ["value"]) (sp := spD K T 1 g) (G := @gId) sc_is_trial (fun vs H Q E h => h.len) (fun _ _ _ _ _ _ ws hl => match ws, hl with | [_], _ => rfl) (fun _ r => r) fun f cdv A outer s H vs Q E hG hr h => ?_
  obtain ⟨W0, H0, q⟩ := body_d' (N := N_is_trial) (n := 1) (k := 3) (m := bd_is_trial.1) rfl (h.imp hg)
  exact ⟨_, bd_is_trial.2 Tx c__are_plots c__are_spreads c__are_blocks hG hr, q⟩
def bd_check_trial : {m : Sg // ∀ {P : Program} {w : World} {K : PySem.W.Frag} {mg : Str → Option Value} {base : Heap} {f : Addr} {cdv : Value} {A : Around} {outer : List Env} {s : Shared} {H : Hp} {E : XK} {T : Addr → Prop} {W0 : Addr → Prop} {H0 : Hp} (Tx : Txt K mg) (c_is_trial : Cal P w K mg base "is_trial" 7 P_is_trial (spD K T 1 g_trial)) (hG : Cl (A.deeper (envOfC "check_trial" (defScope s_check_trial) s.heap.objs.size f cdv))) (hr : Room (8 - 1) (A.deeper (envOfC "check_trial" (defScope s_check_trial) s.heap.objs.size f cdv))),
    PSs (cxOf CX0 P w K mg base N_check_trial "check_trial" (defScope s_check_trial) f cdv A outer s H E).nox (defBody s_check_trial) (tSF (fc K T none W0 H0) m)} :=
  ⟨_, fun {P w K mg base f cdv A outer s H E T W0 H0} Tx c_is_trial hG hr => have hu := hr.units; have hu2 := u150 hr; have nd := sc_check_trial.nd; (sf_one (sf_if (ptf_not (ptf_val (pf_callD (pe_cal c_is_trial hG (hr.mono (by decide)) rfl (paf_cons (pf_var (pv 0)) paf_nil))))) (sf_one sf_never) sf_nil))⟩
theorem cal_check_trial {P : Program} {w : World} {K : PySem.W.Frag} {mg : Str → Option Value} {base : Heap} {T : Addr → Prop} (Tx : Txt K mg) (D : Def1 K mg "check_trial" s_check_trial) (c_is_trial : Cal P w K mg base "is_trial" 7 P_is_trial (spD K T 1 g_trial)) {g : List PyData → M PyData} (hg : ∀ ds p, ds.length = 1 → (g ds).run p → (fnD 0 bd_check_trial.1 ds).run p) : Cal P w K mg base "check_trial" 8 P_check_trial (spD K T 1 g) := by
  refine D.cal (k := 8-1) sc_check_trial (fun vs H Q E h => h.len) (fun _ _ _ _ _ _ us hl => match us, hl with | [_], _ => rfl) fun f cdv A outer s H vs Q E hG hr h => ?_
  obtain ⟨W0, H0, q⟩ := body_d' (N := N_check_trial) (n := 1) (k := 0) (m := bd_check_trial.1) rfl (h.imp hg)

  exact ⟨_, bd_check_trial.2 Tx c_is_trial hG hr, q⟩
def bd_count_levels : {m : Sg // ∀ {P : Program} {w : World} {K : PySem.W.Frag} {mg : Str → Option Value} {base : Heap} {f : Addr} {cdv : Value} {A : Around} {outer : List Env} {s : Shared} {H : Hp} {E : XK} {T : Addr → Prop} {W0 : Addr → Prop} {H0 : Hp} (Tx : Txt K mg) (hG : Cl (A.deeper (envOfC "count_levels" (defScope s_count_levels) s.heap.objs.size f cdv))) (hr : Room (1 - 1) (A.deeper (envOfC "count_levels" (defScope s_count_levels) s.heap.objs.size f cdv))),
    PSs (cxOf CX0 P w K mg base N_count_levels "count_levels" (defScope s_count_levels) f cdv A outer s H E).nox (defBody s_count_levels) (tSF (fc K T none W0 H0) m)} :=
  ⟨_, fun {P w K mg base f cdv A outer s H E T W0 H0} Tx hG hr => have hu := hr.units; have hu2 := u150 hr; have nd := sc_count_levels.nd; (sf_one (sf_ret (pf_op (fun ha hb => pe_op (k_add (K := K) rfl) ha hb) op2_add (pf_g (pf_maxD rfl rfl hu rfl Tx.n_max (pf_ix (k_ix (K := K) rfl) op2_ix (pg_var (pv 0)) (pf_g pf_int) (fun _ _ => rfl)) (pf_un (fun ha => pe_un un_neg ha) fn1_neg (pf_g pf_int)))) (pf_g pf_int))))⟩
theorem cal_count_levels {P : Program} {w : World} {K : PySem.W.Frag} {mg : Str → Option Value} {base : Heap} {T : Addr → Prop} (Tx : Txt K mg) (D : Def1 K mg "count_levels" s_count_levels) {g : List PyData → M PyData} (hg : ∀ ds p, ds.length = 1 → (g ds).run p → (fnD 0 bd_count_levels.1 ds).run p) : Cal P w K mg base "count_levels" 1 P_count_levels (spD K T 1 g) := by
  refine D.cal (k := 1-1) sc_count_levels (fun vs H Q E h => h.len) (fun _ _ _ _ _ _ us hl => match us, hl with | [_], _ => rfl) fun f cdv A outer s H vs Q E hG hr h => ?_
  obtain ⟨W0, H0, q⟩ := body_d' (N := N_count_levels) (n := 1) (k := 0) (m := bd_count_levels.1) rfl (h.imp hg)

  exact ⟨_, bd_count_levels.2 Tx hG hr, q⟩
def bd_is_question_of : {m : Sg // ∀ {P : Program} {w : World} {K : PySem.W.Frag} {mg : Str → Option Value} {base : Heap} {f : Addr} {cdv : Value} {A : Around} {outer : List Env} {s : Shared} {H : Hp} {E : XK} {T : Addr → Prop} {W0 : Addr → Prop} {H0 : Hp} (Tx : Txt K mg) (c_is_row : Cal P w K mg base "is_row" 4 P_is_row (spD K T 2 g_row)) (hG : Cl (A.deeper (envOfC "is_question_of" (defScope s_is_question_of) s.heap.objs.size f cdv))) (hr : Room (5 - 1) (A.deeper (envOfC "is_question_of" (defScope s_is_question_of) s.heap.objs.size f cdv))),
    PSs (cxOf CX0 P w K mg base N_is_question_of "is_question_of" (defScope s_is_question_of) f cdv A outer s H E).nox (defBody s_is_question_of) (tSF (fc K T none W0 H0) m)} :=
  ⟨_, fun {P w K mg base f cdv A outer s H E T W0 H0} Tx c_is_row hG hr => have hu := hr.units; have hu2 := u150 hr; have nd := sc_is_question_of.nd; (sf_one (sf_ret (pf_callD (pe_cal c_is_row hG (hr.mono (by decide)) rfl (paf_cons (pf_var (pv 1)) (paf_cons (pf_fn1 (fun ha => pe_callB (k_len (K := K) rfl) rfl Tx.n_len (by decide +kernel) ha) fn_len (pf_g (pf_ix (k_ix (K := K) rfl) op2_ix (pf_g (pf_ix (k_ix (K := K) rfl) op2_ix (pg_var (pv 0)) (pf_g pf_int) (fun _ _ => rfl))) (pf_g pf_int) (fun _ _ => rfl)))) paf_nil))))))⟩
theorem cal_is_question_of {P : Program} {w : World} {K : PySem.W.Frag} {mg : Str → Option Value} {base : Heap} {T : Addr → Prop} (Tx : Txt K mg) (D : Def1 K mg "is_question_of" s_is_question_of) (c_is_row : Cal P w K mg base "is_row" 4 P_is_row (spD K T 2 g_row)) {g : List PyData → M PyData} (hg : ∀ ds p, ds.length = 2 → (g ds).run p → (fnD 0 bd_is_question_of.1 ds).run p) : Cal P w K mg base "is_question_of" 5 P_is_question_of (spD K T 2 g) := by
  refine D.cal (k := 5-1) sc_is_question_of (fun vs H Q E h => h.len) (fun _ _ _ _ _ _ us hl => match us, hl with | [_, _], _ => rfl) fun f cdv A outer s H vs Q E hG hr h => ?_
  obtain ⟨W0, H0, q⟩ := body_d' (N := N_is_question_of) (n := 2) (k := 0) (m := bd_is_question_of.1) rfl (h.imp hg)

  exact ⟨_, bd_is_question_of.2 Tx c_is_row hG hr, q⟩
def bd_is_world_of : {m : Sg // ∀ {P : Program} {w : World} {K : PySem.W.Frag} {mg : Str → Option Value} {base : Heap} {f : Addr} {cdv : Value} {A : Around} {outer : List Env} {s : Shared} {H : Hp} {E : XK} {T : Addr → Prop} {W0 : Addr → Prop} {H0 : Hp} (Tx : Txt K mg) (c_is_question_of : Cal P w K mg base "is_question_of" 5 P_is_question_of (spD K T 2 g_quest)) (c_is_row : Cal P w K mg base "is_row" 4 P_is_row (spD K T 2 g_row)) (c_count_levels : Cal P w K mg base "count_levels" 1 P_count_levels (spD K T 1 g_count)) (hG : Cl (A.deeper (envOfC "is_world_of" (defScope s_is_world_of) s.heap.objs.size f cdv))) (hr : Room (6 - 1) (A.deeper (envOfC "is_world_of" (defScope s_is_world_of) s.heap.objs.size f cdv))),
    PSs (cxOf CX0 P w K mg base N_is_world_of "is_world_of" (defScope s_is_world_of) f cdv A outer s H E).nox (defBody s_is_world_of) (tSF (fc K T none W0 H0) m)} :=
  ⟨_, fun {P w K mg base f cdv A outer s H E T W0 H0} Tx c_is_question_of c_is_row c_count_levels hG hr => have hu := hr.units; have hu2 := u150 hr; have nd := sc_is_world_of.nd; (sf_cons (sf_if (PW.pt (pwf_or (ptf_not (ptf_val (pf_isi (T := "tuple") rfl rfl Tx.n_isinstance (pg_var (pv 1)) (pe_bltn (v := .ty "tuple") rfl Tx.n_tuple (by decide +kernel) rfl)))) (pwf_or1 (ptf_cmp (k_neX (K := K) rfl hu) op2_neX (pf_g (pf_fn1 (fun ha => pe_callB (k_len (K := K) rfl) rfl Tx.n_len (by decide +kernel) ha) fn_len (pg_var (pv 1)))) (pf_g pf_int) (nomark _))))) (sf_one (sf_ret pf_bl)) sf_nil) (sf_cons (sf_asg (pf_var (pv 1)) (pgf_tup (n := 2) rfl rfl (pgsf_cons (pgf_name (pg_name (i := 2) nd rfl (Or.inl rfl))) (pgsf_cons (pgf_name (pg_name (i := 3) nd rfl (Or.inl rfl))) pgsf_nil)))) (sf_one (sf_ret (pf_and (pf_callD (pe_cal c_is_question_of hG (hr.mono (by decide)) rfl (paf_cons (pf_var (pv 0)) (paf_cons (pf_var (pv 2)) paf_nil)))) (pf_one (pf_callD (pe_cal c_is_row hG (hr.mono (by decide)) rfl (paf_cons (pf_var (pv 3)) (paf_cons (pf_callD (pe_cal c_count_levels hG (hr.mono (by decide)) rfl (paf_cons (pf_var (pv 0)) paf_nil))) paf_nil))))))))))⟩
theorem cal_is_world_of {P : Program} {w : World} {K : PySem.W.Frag} {mg : Str → Option Value} {base : Heap} {T : Addr → Prop} (Tx : Txt K mg) (D : Def1 K mg "is_world_of" s_is_world_of) (c_is_question_of : Cal P w K mg base "is_question_of" 5 P_is_question_of (spD K T 2 g_quest)) (c_is_row : Cal P w K mg base "is_row" 4 P_is_row (spD K T 2 g_row)) (c_count_levels : Cal P w K mg base "count_levels" 1 P_count_levels (spD K T 1 g_count)) {g : List PyData → M PyData} (hg : ∀ ds p, ds.length = 2 → (g ds).run p → (fnD 2 bd_is_world_of.1 ds).run p) : Cal P w K mg base "is_world_of" 6 P_is_world_of (spD K T 2 g) := by
  refine D.cal (k := 6-1) sc_is_world_of (fun vs H Q E h => h.len) (fun _ _ _ _ _ _ us hl => match us, hl with | [_, _], _ => rfl) fun f cdv A outer s H vs Q E hG hr h => ?_
  obtain ⟨W0, H0, q⟩ := body_d' (N := N_is_world_of) (n := 2) (k := 2) (m := bd_is_world_of.1) rfl (h.imp hg)

  exact ⟨_, bd_is_world_of.2 Tx c_is_question_of c_is_row c_count_levels hG hr, q⟩
def bd_is_world : {m : Sg // ∀ {P : Program} {w : World} {K : PySem.W.Frag} {mg : Str → Option Value} {base : Heap} {f : Addr} {cdv : Value} {A : Around} {outer : List Env} {s : Shared} {H : Hp} {E : XK} {T : Addr → Prop} {W0 : Addr → Prop} {H0 : Hp} (Tx : Txt K mg) (c_check_trial : Cal P w K mg base "check_trial" 8 P_check_trial (spD K T 1 g_check)) (c_is_world_of : Cal P w K mg base "is_world_of" 6 P_is_world_of (spD K T 2 g_worldOf)) (hG : Cl (A.deeper (envOfC "is_world" (defScope s_is_world) s.heap.objs.size f cdv))) (hr : Room (9 - 1) (A.deeper (envOfC "is_world" (defScope s_is_world) s.heap.objs.size f cdv))),
    PSs (cxOf CX0 P w K mg base N_is_world "is_world" (defScope s_is_world) f cdv A outer s H E).nox (defBody s_is_world) (tSF (fc K T none W0 H0) m)} :=
  ⟨_, fun {P w K mg base f cdv A outer s H E T W0 H0} Tx c_check_trial c_is_world_of hG hr => have hu := hr.units; have hu2 := u150 hr; have nd := sc_is_world.nd; (sf_cons (sf_expr (pf_callD (pe_cal c_check_trial hG (hr.mono (by decide)) rfl (paf_cons (pf_var (pv 0)) paf_nil)))) (sf_one (sf_ret (pf_callD (pe_cal c_is_world_of hG (hr.mono (by decide)) rfl (paf_cons (pf_var (pv 0)) (paf_cons (pf_var (pv 1)) paf_nil)))))))⟩
theorem cal_is_world {P : Program} {w : World} {K : PySem.W.Frag} {mg : Str → Option Value} {base : Heap} {T : Addr → Prop} (Tx : Txt K mg) (D : Def1 K mg "is_world" s_is_world) (c_check_trial : Cal P w K mg base "check_trial" 8 P_check_trial (spD K T 1 g_check)) (c_is_world_of : Cal P w K mg base "is_world_of" 6 P_is_world_of (spD K T 2 g_worldOf)) {g : List PyData → M PyData} (hg : ∀ ds p, ds.length = 2 → (g ds).run p → (fnD 0 bd_is_world.1 ds).run p) : Cal P w K mg base "is_world" 9 P_is_world (spD K T 2 g) := by
  refine D.cal (k := 9-1) sc_is_world (fun vs H Q E h => h.len) (fun _ _ _ _ _ _ us hl => match us, hl with | [_, _], _ => rfl) fun f cdv A outer s H vs Q E hG hr h => ?_
  obtain ⟨W0, H0, q⟩ := body_d' (N := N_is_world) (n := 2) (k := 0) (m := bd_is_world.1) rfl (h.imp hg)

  exact ⟨_, bd_is_world.2 Tx c_check_trial c_is_world_of hG hr, q⟩
theorem calk_is_world {P : Program} {w : World} {K : PySem.W.Frag} {mg : Str → Option Value} {base : Heap} {T : Addr → Prop} (Tx : Txt K mg) (D : Def1 K mg "is_world" s_is_world) (c_check_trial : Cal P w K mg base "check_trial" 8 P_check_trial (spD K T 1 g_check)) (c_is_world_of : Cal P w K mg base "is_world_of" 6 P_is_world_of (spD K T 2 g_worldOf)) {g : List PyData → M PyData} (hg : ∀ ds p, ds.length = 2 → (g ds).run p → (fnD 0 bd_is_world.1 ds).run p) : CalK P w K mg base "is_world" 9 P_is_world ["value", "trial"] (spD K T 2 g) gRev := by
  refine Dl.Def1.calK D (k := 9-1) (ks := ["value", "trial"]) (sp := spD K T 2 g) (G := @gRev) sc_is_world (fun vs H Q E h => h.len) (fun _ _ _ _ _ _ ws hl => match ws, hl with | [_, _], _ => rfl) (fun _ r => r.reverse) fun f cdv A outer s H vs Q E hG hr h => ?_
  obtain ⟨W0, H0, q⟩ := body_d' (N := N_is_world) (n := 2) (k := 0) (m := bd_is_world.1) rfl (h.imp hg)
  exact ⟨_, bd_is_world.2 Tx c_check_trial c_is_world_of hG hr, q⟩
def bd_is_question : {m : Sg // ∀ {P : Program} {w : World} {K : PySem.W.Frag} {mg : Str → Option Value} {base : Heap} {f : Addr} {cdv : Value} {A : Around} {outer : List Env} {s : Shared} {H : Hp} {E : XK} {T : Addr → Prop} {W0 : Addr → Prop} {H0 : Hp} (Tx : Txt K mg) (c_check_trial : Cal P w K mg base "check_trial" 8 P_check_trial (spD K T 1 g_check)) (c_is_question_of : Cal P w K mg base "is_question_of" 5 P_is_question_of (spD K T 2 g_quest)) (hG : Cl (A.deeper (envOfC "is_question" (defScope s_is_question) s.heap.objs.size f cdv))) (hr : Room (9 - 1) (A.deeper (envOfC "is_question" (defScope s_is_question) s.heap.objs.size f cdv))),
    PSs (cxOf CX0 P w K mg base N_is_question "is_question" (defScope s_is_question) f cdv A outer s H E).nox (defBody s_is_question) (tSF (fc K T none W0 H0) m)} :=
  ⟨_, fun {P w K mg base f cdv A outer s H E T W0 H0} Tx c_check_trial c_is_question_of hG hr => have hu := hr.units; have hu2 := u150 hr; have nd := sc_is_question.nd; (sf_cons (sf_expr (pf_callD (pe_cal c_check_trial hG (hr.mono (by decide)) rfl (paf_cons (pf_var (pv 0)) paf_nil)))) (sf_one (sf_ret (pf_callD (pe_cal c_is_question_of hG (hr.mono (by decide)) rfl (paf_cons (pf_var (pv 0)) (paf_cons (pf_var (pv 1)) paf_nil)))))))⟩
theorem cal_is_question {P : Program} {w : World} {K : PySem.W.Frag} {mg : Str → Option Value} {base : Heap} {T : Addr → Prop} (Tx : Txt K mg) (D : Def1 K mg "is_question" s_is_question) (c_check_trial : Cal P w K mg base "check_trial" 8 P_check_trial (spD K T 1 g_check)) (c_is_question_of : Cal P w K mg base "is_question_of" 5 P_is_question_of (spD K T 2 g_quest)) {g : List PyData → M PyData} (hg : ∀ ds p, ds.length = 2 → (g ds).run p → (fnD 0 bd_is_question.1 ds).run p) : Cal P w K mg base "is_question" 9 P_is_question (spD K T 2 g) := by
  refine D.cal (k := 9-1) sc_is_question (fun vs H Q E h => h.len) (fun _ _ _ _ _ _ us hl => match us, hl with | [_, _], _ => rfl) fun f cdv A outer s H vs Q E hG hr h => ?_
  obtain ⟨W0, H0, q⟩ := body_d' (N := N_is_question) (n := 2) (k := 0) (m := bd_is_question.1) rfl (h.imp hg)

  exact ⟨_, bd_is_question.2 Tx c_check_trial c_is_question_of hG hr, q⟩
theorem calk_is_question {P : Program} {w : World} {K : PySem.W.Frag} {mg : Str → Option Value} {base : Heap} {T : Addr → Prop} (Tx : Txt K mg) (D : Def1 K mg "is_question" s_is_question) (c_check_trial : Cal P w K mg base "check_trial" 8 P_check_trial (spD K T 1 g_check)) (c_is_question_of : Cal P w K mg base "is_question_of" 5 P_is_question_of (spD K T 2 g_quest)) {g : List PyData → M PyData} (hg : ∀ ds p, ds.length = 2 → (g ds).run p → (fnD 0 bd_is_question.1 ds).run p) : CalK P w K mg base "is_question" 9 P_is_question ["value", "trial"] (spD K T 2 g) gRev := by
  refine Dl.Def1.calK D (k := 9-1) (ks := ["value", "trial"]) (sp := spD K T 2 g) (G := @gRev) sc_is_question (fun vs H Q E h => h.len) (fun _ _ _ _ _ _ ws hl => match ws, hl with | [_, _], _ => rfl) (fun _ r => r.reverse) fun f cdv A outer s H vs Q E hG hr h => ?_
  obtain ⟨W0, H0, q⟩ := body_d' (N := N_is_question) (n := 2) (k := 0) (m := bd_is_question.1) rfl (h.imp hg)
  exact ⟨_, bd_is_question.2 Tx c_check_trial c_is_question_of hG hr, q⟩
def bd_levels_of : {m : Sg // ∀ {P : Program} {w : World} {K : PySem.W.Frag} {mg : Str → Option Value} {base : Heap} {f : Addr} {cdv : Value} {A : Around} {outer : List Env} {s : Shared} {H : Hp} {E : XK} {T : Addr → Prop} {W0 : Addr → Prop} {H0 : Hp} (Tx : Txt K mg) (c_check_trial : Cal P w K mg base "check_trial" 8 P_check_trial (spD K T 1 g_check)) (c_count_levels : Cal P w K mg base "count_levels" 1 P_count_levels (spD K T 1 g_count)) (hG : Cl (A.deeper (envOfC "levels_of" (defScope s_levels_of) s.heap.objs.size f cdv))) (hr : Room (9 - 1) (A.deeper (envOfC "levels_of" (defScope s_levels_of) s.heap.objs.size f cdv))),
    PSs (cxOf CX0 P w K mg base N_levels_of "levels_of" (defScope s_levels_of) f cdv A outer s H E).nox (defBody s_levels_of) (tSF (fc K T none W0 H0) m)} :=
  ⟨_, fun {P w K mg base f cdv A outer s H E T W0 H0} Tx c_check_trial c_count_levels hG hr => have hu := hr.units; have hu2 := u150 hr; have nd := sc_levels_of.nd; (sf_cons (sf_expr (pf_callD (pe_cal c_check_trial hG (hr.mono (by decide)) rfl (paf_cons (pf_var (pv 0)) paf_nil)))) (sf_one (sf_ret (pf_callD (pe_cal c_count_levels hG (hr.mono (by decide)) rfl (paf_cons (pf_var (pv 0)) paf_nil))))))⟩
theorem cal_levels_of {P : Program} {w : World} {K : PySem.W.Frag} {mg : Str → Option Value} {base : Heap} {T : Addr → Prop} (Tx : Txt K mg) (D : Def1 K mg "levels_of" s_levels_of) (c_check_trial : Cal P w K mg base "check_trial" 8 P_check_trial (spD K T 1 g_check)) (c_count_levels : Cal P w K mg base "count_levels" 1 P_count_levels (spD K T 1 g_count)) {g : List PyData → M PyData} (hg : ∀ ds p, ds.length = 1 → (g ds).run p → (fnD 0 bd_levels_of.1 ds).run p) : Cal P w K mg base "levels_of" 9 P_levels_of (spD K T 1 g) := by
  refine D.cal (k := 9-1) sc_levels_of (fun vs H Q E h => h.len) (fun _ _ _ _ _ _ us hl => match us, hl with | [_], _ => rfl) fun f cdv A outer s H vs Q E hG hr h => ?_
  obtain ⟨W0, H0, q⟩ := body_d' (N := N_levels_of) (n := 1) (k := 0) (m := bd_levels_of.1) rfl (h.imp hg)

  exact ⟨_, bd_levels_of.2 Tx c_check_trial c_count_levels hG hr, q⟩
theorem calk_levels_of {P : Program} {w : World} {K : PySem.W.Frag} {mg : Str → Option Value} {base : Heap} {T : Addr → Prop} (Tx : Txt K mg) (D : Def1 K mg "levels_of" s_levels_of) (c_check_trial : Cal P w K mg base "check_trial" 8 P_check_trial (spD K T 1 g_check)) (c_count_levels : Cal P w K mg base "count_levels" 1 P_count_levels (spD K T 1 g_count)) {g : List PyData → M PyData} (hg : ∀ ds p, ds.length = 1 → (g ds).run p → (fnD 0 bd_levels_of.1 ds).run p) : CalK P w K mg base "levels_of" 9 P_levels_of ["trial"] (spD K T 1 g) gId := by
  refine Dl.Def1.calK D (k := 9-1) (ks := ["trial"]) (sp := spD K T 1 g) (G := @gId) sc_levels_of (fun vs H Q E h => h.len) (fun _ _ _ _ _ _ ws hl => match ws, hl with | [_], _ => rfl) (fun _ r => r) fun f cdv A outer s H vs Q E hG hr h => ?_
  obtain ⟨W0, H0, q⟩ := body_d' (N := N_levels_of) (n := 1) (k := 0) (m := bd_levels_of.1) rfl (h.imp hg)
  exact ⟨_, bd_levels_of.2 Tx c_check_trial c_count_levels hG hr, q⟩
end K2

set_option Elab.async false
set_option linter.all false
set_option maxRecDepth 100000
set_option maxHeartbeats 4000000
set_option autoImplicit false
/-! Dt2: reckoning with bodies. -/
namespace Dl
open PySem PySem.Spec PyProof.Rows L2 Gd RZ
def intish : PyData → Bool
  | .int _ => true
  | .bool _ => true
  | _ => false
def boolish : PyData → Bool
  | .bool _ => true
  | _ => false
def tupB : PyData → Bool
  | .tuple _ => true
  | _ => false
@[simp] theorem isi_int (d : PyData) : o_isi "int" d = .ret (.bool (intish d)) := by
  have : kitB (tyOf d) "int" = some (intish d) := by cases d <;> (simp only [tyOf, intish, boolish, tupB]; decide +kernel)
  unfold o_isi
  rw [this]
  rfl
@[simp] theorem isi_bool (d : PyData) : o_isi "bool" d = .ret (.bool (boolish d)) := by
  have : kitB (tyOf d) "bool" = some (boolish d) := by cases d <;> (simp only [tyOf, intish, boolish, tupB]; decide +kernel)
  unfold o_isi
  rw [this]
  rfl
@[simp] theorem isi_tup (d : PyData) : o_isi "tuple" d = .ret (.bool (tupB d)) := by
  have : kitB (tyOf d) "tuple" = some (tupB d) := by cases d <;> (simp only [tyOf, intish, boolish, tupB]; decide +kernel)
  unfold o_isi
  rw [this]
  rfl
@[simp] theorem asB_bool (b : Bool) : asB (.bool b) = .ret b := rfl
theorem len1 {α : Type} {l : List α} (h : l.length = 1) : ∃ a, l = [a] := by
  cases l with
  | nil => cases h
  | cons a l => cases l with
    | nil => exact ⟨a, rfl⟩
    | cons b l => simp at h
theorem len2 {α : Type} {l : List α} (h : l.length = 2) : ∃ a b, l = [a, b] := by
  cases l with
  | nil => cases h
  | cons a l =>
    obtain ⟨b, rfl⟩ := len1 (show l.length = 1 by simpa using h)
    exact ⟨a, b, rfl⟩
theorem len3 {α : Type} {l : List α} (h : l.length = 3) : ∃ a b c, l = [a, b, c] := by
  cases l with
  | nil => cases h
  | cons a l =>
    obtain ⟨b, c, rfl⟩ := len2 (show l.length = 2 by simpa using h)
    exact ⟨a, b, c, rfl⟩
/-- all of a generator over data whose element is told by a Bool -/
theorem agL_all {elt : List Cell → M PyData} {Γ : List Cell} {b : PyData → Bool} : ∀ {ds : List PyData}, (∀ d ∈ ds, elt (.im d :: Γ) = .ret (.bool (b d))) → agL true elt Γ ds = .ret (.bool (ds.all b))
  | [], _ => rfl
  | d :: ds, h => by
    have e : agL true elt Γ (d :: ds) = (elt (.im d :: Γ)).bind fun y => (asB y).bind fun k => if k = true then agL true elt Γ ds else .ret (.bool (!true)) := rfl
    rw [e, h d (List.mem_cons_self ..)]
    simp only [M.ret_bind, asB_bool]
    rw [List.all_cons]
    cases b d with
    | true => simp only [if_pos, Bool.true_and]; exact agL_all fun x m => h x (List.mem_cons_of_mem _ m)
    | false => simp
end Dl
namespace Dl
open PySem PySem.Spec PyProof.Rows L2 Gd RZ
@[simp] theorem sh_int (i : Int) : SeqAt.shaped (.int i) = true := by simp [SeqAt.shaped, PyData.canLay0, PyData.depth]
@[simp] theorem sh_bool (i : Bool) : SeqAt.shaped (.bool i) = true := by simp [SeqAt.shaped, PyData.canLay0, PyData.depth]
@[simp] theorem sh_none : SeqAt.shaped .none = true := by simp [SeqAt.shaped, PyData.canLay0, PyData.depth]
@[simp] theorem sh_tup0 : SeqAt.shaped (.tuple []) = true := by simp [SeqAt.shaped, PyData.canLay0, PyData.canLayAll0, PyData.depth, PyData.depthAll]
@[simp] theorem sh_lst0 : SeqAt.shaped (.list []) = true := by simp [SeqAt.shaped, PyData.canLay0, PyData.canLayAll0, PyData.depth, PyData.depthAll]
@[simp] theorem eqv_ii (a b : Int) : (PyData.int a).eqv (.int b) = decide (a = b) := by
  simp only [PyData.eqv]
  by_cases h : a = b
  · subst h; simp
  · simp [h]
@[simp] theorem eqv_t0 (ds : List PyData) : PyData.eqv (.tuple ds) (.tuple []) = decide (ds = []) := by
  cases ds <;> simp [PyData.eqv, PyData.eqvAll]
@[simp] theorem gd_true' {β : Type} (k : Unit → M β) : (M.gd True).bind k = k () := M.gd_true trivial k
theorem run_if {α : Type} {b : Bool} {x y : M α} {p : α → Prop} : (if b = true then x else y).run p = if b = true then x.run p else y.run p := by cases b <;> rfl
end Dl
namespace Dl
open PySem PySem.Spec PyProof.Rows L2 Gd RZ
theorem lcL_map {b : Bg} {f : List Cell → M PyData} {Γ : List Cell} {e : PyData → PyData} : ∀ {ds : List PyData}, (∀ d ∈ ds, ((b d Γ).bind fun Γ1 => f Γ1) = .ret (e d)) → lcL b tYesM f Γ ds = .ret (ds.map e)
  | [], _ => rfl
  | d :: ds, h => by
    have q : lcL b tYesM f Γ (d :: ds) = ((b d Γ).bind fun Γ1 => f Γ1).bind fun x => (lcL b tYesM f Γ ds).bind fun r => .ret (x :: r) := rfl
    rw [q, h d (List.mem_cons_self ..), lcL_map fun x m => h x (List.mem_cons_of_mem _ m)]
    rfl
@[simp] theorem bools_map (g : PyData → Bool) : ∀ ds : List PyData, bools (ds.map fun d => .bool (g d)) = some (ds.map g)
  | [] => rfl
  | d :: ds => by
    have e : bools (.bool (g d) :: ds.map fun d => .bool (g d)) = (bools (ds.map fun d => .bool (g d))).map (g d :: ·) := rfl
    rw [List.map_cons, e, bools_map g ds]
    rfl
theorem all_map_id (g : PyData → Bool) (ds : List PyData) : (ds.map g).all id = ds.all g := by simp [List.all_map]
theorem any_map_id (g : PyData → Bool) (ds : List PyData) : (ds.map g).any id = ds.any g := by simp [List.any_map]
end Dl
namespace Dl
open PySem PySem.Spec PyProof.Rows L2 Gd RZ
/-- what a loop's turn leaves -/
def TurnO (I : List Cell → Prop) (J : List Cell → Prop) (R : PyData → Prop) : Out → Prop
  | .nx Γ => I Γ
  | .ct Γ => I Γ
  | .bk Γ => J Γ
  | .rt d => R d
def LoopO (I : List Cell → Prop) (R : PyData → Prop) : Out → Prop
  | .nx Γ => I Γ
  | .rt d => R d
  | _ => False
theorem forL_inv {b : Bg} {g : Sg} (J : List Cell → Prop) (R : PyData → Prop) : ∀ {ds : List PyData} (I : Nat → List Cell → Prop),
    (∀ i d Γ, ds[i]? = some d → I i Γ → (b d Γ).run fun Γ1 => (g Γ1).run (TurnO (I (i + 1)) J R)) → ∀ Γ, I 0 Γ → (forL b g ds Γ).run (LoopO (fun Γ' => I ds.length Γ' ∨ J Γ') R)
  | [], I, h, Γ, h0 => Or.inl h0
  | d :: ds, I, h, Γ, h0 => by
    refine (b d Γ).mono (fun Γ1 q => (g Γ1).mono (fun o q => ?_) q) (h 0 d Γ rfl h0)
    have ih := fun Γ' (h1 : I 1 Γ') => forL_inv J R (fun i => I (i + 1)) (fun i d Γ e hi => h (i + 1) d Γ (by simpa using e) hi) Γ' h1
    cases o with
    | nx Γ' => exact ih Γ' q
    | ct Γ' => exact ih Γ' q
    | bk Γ' => exact Or.inr q
    | rt d => exact q
end Dl
namespace Dl
open PySem PySem.Spec PyProof.Rows L2 Gd RZ
theorem seq_run {g1 g2 : Sg} {Γ : List Cell} {P : Out → Prop} (Q : List Cell → Prop) (h1 : (g1 Γ).run (LoopO Q fun d => P (.rt d))) (h2 : ∀ Γ', Q Γ' → (g2 Γ').run P) : (sSeq g1 g2 Γ).run P :=
  (g1 Γ).mono (fun o q => by
    cases o with
    | nx Γ' => exact h2 Γ' q
    | rt d => exact q
    | bk Γ' => exact q.elim
    | ct Γ' => exact q.elim) h1
theorem for_run {src : List Cell → M (List PyData)} {b : Bg} {g : Sg} {Γ : List Cell} {P : Out → Prop} (h : (src Γ).run fun ds => (forL b g ds Γ).run P) : (sFor src b g Γ).run P := h
theorem mem_cut {ds : List PyData} {lo hi : Option Int} {d : PyData} (h : d ∈ cutD ds lo hi) : d ∈ ds := List.mem_of_mem_drop (List.mem_of_mem_take h)
theorem len_cut (ds : List PyData) (lo hi : Option Int) : (cutD ds lo hi).length ≤ ds.length := by
  unfold cutD
  rw [List.length_take, List.length_drop]
  omega
theorem lt5 {k : Int} (h0 : 0 ≤ k) (h : k < 5) : k = 0 ∨ k = 1 ∨ k = 2 ∨ k = 3 ∨ k = 4 := by omega
end Dl

set_option Elab.async false
set_option linter.all false
set_option maxRecDepth 100000
set_option maxHeartbeats 4000000
set_option autoImplicit false
namespace K2
open PySem PySem.Spec PyProof.Rows L2 RZ Gd Dl
local macro_rules | `(tactic| wtm_at "fin") => `(tactic| first | assumption | (split <;> simp_all; done) | (simp_all; done))

theorem eq_whole : ∀ ds p, ds.length = 1 → (g_whole ds).run p → (fnD 0 bd_is_whole.1 ds).run p := by
  intro ds p hl h
  obtain ⟨d, rfl⟩ := len1 hl
  cases d <;> simpa [fnD, fnW, sNext, sBrk, sCnt, sNever, thenO, sSeq, sIf, sRet, sRetN, sDrop, sRetO, bNm, bNil, bCons, bTup, sAsg, sOwn, sApp, sPar, sPar3, sParO, sFrz, nLst, mOfN, mCon, mVar, mPk, mUn, mOp, mNil, mCons, mTup, mLst, mFn, mAnd, mOr, mNot, mIf, mChn, tVal, tAndM, tOrM, tNotM, outD, o_len, o_eqX, o_neX, o_cmp, o_add, o_sub, o_neg, o_i2, o_ix, o_in, o_gcd, o_tuple, o_list, o_int, o_abs, mCut, pNone, pSome, tupB, intish, boolish, M.run_bind, M.run_ret, Gd.at_0, Gd.at_1, Gd.at_2, Gd.at_3, Gd.at_4, Gd.at_5, M.opt_some, bd_is_whole, g_whole, wholeB] using h
theorem eq_frac : ∀ ds p, ds.length = 1 → (g_frac ds).run p → (fnD 2 bd_is_fraction.1 ds).run p := by
  intro ds p hl h
  obtain ⟨d, rfl⟩ := len1 hl
  cases d with
  | tuple xs =>
    rcases xs with _ | ⟨a, _ | ⟨b, _ | ⟨c, r⟩⟩⟩
    · simpa [fnD, fnW, sNext, sBrk, sCnt, sNever, thenO, sSeq, sIf, sRet, sRetN, sDrop, sRetO, bNm, bNil, bCons, bTup, sAsg, sOwn, sApp, sPar, sPar3, sParO, sFrz, nLst, mOfN, mCon, mVar, mPk, mUn, mOp, mNil, mCons, mTup, mLst, mFn, mAnd, mOr, mNot, mIf, mChn, tVal, tAndM, tOrM, tNotM, outD, o_len, o_eqX, o_neX, o_cmp, o_add, o_sub, o_neg, o_i2, o_ix, o_in, o_gcd, o_tuple, o_list, o_int, o_abs, mCut, pNone, pSome, tupB, intish, boolish, M.run_bind, M.run_ret, Gd.at_0, Gd.at_1, Gd.at_2, Gd.at_3, Gd.at_4, Gd.at_5, M.opt_some, bd_is_fraction, g_frac, fracB] using h
    · simpa [fnD, fnW, sNext, sBrk, sCnt, sNever, thenO, sSeq, sIf, sRet, sRetN, sDrop, sRetO, bNm, bNil, bCons, bTup, sAsg, sOwn, sApp, sPar, sPar3, sParO, sFrz, nLst, mOfN, mCon, mVar, mPk, mUn, mOp, mNil, mCons, mTup, mLst, mFn, mAnd, mOr, mNot, mIf, mChn, tVal, tAndM, tOrM, tNotM, outD, o_len, o_eqX, o_neX, o_cmp, o_add, o_sub, o_neg, o_i2, o_ix, o_in, o_gcd, o_tuple, o_list, o_int, o_abs, mCut, pNone, pSome, tupB, intish, boolish, M.run_bind, M.run_ret, Gd.at_0, Gd.at_1, Gd.at_2, Gd.at_3, Gd.at_4, Gd.at_5, M.opt_some, bd_is_fraction, g_frac, fracB] using h
    · cases a <;> cases b <;> simp [fnD, fnW, sNext, sBrk, sCnt, sNever, thenO, sSeq, sIf, sRet, sRetN, sDrop, sRetO, bNm, bNil, bCons, bTup, sAsg, sOwn, sApp, sPar, sPar3, sParO, sFrz, nLst, mOfN, mCon, mVar, mPk, mUn, mOp, mNil, mCons, mTup, mLst, mFn, mAnd, mOr, mNot, mIf, mChn, tVal, tAndM, tOrM, tNotM, outD, o_len, o_eqX, o_neX, o_cmp, o_add, o_sub, o_neg, o_i2, o_ix, o_in, o_gcd, o_tuple, o_list, o_int, o_abs, mCut, pNone, pSome, tupB, intish, boolish, M.run_bind, M.run_ret, Gd.at_0, Gd.at_1, Gd.at_2, Gd.at_3, Gd.at_4, Gd.at_5, M.opt_some, bd_is_fraction, g_frac, fracB, g_whole, wholeB] at h ⊢ <;> wtm_at "fin"
    · simp [fnD, fnW, sNext, sBrk, sCnt, sNever, thenO, sSeq, sIf, sRet, sRetN, sDrop, sRetO, bNm, bNil, bCons, bTup, sAsg, sOwn, sApp, sPar, sPar3, sParO, sFrz, nLst, mOfN, mCon, mVar, mPk, mUn, mOp, mNil, mCons, mTup, mLst, mFn, mAnd, mOr, mNot, mIf, mChn, tVal, tAndM, tOrM, tNotM, outD, o_len, o_eqX, o_neX, o_cmp, o_add, o_sub, o_neg, o_i2, o_ix, o_in, o_gcd, o_tuple, o_list, o_int, o_abs, mCut, pNone, pSome, tupB, intish, boolish, M.run_bind, M.run_ret, Gd.at_0, Gd.at_1, Gd.at_2, Gd.at_3, Gd.at_4, Gd.at_5, M.opt_some, bd_is_fraction, g_frac, fracB] at h ⊢
      exact ⟨by omega, h⟩
  | _ => simpa [fnD, fnW, sNext, sBrk, sCnt, sNever, thenO, sSeq, sIf, sRet, sRetN, sDrop, sRetO, bNm, bNil, bCons, bTup, sAsg, sOwn, sApp, sPar, sPar3, sParO, sFrz, nLst, mOfN, mCon, mVar, mPk, mUn, mOp, mNil, mCons, mTup, mLst, mFn, mAnd, mOr, mNot, mIf, mChn, tVal, tAndM, tOrM, tNotM, outD, o_len, o_eqX, o_neX, o_cmp, o_add, o_sub, o_neg, o_i2, o_ix, o_in, o_gcd, o_tuple, o_list, o_int, o_abs, mCut, pNone, pSome, tupB, intish, boolish, M.run_bind, M.run_ret, Gd.at_0, Gd.at_1, Gd.at_2, Gd.at_3, Gd.at_4, Gd.at_5, M.opt_some, bd_is_fraction, g_frac, fracB] using h
theorem eq_row : ∀ ds p, ds.length = 2 → (g_row ds).run p → (fnD 1 bd_is_row.1 ds).run p := by
  intro ds p hl h
  obtain ⟨d, k, rfl⟩ := len2 hl
  cases k with
  | int k =>
    cases d with
    | tuple xs =>
      have e : agL true (mFn (fun ds => (M.gd (ds.length = 1)).bind fun _ => g_frac ds) (mCons (mVar 0) mNil)) [] xs = .ret (.bool (xs.all fracB)) := agL_all fun d _ => by simp [fnD, fnW, sNext, sBrk, sCnt, sNever, thenO, sSeq, sIf, sRet, sRetN, sDrop, sRetO, bNm, bNil, bCons, bTup, sAsg, sOwn, sApp, sPar, sPar3, sParO, sFrz, nLst, mOfN, mCon, mVar, mPk, mUn, mOp, mNil, mCons, mTup, mLst, mFn, mAnd, mOr, mNot, mIf, mChn, tVal, tAndM, tOrM, tNotM, outD, o_len, o_eqX, o_neX, o_cmp, o_add, o_sub, o_neg, o_i2, o_ix, o_in, o_gcd, o_tuple, o_list, o_int, o_abs, mCut, pNone, pSome, tupB, intish, boolish, M.run_bind, M.run_ret, Gd.at_0, Gd.at_1, Gd.at_2, Gd.at_3, Gd.at_4, Gd.at_5, M.opt_some, g_frac]
      simp [fnD, fnW, sNext, sBrk, sCnt, sNever, thenO, sSeq, sIf, sRet, sRetN, sDrop, sRetO, bNm, bNil, bCons, bTup, sAsg, sOwn, sApp, sPar, sPar3, sParO, sFrz, nLst, mOfN, mCon, mVar, mPk, mUn, mOp, mNil, mCons, mTup, mLst, mFn, mAnd, mOr, mNot, mIf, mChn, tVal, tAndM, tOrM, tNotM, outD, o_len, o_eqX, o_neX, o_cmp, o_add, o_sub, o_neg, o_i2, o_ix, o_in, o_gcd, o_tuple, o_list, o_int, o_abs, mCut, pNone, pSome, tupB, intish, boolish, M.run_bind, M.run_ret, Gd.at_0, Gd.at_1, Gd.at_2, Gd.at_3, Gd.at_4, Gd.at_5, M.opt_some, bd_is_row, g_row, rowB, mAG] at h ⊢
      rw [e]
      wtm_at "fin"
    | _ => simpa [fnD, fnW, sNext, sBrk, sCnt, sNever, thenO, sSeq, sIf, sRet, sRetN, sDrop, sRetO, bNm, bNil, bCons, bTup, sAsg, sOwn, sApp, sPar, sPar3, sParO, sFrz, nLst, mOfN, mCon, mVar, mPk, mUn, mOp, mNil, mCons, mTup, mLst, mFn, mAnd, mOr, mNot, mIf, mChn, tVal, tAndM, tOrM, tNotM, outD, o_len, o_eqX, o_neX, o_cmp, o_add, o_sub, o_neg, o_i2, o_ix, o_in, o_gcd, o_tuple, o_list, o_int, o_abs, mCut, pNone, pSome, tupB, intish, boolish, M.run_bind, M.run_ret, Gd.at_0, Gd.at_1, Gd.at_2, Gd.at_3, Gd.at_4, Gd.at_5, M.opt_some, bd_is_row, g_row, rowB] using h
  | _ => exact h.elim
theorem eq_index : ∀ ds p, ds.length = 2 → (g_index ds).run p → (fnD 0 bd_is_index.1 ds).run p := by
  intro ds p hl h
  obtain ⟨d, k, rfl⟩ := len2 hl
  cases k with
  | int k => cases d <;> simp [fnD, fnW, sNext, sBrk, sCnt, sNever, thenO, sSeq, sIf, sRet, sRetN, sDrop, sRetO, bNm, bNil, bCons, bTup, sAsg, sOwn, sApp, sPar, sPar3, sParO, sFrz, nLst, mOfN, mCon, mVar, mPk, mUn, mOp, mNil, mCons, mTup, mLst, mFn, mAnd, mOr, mNot, mIf, mChn, tVal, tAndM, tOrM, tNotM, outD, o_len, o_eqX, o_neX, o_cmp, o_add, o_sub, o_neg, o_i2, o_ix, o_in, o_gcd, o_tuple, o_list, o_int, o_abs, mCut, pNone, pSome, tupB, intish, boolish, M.run_bind, M.run_ret, Gd.at_0, Gd.at_1, Gd.at_2, Gd.at_3, Gd.at_4, Gd.at_5, M.opt_some, bd_is_index, g_index, indexB, g_whole, wholeB] at h ⊢ <;> wtm_at "fin"
  | _ => exact h.elim
theorem eq_block : ∀ ds p, ds.length = 1 → (g_block ds).run p → (fnD 0 bd_is_block.1 ds).run p := by
  intro ds p hl h
  obtain ⟨d, rfl⟩ := len1 hl
  have e : indexB 5 d = blockB d := by
    unfold indexB blockB
    cases d with
    | int i => by_cases h1 : i ≤ 4 <;> simp [h1, show i < 5 ↔ i ≤ 4 by omega]
    | _ => rfl
  simp [fnD, fnW, sNext, sBrk, sCnt, sNever, thenO, sSeq, sIf, sRet, sRetN, sDrop, sRetO, bNm, bNil, bCons, bTup, sAsg, sOwn, sApp, sPar, sPar3, sParO, sFrz, nLst, mOfN, mCon, mVar, mPk, mUn, mOp, mNil, mCons, mTup, mLst, mFn, mAnd, mOr, mNot, mIf, mChn, tVal, tAndM, tOrM, tNotM, outD, o_len, o_eqX, o_neX, o_cmp, o_add, o_sub, o_neg, o_i2, o_ix, o_in, o_gcd, o_tuple, o_list, o_int, o_abs, mCut, pNone, pSome, tupB, intish, boolish, M.run_bind, M.run_ret, Gd.at_0, Gd.at_1, Gd.at_2, Gd.at_3, Gd.at_4, Gd.at_5, M.opt_some, bd_is_block, g_block, g_index, e] at h ⊢
  exact h
theorem eq_spread : ∀ ds p, ds.length = 1 → (g_spread ds).run p → (fnD 0 bd_is_spread.1 ds).run p := by
  intro ds p hl h
  obtain ⟨d, rfl⟩ := len1 hl
  have h : p (.bool (fracB d && posB d)) := h
  by_cases c : fracB d = true
  · have c2 := c
    unfold fracB at c2
    split at c2
    · rw [c, Bool.true_and] at h
      simp [fnD, fnW, sNext, sBrk, sCnt, sNever, thenO, sSeq, sIf, sRet, sRetN, sDrop, sRetO, bNm, bNil, bCons, bTup, sAsg, sOwn, sApp, sPar, sPar3, sParO, sFrz, nLst, mOfN, mCon, mVar, mPk, mUn, mOp, mNil, mCons, mTup, mLst, mFn, mAnd, mOr, mNot, mIf, mChn, tVal, tAndM, tOrM, tNotM, outD, o_len, o_eqX, o_neX, o_cmp, o_add, o_sub, o_neg, o_i2, o_ix, o_in, o_gcd, o_tuple, o_list, o_int, o_abs, mCut, pNone, pSome, tupB, intish, boolish, M.run_bind, M.run_ret, Gd.at_0, Gd.at_1, Gd.at_2, Gd.at_3, Gd.at_4, Gd.at_5, M.opt_some, bd_is_spread, g_frac, c]
      exact h
    · cases c2
  · have c : fracB d = false := Bool.not_eq_true _ ▸ c
    rw [c, Bool.false_and] at h
    simp [fnD, fnW, sNext, sBrk, sCnt, sNever, thenO, sSeq, sIf, sRet, sRetN, sDrop, sRetO, bNm, bNil, bCons, bTup, sAsg, sOwn, sApp, sPar, sPar3, sParO, sFrz, nLst, mOfN, mCon, mVar, mPk, mUn, mOp, mNil, mCons, mTup, mLst, mFn, mAnd, mOr, mNot, mIf, mChn, tVal, tAndM, tOrM, tNotM, outD, o_len, o_eqX, o_neX, o_cmp, o_add, o_sub, o_neg, o_i2, o_ix, o_in, o_gcd, o_tuple, o_list, o_int, o_abs, mCut, pNone, pSome, tupB, intish, boolish, M.run_bind, M.run_ret, Gd.at_0, Gd.at_1, Gd.at_2, Gd.at_3, Gd.at_4, Gd.at_5, M.opt_some, bd_is_spread, g_frac, c]
    exact h
theorem eq_blocks : ∀ ds p, ds.length = 2 → (g_blocks ds).run p → (fnD 1 bd__are_blocks.1 ds).run p := by
  intro ds p hl h
  obtain ⟨d, k, rfl⟩ := len2 hl
  cases k with
  | int k =>
    cases d with
    | tuple xs =>
      have e : agL true (mFn (fun ds => (M.gd (ds.length = 1)).bind fun _ => g_block ds) (mCons (mVar 0) mNil)) [] xs = .ret (.bool (xs.all blockB)) := agL_all fun d _ => by simp [fnD, fnW, sNext, sBrk, sCnt, sNever, thenO, sSeq, sIf, sRet, sRetN, sDrop, sRetO, bNm, bNil, bCons, bTup, sAsg, sOwn, sApp, sPar, sPar3, sParO, sFrz, nLst, mOfN, mCon, mVar, mPk, mUn, mOp, mNil, mCons, mTup, mLst, mFn, mAnd, mOr, mNot, mIf, mChn, tVal, tAndM, tOrM, tNotM, outD, o_len, o_eqX, o_neX, o_cmp, o_add, o_sub, o_neg, o_i2, o_ix, o_in, o_gcd, o_tuple, o_list, o_int, o_abs, mCut, pNone, pSome, tupB, intish, boolish, M.run_bind, M.run_ret, Gd.at_0, Gd.at_1, Gd.at_2, Gd.at_3, Gd.at_4, Gd.at_5, M.opt_some, g_block]
      simp [fnD, fnW, sNext, sBrk, sCnt, sNever, thenO, sSeq, sIf, sRet, sRetN, sDrop, sRetO, bNm, bNil, bCons, bTup, sAsg, sOwn, sApp, sPar, sPar3, sParO, sFrz, nLst, mOfN, mCon, mVar, mPk, mUn, mOp, mNil, mCons, mTup, mLst, mFn, mAnd, mOr, mNot, mIf, mChn, tVal, tAndM, tOrM, tNotM, outD, o_len, o_eqX, o_neX, o_cmp, o_add, o_sub, o_neg, o_i2, o_ix, o_in, o_gcd, o_tuple, o_list, o_int, o_abs, mCut, pNone, pSome, tupB, intish, boolish, M.run_bind, M.run_ret, Gd.at_0, Gd.at_1, Gd.at_2, Gd.at_3, Gd.at_4, Gd.at_5, M.opt_some, bd__are_blocks, g_blocks, blocksB, mAG] at h ⊢
      rw [e]
      by_cases h1 : xs = []
      · subst h1
        simpa using h
      · have n1 : ¬ (0 : Int) = xs.length := fun z => h1 (List.eq_nil_of_length_eq_zero (by omega))
        by_cases h2 : k = xs.length
        · rw [if_neg (fun z => z.2 h2)]
          simpa [h1, h2] using h
        · rw [if_pos ⟨n1, h2⟩]
          have h3 : ¬ (xs.length : Int) = k := fun z => h2 z.symm
          simpa [h1, h3] using h
    | _ => simpa [fnD, fnW, sNext, sBrk, sCnt, sNever, thenO, sSeq, sIf, sRet, sRetN, sDrop, sRetO, bNm, bNil, bCons, bTup, sAsg, sOwn, sApp, sPar, sPar3, sParO, sFrz, nLst, mOfN, mCon, mVar, mPk, mUn, mOp, mNil, mCons, mTup, mLst, mFn, mAnd, mOr, mNot, mIf, mChn, tVal, tAndM, tOrM, tNotM, outD, o_len, o_eqX, o_neX, o_cmp, o_add, o_sub, o_neg, o_i2, o_ix, o_in, o_gcd, o_tuple, o_list, o_int, o_abs, mCut, pNone, pSome, tupB, intish, boolish, M.run_bind, M.run_ret, Gd.at_0, Gd.at_1, Gd.at_2, Gd.at_3, Gd.at_4, Gd.at_5, M.opt_some, bd__are_blocks, g_blocks, blocksB] using h
  | _ => exact h.elim
theorem all_two (f g : PyData → Bool) : ∀ ds : List PyData, (ds.all fun d => f d && g d) = (ds.all f && ds.all g)
  | [] => rfl
  | d :: ds => by
    rw [List.all_cons, List.all_cons, List.all_cons, all_two f g ds]
    cases f d <;> cases g d <;> simp
theorem eq_spreads : ∀ ds p, ds.length = 2 → (g_spreads ds).run p → (fnD 1 bd__are_spreads.1 ds).run p := by
  intro ds p hl h
  obtain ⟨d, k, rfl⟩ := len2 hl
  cases k with
  | int k =>
    cases d with
    | tuple xs =>
      have e : agL true (mFn (fun ds => (M.gd (ds.length = 1)).bind fun _ => g_spread ds) (mCons (mVar 0) mNil)) [] xs = .ret (.bool (xs.all fun d => fracB d && posB d)) := agL_all fun d _ => by simp [fnD, fnW, sNext, sBrk, sCnt, sNever, thenO, sSeq, sIf, sRet, sRetN, sDrop, sRetO, bNm, bNil, bCons, bTup, sAsg, sOwn, sApp, sPar, sPar3, sParO, sFrz, nLst, mOfN, mCon, mVar, mPk, mUn, mOp, mNil, mCons, mTup, mLst, mFn, mAnd, mOr, mNot, mIf, mChn, tVal, tAndM, tOrM, tNotM, outD, o_len, o_eqX, o_neX, o_cmp, o_add, o_sub, o_neg, o_i2, o_ix, o_in, o_gcd, o_tuple, o_list, o_int, o_abs, mCut, pNone, pSome, tupB, intish, boolish, M.run_bind, M.run_ret, Gd.at_0, Gd.at_1, Gd.at_2, Gd.at_3, Gd.at_4, Gd.at_5, M.opt_some, g_spread]
      rw [all_two] at e
      have h : p (.bool (spreadsB k (.tuple xs))) := h
      unfold spreadsB rowB at h
      simp [fnD, fnW, sNext, sBrk, sCnt, sNever, thenO, sSeq, sIf, sRet, sRetN, sDrop, sRetO, bNm, bNil, bCons, bTup, sAsg, sOwn, sApp, sPar, sPar3, sParO, sFrz, nLst, mOfN, mCon, mVar, mPk, mUn, mOp, mNil, mCons, mTup, mLst, mFn, mAnd, mOr, mNot, mIf, mChn, tVal, tAndM, tOrM, tNotM, outD, o_len, o_eqX, o_neX, o_cmp, o_add, o_sub, o_neg, o_i2, o_ix, o_in, o_gcd, o_tuple, o_list, o_int, o_abs, mCut, pNone, pSome, tupB, intish, boolish, M.run_bind, M.run_ret, Gd.at_0, Gd.at_1, Gd.at_2, Gd.at_3, Gd.at_4, Gd.at_5, M.opt_some, bd__are_spreads, mAG]
      rw [e]
      by_cases h1 : (xs.length : Int) = k
      · simpa [h1] using h
      · simpa [h1] using h
    | _ => simpa [fnD, fnW, sNext, sBrk, sCnt, sNever, thenO, sSeq, sIf, sRet, sRetN, sDrop, sRetO, bNm, bNil, bCons, bTup, sAsg, sOwn, sApp, sPar, sPar3, sParO, sFrz, nLst, mOfN, mCon, mVar, mPk, mUn, mOp, mNil, mCons, mTup, mLst, mFn, mAnd, mOr, mNot, mIf, mChn, tVal, tAndM, tOrM, tNotM, outD, o_len, o_eqX, o_neX, o_cmp, o_add, o_sub, o_neg, o_i2, o_ix, o_in, o_gcd, o_tuple, o_list, o_int, o_abs, mCut, pNone, pSome, tupB, intish, boolish, M.run_bind, M.run_ret, Gd.at_0, Gd.at_1, Gd.at_2, Gd.at_3, Gd.at_4, Gd.at_5, M.opt_some, bd__are_spreads, g_spreads, spreadsB, g_row, rowB] using h
  | _ => exact h.elim
theorem eq_plots : ∀ ds p, ds.length = 1 → (g_plots ds).run p → (fnD 2 bd__are_plots.1 ds).run p := by
  intro ds p hl h
  obtain ⟨d, rfl⟩ := len1 hl
  cases d with
  | tuple xs =>
    cases xs with
    | nil => simpa [fnD, fnW, sNext, sBrk, sCnt, sNever, thenO, sSeq, sIf, sRet, sRetN, sDrop, sRetO, bNm, bNil, bCons, bTup, sAsg, sOwn, sApp, sPar, sPar3, sParO, sFrz, nLst, mOfN, mCon, mVar, mPk, mUn, mOp, mNil, mCons, mTup, mLst, mFn, mAnd, mOr, mNot, mIf, mChn, tVal, tAndM, tOrM, tNotM, outD, o_len, o_eqX, o_neX, o_cmp, o_add, o_sub, o_neg, o_i2, o_ix, o_in, o_gcd, o_tuple, o_list, o_int, o_abs, mCut, pNone, pSome, tupB, intish, boolish, M.run_bind, M.run_ret, Gd.at_0, Gd.at_1, Gd.at_2, Gd.at_3, Gd.at_4, Gd.at_5, M.opt_some, bd__are_plots, g_plots, plotsB] using h
    | cons r rows =>
      have n1 : (1 : Int) ≤ rows.length + 1 := by omega
      cases r with
      | tuple r =>
        have e : agL true (mFn (fun ds => (M.gd (ds.length = 2)).bind fun _ => g_row ds) (mCons (mVar 0) (mCons (mUn o_len (mPk 1)) mNil))) [.im (.tuple r)] (.tuple r :: rows) = .ret (.bool ((PyData.tuple r :: rows).all (rowB r.length))) := agL_all fun d _ => by simp [fnD, fnW, sNext, sBrk, sCnt, sNever, thenO, sSeq, sIf, sRet, sRetN, sDrop, sRetO, bNm, bNil, bCons, bTup, sAsg, sOwn, sApp, sPar, sPar3, sParO, sFrz, nLst, mOfN, mCon, mVar, mPk, mUn, mOp, mNil, mCons, mTup, mLst, mFn, mAnd, mOr, mNot, mIf, mChn, tVal, tAndM, tOrM, tNotM, outD, o_len, o_eqX, o_neX, o_cmp, o_add, o_sub, o_neg, o_i2, o_ix, o_in, o_gcd, o_tuple, o_list, o_int, o_abs, mCut, pNone, pSome, tupB, intish, boolish, M.run_bind, M.run_ret, Gd.at_0, Gd.at_1, Gd.at_2, Gd.at_3, Gd.at_4, Gd.at_5, M.opt_some, g_row]
        simp [fnD, fnW, sNext, sBrk, sCnt, sNever, thenO, sSeq, sIf, sRet, sRetN, sDrop, sRetO, bNm, bNil, bCons, bTup, sAsg, sOwn, sApp, sPar, sPar3, sParO, sFrz, nLst, mOfN, mCon, mVar, mPk, mUn, mOp, mNil, mCons, mTup, mLst, mFn, mAnd, mOr, mNot, mIf, mChn, tVal, tAndM, tOrM, tNotM, outD, o_len, o_eqX, o_neX, o_cmp, o_add, o_sub, o_neg, o_i2, o_ix, o_in, o_gcd, o_tuple, o_list, o_int, o_abs, mCut, pNone, pSome, tupB, intish, boolish, M.run_bind, M.run_ret, Gd.at_0, Gd.at_1, Gd.at_2, Gd.at_3, Gd.at_4, Gd.at_5, M.opt_some, bd__are_plots, g_plots, plotsB, mAG, capC, n1] at h ⊢
        rw [e]
        by_cases h1 : (10 : Int) < rows.length + 1
        · rw [if_pos h1]
          have : ¬ ((rows.length : Int) + 1 ≤ 10) := by omega
          simpa [this] using h
        · rw [if_neg h1]
          have : ((rows.length : Int) + 1 ≤ 10) := by omega
          by_cases h3 : (5 : Int) < r.length
          · have h4 : ¬ (r.length : Int) ≤ 5 := by omega
            by_cases h2 : (1 : Int) ≤ r.length <;> simpa [this, h2, h3, h4] using h
          · have h4 : (r.length : Int) ≤ 5 := by omega
            by_cases h2 : (1 : Int) ≤ r.length <;> simpa [this, h2, h3, h4] using h
      | _ =>
        simp [fnD, fnW, sNext, sBrk, sCnt, sNever, thenO, sSeq, sIf, sRet, sRetN, sDrop, sRetO, bNm, bNil, bCons, bTup, sAsg, sOwn, sApp, sPar, sPar3, sParO, sFrz, nLst, mOfN, mCon, mVar, mPk, mUn, mOp, mNil, mCons, mTup, mLst, mFn, mAnd, mOr, mNot, mIf, mChn, tVal, tAndM, tOrM, tNotM, outD, o_len, o_eqX, o_neX, o_cmp, o_add, o_sub, o_neg, o_i2, o_ix, o_in, o_gcd, o_tuple, o_list, o_int, o_abs, mCut, pNone, pSome, tupB, intish, boolish, M.run_bind, M.run_ret, Gd.at_0, Gd.at_1, Gd.at_2, Gd.at_3, Gd.at_4, Gd.at_5, M.opt_some, bd__are_plots, g_plots, plotsB, n1] at h ⊢
        first | assumption | trace_state
  | _ => simpa [fnD, fnW, sNext, sBrk, sCnt, sNever, thenO, sSeq, sIf, sRet, sRetN, sDrop, sRetO, bNm, bNil, bCons, bTup, sAsg, sOwn, sApp, sPar, sPar3, sParO, sFrz, nLst, mOfN, mCon, mVar, mPk, mUn, mOp, mNil, mCons, mTup, mLst, mFn, mAnd, mOr, mNot, mIf, mChn, tVal, tAndM, tOrM, tNotM, outD, o_len, o_eqX, o_neX, o_cmp, o_add, o_sub, o_neg, o_i2, o_ix, o_in, o_gcd, o_tuple, o_list, o_int, o_abs, mCut, pNone, pSome, tupB, intish, boolish, M.run_bind, M.run_ret, Gd.at_0, Gd.at_1, Gd.at_2, Gd.at_3, Gd.at_4, Gd.at_5, M.opt_some, bd__are_plots, g_plots, plotsB] using h
end K2

set_option Elab.async false
set_option linter.all false
set_option maxRecDepth 100000
set_option maxHeartbeats 4000000
set_option autoImplicit false
namespace K2
open PySem PySem.Spec PyProof.Rows L2 RZ Gd Dl

theorem eq_trial : ∀ ds p, ds.length = 1 → (g_trial ds).run p → (fnD 3 bd_is_trial.1 ds).run p := by
  intro ds p hl h
  obtain ⟨d, rfl⟩ := len1 hl
  cases d with
  | tuple xs =>
    rcases xs with _ | ⟨a, _ | ⟨b, _ | ⟨c, _ | ⟨e, r⟩⟩⟩⟩
    · simpa [fnD, fnW, sNext, sBrk, sCnt, sNever, thenO, sSeq, sIf, sRet, sRetN, sDrop, sRetO, bNm, bNil, bCons, bTup, sAsg, sOwn, sApp, sPar, sPar3, sParO, sFrz, nLst, mOfN, mCon, mVar, mPk, mUn, mOp, mNil, mCons, mTup, mLst, mFn, mAnd, mOr, mNot, mIf, mChn, tVal, tAndM, tOrM, tNotM, outD, o_len, o_eqX, o_neX, o_cmp, o_add, o_sub, o_neg, o_i2, o_ix, o_in, o_gcd, o_tuple, o_list, o_int, o_abs, mCut, pNone, pSome, tupB, intish, boolish, M.run_bind, M.run_ret, Gd.at_0, Gd.at_1, Gd.at_2, Gd.at_3, Gd.at_4, Gd.at_5, M.opt_some, bd_is_trial, g_trial, trialB] using h
    · simpa [fnD, fnW, sNext, sBrk, sCnt, sNever, thenO, sSeq, sIf, sRet, sRetN, sDrop, sRetO, bNm, bNil, bCons, bTup, sAsg, sOwn, sApp, sPar, sPar3, sParO, sFrz, nLst, mOfN, mCon, mVar, mPk, mUn, mOp, mNil, mCons, mTup, mLst, mFn, mAnd, mOr, mNot, mIf, mChn, tVal, tAndM, tOrM, tNotM, outD, o_len, o_eqX, o_neX, o_cmp, o_add, o_sub, o_neg, o_i2, o_ix, o_in, o_gcd, o_tuple, o_list, o_int, o_abs, mCut, pNone, pSome, tupB, intish, boolish, M.run_bind, M.run_ret, Gd.at_0, Gd.at_1, Gd.at_2, Gd.at_3, Gd.at_4, Gd.at_5, M.opt_some, bd_is_trial, g_trial, trialB] using h
    · simpa [fnD, fnW, sNext, sBrk, sCnt, sNever, thenO, sSeq, sIf, sRet, sRetN, sDrop, sRetO, bNm, bNil, bCons, bTup, sAsg, sOwn, sApp, sPar, sPar3, sParO, sFrz, nLst, mOfN, mCon, mVar, mPk, mUn, mOp, mNil, mCons, mTup, mLst, mFn, mAnd, mOr, mNot, mIf, mChn, tVal, tAndM, tOrM, tNotM, outD, o_len, o_eqX, o_neX, o_cmp, o_add, o_sub, o_neg, o_i2, o_ix, o_in, o_gcd, o_tuple, o_list, o_int, o_abs, mCut, pNone, pSome, tupB, intish, boolish, M.run_bind, M.run_ret, Gd.at_0, Gd.at_1, Gd.at_2, Gd.at_3, Gd.at_4, Gd.at_5, M.opt_some, bd_is_trial, g_trial, trialB] using h
    · simp [fnD, fnW, sNext, sBrk, sCnt, sNever, thenO, sSeq, sIf, sRet, sRetN, sDrop, sRetO, bNm, bNil, bCons, bTup, sAsg, sOwn, sApp, sPar, sPar3, sParO, sFrz, nLst, mOfN, mCon, mVar, mPk, mUn, mOp, mNil, mCons, mTup, mLst, mFn, mAnd, mOr, mNot, mIf, mChn, tVal, tAndM, tOrM, tNotM, outD, o_len, o_eqX, o_neX, o_cmp, o_add, o_sub, o_neg, o_i2, o_ix, o_in, o_gcd, o_tuple, o_list, o_int, o_abs, mCut, pNone, pSome, tupB, intish, boolish, M.run_bind, M.run_ret, Gd.at_0, Gd.at_1, Gd.at_2, Gd.at_3, Gd.at_4, Gd.at_5, M.opt_some, bd_is_trial, g_trial, trialB, g_plots, g_spreads, g_blocks] at h ⊢
      cases a with
      | tuple a =>
        simp [lenI] at h ⊢
        by_cases h1 : plotsB (.tuple a) = true <;> by_cases h2 : spreadsB a.length b = true <;> simpa [h1, h2] using h
      | _ => simpa [plotsB] using h
    · simp [fnD, fnW, sNext, sBrk, sCnt, sNever, thenO, sSeq, sIf, sRet, sRetN, sDrop, sRetO, bNm, bNil, bCons, bTup, sAsg, sOwn, sApp, sPar, sPar3, sParO, sFrz, nLst, mOfN, mCon, mVar, mPk, mUn, mOp, mNil, mCons, mTup, mLst, mFn, mAnd, mOr, mNot, mIf, mChn, tVal, tAndM, tOrM, tNotM, outD, o_len, o_eqX, o_neX, o_cmp, o_add, o_sub, o_neg, o_i2, o_ix, o_in, o_gcd, o_tuple, o_list, o_int, o_abs, mCut, pNone, pSome, tupB, intish, boolish, M.run_bind, M.run_ret, Gd.at_0, Gd.at_1, Gd.at_2, Gd.at_3, Gd.at_4, Gd.at_5, M.opt_some, bd_is_trial, g_trial, trialB] at h ⊢
      exact ⟨by omega, h⟩
  | _ => simpa [fnD, fnW, sNext, sBrk, sCnt, sNever, thenO, sSeq, sIf, sRet, sRetN, sDrop, sRetO, bNm, bNil, bCons, bTup, sAsg, sOwn, sApp, sPar, sPar3, sParO, sFrz, nLst, mOfN, mCon, mVar, mPk, mUn, mOp, mNil, mCons, mTup, mLst, mFn, mAnd, mOr, mNot, mIf, mChn, tVal, tAndM, tOrM, tNotM, outD, o_len, o_eqX, o_neX, o_cmp, o_add, o_sub, o_neg, o_i2, o_ix, o_in, o_gcd, o_tuple, o_list, o_int, o_abs, mCut, pNone, pSome, tupB, intish, boolish, M.run_bind, M.run_ret, Gd.at_0, Gd.at_1, Gd.at_2, Gd.at_3, Gd.at_4, Gd.at_5, M.opt_some, bd_is_trial, g_trial, trialB] using h
theorem eq_check : ∀ ds p, ds.length = 1 → (g_check ds).run p → (fnD 0 bd_check_trial.1 ds).run p := by
  intro ds p hl h
  obtain ⟨d, rfl⟩ := len1 hl
  simp [fnD, fnW, sNext, sBrk, sCnt, sNever, thenO, sSeq, sIf, sRet, sRetN, sDrop, sRetO, bNm, bNil, bCons, bTup, sAsg, sOwn, sApp, sPar, sPar3, sParO, sFrz, nLst, mOfN, mCon, mVar, mPk, mUn, mOp, mNil, mCons, mTup, mLst, mFn, mAnd, mOr, mNot, mIf, mChn, tVal, tAndM, tOrM, tNotM, outD, o_len, o_eqX, o_neX, o_cmp, o_add, o_sub, o_neg, o_i2, o_ix, o_in, o_gcd, o_tuple, o_list, o_int, o_abs, mCut, pNone, pSome, tupB, intish, boolish, M.run_bind, M.run_ret, Gd.at_0, Gd.at_1, Gd.at_2, Gd.at_3, Gd.at_4, Gd.at_5, M.opt_some, bd_check_trial, g_check, g_trial] at h ⊢
  simpa [h.1] using h.2
theorem trial_cases {d : PyData} (h : trialB d = true) : ∃ r rows s b, d = .tuple [.tuple (.tuple r :: rows), .tuple s, .tuple b] ∧ (1 ≤ r.length ∧ r.length ≤ 5) ∧ rows.length + 1 ≤ 10 ∧ (∀ x ∈ PyData.tuple r :: rows, rowB r.length x = true) ∧ rowB (rows.length + 1) (.tuple s) = true ∧ s.all posB = true ∧ (b = [] ∨ b.length = rows.length + 1) ∧ b.all blockB = true := by
  unfold trialB at h
  split at h
  · rename_i r s b
    simp only [Bool.and_eq_true] at h
    obtain ⟨h1, h2, h3⟩ := h
    unfold plotsB at h1
    split at h1
    · rename_i r rows
      simp only [Bool.and_eq_true, decide_eq_true_eq] at h1
      unfold spreadsB at h2
      split at h2
      · rename_i s
        simp only [Bool.and_eq_true] at h2
        unfold blocksB at h3
        split at h3
        · rename_i b
          simp only [Bool.and_eq_true, Bool.or_eq_true, decide_eq_true_eq, lenI] at h3
          refine ⟨r, rows, s, b, rfl, by omega, by omega, List.all_eq_true.mp h1.2.2.2, by simpa [lenI] using h2.1, h2.2, h3.1.imp List.eq_nil_of_length_eq_zero fun z => by (simp at z; have z := of_decide_eq_true z; omega), h3.2⟩
        · cases h3
      · cases h2
    · cases h1
  · cases h
theorem blocks_ints : ∀ {b : List PyData}, b.all blockB = true → ∃ ns, intsO b = some ns ∧ b = ns.map PyData.int ∧ ∀ n ∈ ns, 0 ≤ n ∧ n ≤ 4
  | [], _ => ⟨[], rfl, rfl, fun _ h => by cases h⟩
  | d :: b, h => by
    rw [List.all_cons, Bool.and_eq_true] at h
    obtain ⟨ns, e, e2, q⟩ := blocks_ints h.2
    cases d with
    | int i =>
      refine ⟨i :: ns, by simp [intsO, e], by rw [e2]; rfl, fun n m => ?_⟩
      rcases List.mem_cons.mp m with rfl | m
      · have := h.1
        simpa [blockB] using this
      · exact q n m
    | _ => cases h.1
theorem eq_count : ∀ ds p, ds.length = 1 → (g_count ds).run p → (fnD 0 bd_count_levels.1 ds).run p := by
  intro ds p hl h
  obtain ⟨d, rfl⟩ := len1 hl
  obtain ⟨h1, h2⟩ := h
  obtain ⟨r, rows, s, b, rfl, _, _, _, _, _, _, hb⟩ := trial_cases h1
  obtain ⟨ns, e, e2, _⟩ := blocks_ints hb
  subst e2
  cases ns with
  | nil => simpa [fnD, fnW, sNext, sBrk, sCnt, sNever, thenO, sSeq, sIf, sRet, sRetN, sDrop, sRetO, bNm, bNil, bCons, bTup, sAsg, sOwn, sApp, sPar, sPar3, sParO, sFrz, nLst, mOfN, mCon, mVar, mPk, mUn, mOp, mNil, mCons, mTup, mLst, mFn, mAnd, mOr, mNot, mIf, mChn, tVal, tAndM, tOrM, tNotM, outD, o_len, o_eqX, o_neX, o_cmp, o_add, o_sub, o_neg, o_i2, o_ix, o_in, o_gcd, o_tuple, o_list, o_int, o_abs, mCut, pNone, pSome, tupB, intish, boolish, M.run_bind, M.run_ret, Gd.at_0, Gd.at_1, Gd.at_2, Gd.at_3, Gd.at_4, Gd.at_5, M.opt_some, bd_count_levels, lev, maxI, o_maxD, intsO] using h2
  | cons n ns =>
    simp only [List.map_cons] at e h2 ⊢
    simpa [fnD, fnW, sNext, sBrk, sCnt, sNever, thenO, sSeq, sIf, sRet, sRetN, sDrop, sRetO, bNm, bNil, bCons, bTup, sAsg, sOwn, sApp, sPar, sPar3, sParO, sFrz, nLst, mOfN, mCon, mVar, mPk, mUn, mOp, mNil, mCons, mTup, mLst, mFn, mAnd, mOr, mNot, mIf, mChn, tVal, tAndM, tOrM, tNotM, outD, o_len, o_eqX, o_neX, o_cmp, o_add, o_sub, o_neg, o_i2, o_ix, o_in, o_gcd, o_tuple, o_list, o_int, o_abs, mCut, pNone, pSome, tupB, intish, boolish, M.run_bind, M.run_ret, Gd.at_0, Gd.at_1, Gd.at_2, Gd.at_3, Gd.at_4, Gd.at_5, M.opt_some, bd_count_levels, lev, maxI, o_maxD, e] using h2
theorem eq_quest : ∀ ds p, ds.length = 2 → (g_quest ds).run p → (fnD 0 bd_is_question_of.1 ds).run p := by
  intro ds p hl h
  obtain ⟨t, d, rfl⟩ := len2 hl
  obtain ⟨h1, h2⟩ := h
  obtain ⟨r, rows, s, b, rfl, _⟩ := trial_cases h1
  simpa [fnD, fnW, sNext, sBrk, sCnt, sNever, thenO, sSeq, sIf, sRet, sRetN, sDrop, sRetO, bNm, bNil, bCons, bTup, sAsg, sOwn, sApp, sPar, sPar3, sParO, sFrz, nLst, mOfN, mCon, mVar, mPk, mUn, mOp, mNil, mCons, mTup, mLst, mFn, mAnd, mOr, mNot, mIf, mChn, tVal, tAndM, tOrM, tNotM, outD, o_len, o_eqX, o_neX, o_cmp, o_add, o_sub, o_neg, o_i2, o_ix, o_in, o_gcd, o_tuple, o_list, o_int, o_abs, mCut, pNone, pSome, tupB, intish, boolish, M.run_bind, M.run_ret, Gd.at_0, Gd.at_1, Gd.at_2, Gd.at_3, Gd.at_4, Gd.at_5, M.opt_some, bd_is_question_of, g_row, unk] using h2
theorem eq_worldOf : ∀ ds p, ds.length = 2 → (g_worldOf ds).run p → (fnD 2 bd_is_world_of.1 ds).run p := by
  intro ds p hl h
  obtain ⟨t, d, rfl⟩ := len2 hl
  obtain ⟨h1, h2⟩ := h
  cases d with
  | tuple xs =>
    rcases xs with _ | ⟨a, _ | ⟨b, _ | ⟨c, r⟩⟩⟩
    · simpa [fnD, fnW, sNext, sBrk, sCnt, sNever, thenO, sSeq, sIf, sRet, sRetN, sDrop, sRetO, bNm, bNil, bCons, bTup, sAsg, sOwn, sApp, sPar, sPar3, sParO, sFrz, nLst, mOfN, mCon, mVar, mPk, mUn, mOp, mNil, mCons, mTup, mLst, mFn, mAnd, mOr, mNot, mIf, mChn, tVal, tAndM, tOrM, tNotM, outD, o_len, o_eqX, o_neX, o_cmp, o_add, o_sub, o_neg, o_i2, o_ix, o_in, o_gcd, o_tuple, o_list, o_int, o_abs, mCut, pNone, pSome, tupB, intish, boolish, M.run_bind, M.run_ret, Gd.at_0, Gd.at_1, Gd.at_2, Gd.at_3, Gd.at_4, Gd.at_5, M.opt_some, bd_is_world_of, worldB] using h2
    · simpa [fnD, fnW, sNext, sBrk, sCnt, sNever, thenO, sSeq, sIf, sRet, sRetN, sDrop, sRetO, bNm, bNil, bCons, bTup, sAsg, sOwn, sApp, sPar, sPar3, sParO, sFrz, nLst, mOfN, mCon, mVar, mPk, mUn, mOp, mNil, mCons, mTup, mLst, mFn, mAnd, mOr, mNot, mIf, mChn, tVal, tAndM, tOrM, tNotM, outD, o_len, o_eqX, o_neX, o_cmp, o_add, o_sub, o_neg, o_i2, o_ix, o_in, o_gcd, o_tuple, o_list, o_int, o_abs, mCut, pNone, pSome, tupB, intish, boolish, M.run_bind, M.run_ret, Gd.at_0, Gd.at_1, Gd.at_2, Gd.at_3, Gd.at_4, Gd.at_5, M.opt_some, bd_is_world_of, worldB] using h2
    · simp [fnD, fnW, sNext, sBrk, sCnt, sNever, thenO, sSeq, sIf, sRet, sRetN, sDrop, sRetO, bNm, bNil, bCons, bTup, sAsg, sOwn, sApp, sPar, sPar3, sParO, sFrz, nLst, mOfN, mCon, mVar, mPk, mUn, mOp, mNil, mCons, mTup, mLst, mFn, mAnd, mOr, mNot, mIf, mChn, tVal, tAndM, tOrM, tNotM, outD, o_len, o_eqX, o_neX, o_cmp, o_add, o_sub, o_neg, o_i2, o_ix, o_in, o_gcd, o_tuple, o_list, o_int, o_abs, mCut, pNone, pSome, tupB, intish, boolish, M.run_bind, M.run_ret, Gd.at_0, Gd.at_1, Gd.at_2, Gd.at_3, Gd.at_4, Gd.at_5, M.opt_some, bd_is_world_of, worldB, g_quest, g_count, g_row, h1] at h2 ⊢
      split <;> simp_all
    · simp [fnD, fnW, sNext, sBrk, sCnt, sNever, thenO, sSeq, sIf, sRet, sRetN, sDrop, sRetO, bNm, bNil, bCons, bTup, sAsg, sOwn, sApp, sPar, sPar3, sParO, sFrz, nLst, mOfN, mCon, mVar, mPk, mUn, mOp, mNil, mCons, mTup, mLst, mFn, mAnd, mOr, mNot, mIf, mChn, tVal, tAndM, tOrM, tNotM, outD, o_len, o_eqX, o_neX, o_cmp, o_add, o_sub, o_neg, o_i2, o_ix, o_in, o_gcd, o_tuple, o_list, o_int, o_abs, mCut, pNone, pSome, tupB, intish, boolish, M.run_bind, M.run_ret, Gd.at_0, Gd.at_1, Gd.at_2, Gd.at_3, Gd.at_4, Gd.at_5, M.opt_some, bd_is_world_of, worldB] at h2 ⊢
      exact ⟨by omega, h2⟩
  | _ => simpa [fnD, fnW, sNext, sBrk, sCnt, sNever, thenO, sSeq, sIf, sRet, sRetN, sDrop, sRetO, bNm, bNil, bCons, bTup, sAsg, sOwn, sApp, sPar, sPar3, sParO, sFrz, nLst, mOfN, mCon, mVar, mPk, mUn, mOp, mNil, mCons, mTup, mLst, mFn, mAnd, mOr, mNot, mIf, mChn, tVal, tAndM, tOrM, tNotM, outD, o_len, o_eqX, o_neX, o_cmp, o_add, o_sub, o_neg, o_i2, o_ix, o_in, o_gcd, o_tuple, o_list, o_int, o_abs, mCut, pNone, pSome, tupB, intish, boolish, M.run_bind, M.run_ret, Gd.at_0, Gd.at_1, Gd.at_2, Gd.at_3, Gd.at_4, Gd.at_5, M.opt_some, bd_is_world_of, worldB] using h2
theorem eq_world : ∀ ds p, ds.length = 2 → (g_worldOf ds).run p → (fnD 0 bd_is_world.1 ds).run p := by
  intro ds p hl h
  obtain ⟨t, d, rfl⟩ := len2 hl
  simpa [fnD, fnW, sNext, sBrk, sCnt, sNever, thenO, sSeq, sIf, sRet, sRetN, sDrop, sRetO, bNm, bNil, bCons, bTup, sAsg, sOwn, sApp, sPar, sPar3, sParO, sFrz, nLst, mOfN, mCon, mVar, mPk, mUn, mOp, mNil, mCons, mTup, mLst, mFn, mAnd, mOr, mNot, mIf, mChn, tVal, tAndM, tOrM, tNotM, outD, o_len, o_eqX, o_neX, o_cmp, o_add, o_sub, o_neg, o_i2, o_ix, o_in, o_gcd, o_tuple, o_list, o_int, o_abs, mCut, pNone, pSome, tupB, intish, boolish, M.run_bind, M.run_ret, Gd.at_0, Gd.at_1, Gd.at_2, Gd.at_3, Gd.at_4, Gd.at_5, M.opt_some, bd_is_world, g_worldOf, g_check] using h
theorem eq_question : ∀ ds p, ds.length = 2 → (g_quest ds).run p → (fnD 0 bd_is_question.1 ds).run p := by
  intro ds p hl h
  obtain ⟨t, d, rfl⟩ := len2 hl
  simpa [fnD, fnW, sNext, sBrk, sCnt, sNever, thenO, sSeq, sIf, sRet, sRetN, sDrop, sRetO, bNm, bNil, bCons, bTup, sAsg, sOwn, sApp, sPar, sPar3, sParO, sFrz, nLst, mOfN, mCon, mVar, mPk, mUn, mOp, mNil, mCons, mTup, mLst, mFn, mAnd, mOr, mNot, mIf, mChn, tVal, tAndM, tOrM, tNotM, outD, o_len, o_eqX, o_neX, o_cmp, o_add, o_sub, o_neg, o_i2, o_ix, o_in, o_gcd, o_tuple, o_list, o_int, o_abs, mCut, pNone, pSome, tupB, intish, boolish, M.run_bind, M.run_ret, Gd.at_0, Gd.at_1, Gd.at_2, Gd.at_3, Gd.at_4, Gd.at_5, M.opt_some, bd_is_question, g_quest, g_check] using h
theorem eq_levels : ∀ ds p, ds.length = 1 → (g_count ds).run p → (fnD 0 bd_levels_of.1 ds).run p := by
  intro ds p hl h
  obtain ⟨d, rfl⟩ := len1 hl
  simpa [fnD, fnW, sNext, sBrk, sCnt, sNever, thenO, sSeq, sIf, sRet, sRetN, sDrop, sRetO, bNm, bNil, bCons, bTup, sAsg, sOwn, sApp, sPar, sPar3, sParO, sFrz, nLst, mOfN, mCon, mVar, mPk, mUn, mOp, mNil, mCons, mTup, mLst, mFn, mAnd, mOr, mNot, mIf, mChn, tVal, tAndM, tOrM, tNotM, outD, o_len, o_eqX, o_neX, o_cmp, o_add, o_sub, o_neg, o_i2, o_ix, o_in, o_gcd, o_tuple, o_list, o_int, o_abs, mCut, pNone, pSome, tupB, intish, boolish, M.run_bind, M.run_ret, Gd.at_0, Gd.at_1, Gd.at_2, Gd.at_3, Gd.at_4, Gd.at_5, M.opt_some, bd_levels_of, g_count, g_check] using h
end K2

set_option Elab.async false
set_option linter.all false
set_option maxRecDepth 100000
set_option maxHeartbeats 4000000
set_option autoImplicit false
namespace K2
open PySem PySem.Spec PyProof.Rows L2 RZ Gd Dl

mutual
/-- ints below 2 ^ 200 alone -/
def smal : PyData → Bool
  | .int i => decide (i.natAbs < 2 ^ 200)
  | .list ds => smalL ds
  | .tuple ds => smalL ds
  | _ => true
def smalL : List PyData → Bool
  | [] => true
  | d :: ds => smal d && smalL ds
end
theorem smalL_iff : ∀ {ds : List PyData}, smalL ds = true ↔ ∀ d ∈ ds, smal d = true
  | [] => by simp [smalL]
  | d :: ds => by
    simp only [smalL, Bool.and_eq_true, List.mem_cons, forall_eq_or_imp]
    rw [smalL_iff]
theorem smal_tup {ds : List PyData} (h : smal (.tuple ds) = true) : ∀ d ∈ ds, smal d = true := smalL_iff.mp (by simpa [smal] using h)
theorem tup_smal {ds : List PyData} (h : ∀ d ∈ ds, smal d = true) : smal (.tuple ds) = true := by simp only [smal]; exact smalL_iff.mpr h
def g_ltup : List PyData → M PyData
  | [.tuple ds, .int k] => .ret (.bool (decide ((ds.length : Int) = k)))
  | [_, .int _] => .ret (.bool false)
  | _ => .fail
def g_lean : List PyData → M PyData
  | [.int n, .int d] => (M.gd (0 < d ∧ d.natAbs < 2 ^ 8000)).bind fun _ => .ret (frD (leanF n d))
  | _ => .fail
def g_lpart : List PyData → M PyData
  | [d] => (M.gd (smal d = true)).bind fun _ => .ret (.bool (fracB d))
  | _ => .fail
def g_lrow : List PyData → M PyData
  | [d, .int k] => (M.gd (smal d = true ∧ k ≤ 1000)).bind fun _ => .ret (.bool (rowB k d))
  | _ => .fail
def g_llev : List PyData → M PyData
  | [d] => (M.gd (trialB d = true)).bind fun _ => .ret (.int (lev d))
  | _ => .fail
def g_ltrial : List PyData → M PyData
  | [d] => (M.gd (smal d = true)).bind fun _ => .ret (.bool (trialB d))
  | _ => .fail
def g_lworld : List PyData → M PyData
  | [t, d] => (M.gd (trialB t = true ∧ smal d = true)).bind fun _ => .ret (.bool (worldB t d))
  | _ => .fail
def bd__law_is_whole : {m : Sg // ∀ {P : Program} {w : World} {K : PySem.W.Frag} {mg : Str → Option Value} {base : Heap} {f : Addr} {cdv : Value} {A : Around} {outer : List Env} {s : Shared} {H : Hp} {E : XK} {T : Addr → Prop} {W0 : Addr → Prop} {H0 : Hp} (Tx : Txt K mg) (hG : Cl (A.deeper (envOfC "_law_is_whole" (defScope s__law_is_whole) s.heap.objs.size f cdv))) (hr : Room (1 - 1) (A.deeper (envOfC "_law_is_whole" (defScope s__law_is_whole) s.heap.objs.size f cdv))),
    PSs (cxOf CX0 P w K mg base N__law_is_whole "_law_is_whole" (defScope s__law_is_whole) f cdv A outer s H E).nox (defBody s__law_is_whole) (tSF (fc K T none W0 H0) m)} :=
  ⟨_, fun {P w K mg base f cdv A outer s H E T W0 H0} Tx hG hr => have hu := hr.units; have hu2 := u150 hr; have nd := sc__law_is_whole.nd; (sf_one (sf_ret (pf_and (pf_isi (T := "int") rfl rfl Tx.n_isinstance (pg_var (pv 0)) (pe_bltn (v := .ty "int") rfl Tx.n_int (by decide +kernel) rfl)) (pf_one (pf_not (pf_isi (T := "bool") rfl rfl Tx.n_isinstance (pg_var (pv 0)) (pe_bltn (v := .ty "bool") rfl Tx.n_bool (by decide +kernel) rfl)))))))⟩
theorem cal__law_is_whole {P : Program} {w : World} {K : PySem.W.Frag} {mg : Str → Option Value} {base : Heap} {T : Addr → Prop} (Tx : Txt K mg) (D : Def1 K mg "_law_is_whole" s__law_is_whole) {g : List PyData → M PyData} (hg : ∀ ds p, ds.length = 1 → (g ds).run p → (fnD 0 bd__law_is_whole.1 ds).run p) : Cal P w K mg base "_law_is_whole" 1 P__law_is_whole (spD K T 1 g) := by
  refine D.cal (k := 1-1) sc__law_is_whole (fun vs H Q E h => h.len) (fun _ _ _ _ _ _ us hl => match us, hl with | [_], _ => rfl) fun f cdv A outer s H vs Q E hG hr h => ?_
  obtain ⟨W0, H0, q⟩ := body_d' (N := N__law_is_whole) (n := 1) (k := 0) (m := bd__law_is_whole.1) rfl (h.imp hg)

  exact ⟨_, bd__law_is_whole.2 Tx hG hr, q⟩
def bd__law_is_tuple : {m : Sg // ∀ {P : Program} {w : World} {K : PySem.W.Frag} {mg : Str → Option Value} {base : Heap} {f : Addr} {cdv : Value} {A : Around} {outer : List Env} {s : Shared} {H : Hp} {E : XK} {T : Addr → Prop} {W0 : Addr → Prop} {H0 : Hp} (Tx : Txt K mg) (hG : Cl (A.deeper (envOfC "_law_is_tuple" (defScope s__law_is_tuple) s.heap.objs.size f cdv))) (hr : Room (1 - 1) (A.deeper (envOfC "_law_is_tuple" (defScope s__law_is_tuple) s.heap.objs.size f cdv))),
    PSs (cxOf CX0 P w K mg base N__law_is_tuple "_law_is_tuple" (defScope s__law_is_tuple) f cdv A outer s H E).nox (defBody s__law_is_tuple) (tSF (fc K T none W0 H0) m)} :=
  ⟨_, fun {P w K mg base f cdv A outer s H E T W0 H0} Tx hG hr => have hu := hr.units; have hu2 := u150 hr; have nd := sc__law_is_tuple.nd; (sf_one (sf_ret (pf_and (pf_isi (T := "tuple") rfl rfl Tx.n_isinstance (pg_var (pv 0)) (pe_bltn (v := .ty "tuple") rfl Tx.n_tuple (by decide +kernel) rfl)) (pf_one (pf_cmp (k_eqX (K := K) rfl hu) op2_eqX (pf_g (pf_fn1 (fun ha => pe_callB (k_len (K := K) rfl) rfl Tx.n_len (by decide +kernel) ha) fn_len (pg_var (pv 0)))) (pg_var (pv 1)) (nomark _))))))⟩
theorem cal__law_is_tuple {P : Program} {w : World} {K : PySem.W.Frag} {mg : Str → Option Value} {base : Heap} {T : Addr → Prop} (Tx : Txt K mg) (D : Def1 K mg "_law_is_tuple" s__law_is_tuple) {g : List PyData → M PyData} (hg : ∀ ds p, ds.length = 2 → (g ds).run p → (fnD 0 bd__law_is_tuple.1 ds).run p) : Cal P w K mg base "_law_is_tuple" 1 P__law_is_tuple (spD K T 2 g) := by
  refine D.cal (k := 1-1) sc__law_is_tuple (fun vs H Q E h => h.len) (fun _ _ _ _ _ _ us hl => match us, hl with | [_, _], _ => rfl) fun f cdv A outer s H vs Q E hG hr h => ?_
  obtain ⟨W0, H0, q⟩ := body_d' (N := N__law_is_tuple) (n := 2) (k := 0) (m := bd__law_is_tuple.1) rfl (h.imp hg)

  exact ⟨_, bd__law_is_tuple.2 Tx hG hr, q⟩
def bd__law_is_part : {m : Sg // ∀ {P : Program} {w : World} {K : PySem.W.Frag} {mg : Str → Option Value} {base : Heap} {f : Addr} {cdv : Value} {A : Around} {outer : List Env} {s : Shared} {H : Hp} {E : XK} {T : Addr → Prop} {W0 : Addr → Prop} {H0 : Hp} (Tx : Txt K mg) (c__law_is_tuple : Cal P w K mg base "_law_is_tuple" 1 P__law_is_tuple (spD K T 2 g_ltup)) (c__law_is_whole : Cal P w K mg base "_law_is_whole" 1 P__law_is_whole (spD K T 1 g_whole)) (c__law_lean : Cal P w K mg base "_law_lean" 1 P__law_lean (spD K T 2 g_lean)) (hG : Cl (A.deeper (envOfC "_law_is_part" (defScope s__law_is_part) s.heap.objs.size f cdv))) (hr : Room (2 - 1) (A.deeper (envOfC "_law_is_part" (defScope s__law_is_part) s.heap.objs.size f cdv))),
    PSs (cxOf CX0 P w K mg base N__law_is_part "_law_is_part" (defScope s__law_is_part) f cdv A outer s H E).nox (defBody s__law_is_part) (tSF (fc K T none W0 H0) m)} :=
  ⟨_, fun {P w K mg base f cdv A outer s H E T W0 H0} Tx c__law_is_tuple c__law_is_whole c__law_lean hG hr => have hu := hr.units; have hu2 := u150 hr; have nd := sc__law_is_part.nd; (sf_cons (sf_if (PW.pt (pwf_or (ptf_not (ptf_val (pf_callD (pe_cal c__law_is_tuple hG (hr.mono (by decide)) rfl (paf_cons (pf_var (pv 0)) (paf_cons pf_int paf_nil)))))) (pwf_or (ptf_not (ptf_val (pf_callD (pe_cal c__law_is_whole hG (hr.mono (by decide)) rfl (paf_cons (pf_ix (k_ix (K := K) rfl) op2_ix (pg_var (pv 0)) (pf_g pf_int) (fun _ _ => rfl)) paf_nil))))) (pwf_or1 (ptf_not (ptf_val (pf_callD (pe_cal c__law_is_whole hG (hr.mono (by decide)) rfl (paf_cons (pf_ix (k_ix (K := K) rfl) op2_ix (pg_var (pv 0)) (pf_g pf_int) (fun _ _ => rfl)) paf_nil))))))))) (sf_one (sf_ret pf_bl)) sf_nil) (sf_one (sf_ret (pf_and (pf_cmp op_gtA op2_gt (pf_g (pf_ix (k_ix (K := K) rfl) op2_ix (pg_var (pv 0)) (pf_g pf_int) (fun _ _ => rfl))) (pf_g pf_int) (nomark _)) (pf_one (pf_cmp (k_eqX (K := K) rfl hu) op2_eqX (pf_g (pf_callD (pe_cal c__law_lean hG (hr.mono (by decide)) rfl (paf_cons (pf_ix (k_ix (K := K) rfl) op2_ix (pg_var (pv 0)) (pf_g pf_int) (fun _ _ => rfl)) (paf_cons (pf_ix (k_ix (K := K) rfl) op2_ix (pg_var (pv 0)) (pf_g pf_int) (fun _ _ => rfl)) paf_nil))))) (pg_var (pv 0)) (nomark _)))))))⟩
theorem cal__law_is_part {P : Program} {w : World} {K : PySem.W.Frag} {mg : Str → Option Value} {base : Heap} {T : Addr → Prop} (Tx : Txt K mg) (D : Def1 K mg "_law_is_part" s__law_is_part) (c__law_is_tuple : Cal P w K mg base "_law_is_tuple" 1 P__law_is_tuple (spD K T 2 g_ltup)) (c__law_is_whole : Cal P w K mg base "_law_is_whole" 1 P__law_is_whole (spD K T 1 g_whole)) (c__law_lean : Cal P w K mg base "_law_lean" 1 P__law_lean (spD K T 2 g_lean)) {g : List PyData → M PyData} (hg : ∀ ds p, ds.length = 1 → (g ds).run p → (fnD 0 bd__law_is_part.1 ds).run p) : Cal P w K mg base "_law_is_part" 2 P__law_is_part (spD K T 1 g) := by
  refine D.cal (k := 2-1) sc__law_is_part (fun vs H Q E h => h.len) (fun _ _ _ _ _ _ us hl => match us, hl with | [_], _ => rfl) fun f cdv A outer s H vs Q E hG hr h => ?_
  obtain ⟨W0, H0, q⟩ := body_d' (N := N__law_is_part) (n := 1) (k := 0) (m := bd__law_is_part.1) rfl (h.imp hg)

  exact ⟨_, bd__law_is_part.2 Tx c__law_is_tuple c__law_is_whole c__law_lean hG hr, q⟩
def bd__law_is_row : {m : Sg // ∀ {P : Program} {w : World} {K : PySem.W.Frag} {mg : Str → Option Value} {base : Heap} {f : Addr} {cdv : Value} {A : Around} {outer : List Env} {s : Shared} {H : Hp} {E : XK} {T : Addr → Prop} {W0 : Addr → Prop} {H0 : Hp} (Tx : Txt K mg) (c__law_is_tuple : Cal P w K mg base "_law_is_tuple" 1 P__law_is_tuple (spD K T 2 g_ltup)) (c__law_is_part : Cal P w K mg base "_law_is_part" 2 P__law_is_part (spD K T 1 g_lpart)) (hG : Cl (A.deeper (envOfC "_law_is_row" (defScope s__law_is_row) s.heap.objs.size f cdv))) (hr : Room (3 - 1) (A.deeper (envOfC "_law_is_row" (defScope s__law_is_row) s.heap.objs.size f cdv))),
    PSs (cxOf CX0 P w K mg base N__law_is_row "_law_is_row" (defScope s__law_is_row) f cdv A outer s H E).nox (defBody s__law_is_row) (tSF (fc K T none W0 H0) m)} :=
  ⟨_, fun {P w K mg base f cdv A outer s H E T W0 H0} Tx c__law_is_tuple c__law_is_part hG hr => have hu := hr.units; have hu2 := u150 hr; have nd := sc__law_is_row.nd; (sf_one (sf_ret (pf_and (pf_callD (pe_cal c__law_is_tuple hG (hr.mono (by decide)) rfl (paf_cons (pf_var (pv 0)) (paf_cons (pf_var (pv 1)) paf_nil)))) (pf_one (pf_fn1 (fun ha => pe_callB (k_all (K := K) rfl rfl) rfl Tx.n_all (by decide +kernel) ha) fn_all (pf_g (pn_m (pn_lc (pe_lc (own := [("_law_x", 2)]) (by rfl) nd (pif_tup rfl (pf_var (pv 0))) (blkOk_by (own := [("_law_x", 2)]) (N := N__law_is_row) (sc := defScope s__law_is_row) (by decide +kernel)) (fun _ _ _ _ _ => (pgf_name (pg_name (i := 2) nd rfl (Or.inl rfl)))) (fun _ _ _ _ _ => ptsf_nil) (fun _ _ _ _ _ => (pf_callD (pe_cal c__law_is_part hG (hr.mono (by decide)) rfl (paf_cons (pf_var (pv 2)) paf_nil)))))))))))))⟩
theorem cal__law_is_row {P : Program} {w : World} {K : PySem.W.Frag} {mg : Str → Option Value} {base : Heap} {T : Addr → Prop} (Tx : Txt K mg) (D : Def1 K mg "_law_is_row" s__law_is_row) (c__law_is_tuple : Cal P w K mg base "_law_is_tuple" 1 P__law_is_tuple (spD K T 2 g_ltup)) (c__law_is_part : Cal P w K mg base "_law_is_part" 2 P__law_is_part (spD K T 1 g_lpart)) {g : List PyData → M PyData} (hg : ∀ ds p, ds.length = 2 → (g ds).run p → (fnD 1 bd__law_is_row.1 ds).run p) : Cal P w K mg base "_law_is_row" 3 P__law_is_row (spD K T 2 g) := by
  refine D.cal (k := 3-1) sc__law_is_row (fun vs H Q E h => h.len) (fun _ _ _ _ _ _ us hl => match us, hl with | [_, _], _ => rfl) fun f cdv A outer s H vs Q E hG hr h => ?_
  obtain ⟨W0, H0, q⟩ := body_d' (N := N__law_is_row) (n := 2) (k := 1) (m := bd__law_is_row.1) rfl (h.imp hg)

  exact ⟨_, bd__law_is_row.2 Tx c__law_is_tuple c__law_is_part hG hr, q⟩
def bd__law_levels : {m : Sg // ∀ {P : Program} {w : World} {K : PySem.W.Frag} {mg : Str → Option Value} {base : Heap} {f : Addr} {cdv : Value} {A : Around} {outer : List Env} {s : Shared} {H : Hp} {E : XK} {T : Addr → Prop} {W0 : Addr → Prop} {H0 : Hp} (Tx : Txt K mg) (hG : Cl (A.deeper (envOfC "_law_levels" (defScope s__law_levels) s.heap.objs.size f cdv))) (hr : Room (1 - 1) (A.deeper (envOfC "_law_levels" (defScope s__law_levels) s.heap.objs.size f cdv))),
    PSs (cxOf CX0 P w K mg base N__law_levels "_law_levels" (defScope s__law_levels) f cdv A outer s H E).nox (defBody s__law_levels) (tSF (fc K T none W0 H0) m)} :=
  ⟨_, fun {P w K mg base f cdv A outer s H E T W0 H0} Tx hG hr => have hu := hr.units; have hu2 := u150 hr; have nd := sc__law_levels.nd; (sf_one (sf_ret (pf_if (ptf_cmp (k_eqX (K := K) rfl hu) op2_eqX (pf_g (pf_ix (k_ix (K := K) rfl) op2_ix (pg_var (pv 0)) (pf_g pf_int) (fun _ _ => rfl))) (pf_g (pf_tup paf_nil)) (nomark _)) pf_int (pf_op (fun ha hb => pe_op (k_add (K := K) rfl) ha hb) op2_add (pf_g (pf_fn1 (fun ha => pe_callB (k_maxT (K := K) rfl rfl hu) rfl Tx.n_max (by decide +kernel) ha) fn_maxT (pf_g (pf_ix (k_ix (K := K) rfl) op2_ix (pg_var (pv 0)) (pf_g pf_int) (fun _ _ => rfl))))) (pf_g pf_int)))))⟩
theorem cal__law_levels {P : Program} {w : World} {K : PySem.W.Frag} {mg : Str → Option Value} {base : Heap} {T : Addr → Prop} (Tx : Txt K mg) (D : Def1 K mg "_law_levels" s__law_levels) {g : List PyData → M PyData} (hg : ∀ ds p, ds.length = 1 → (g ds).run p → (fnD 0 bd__law_levels.1 ds).run p) : Cal P w K mg base "_law_levels" 1 P__law_levels (spD K T 1 g) := by
  refine D.cal (k := 1-1) sc__law_levels (fun vs H Q E h => h.len) (fun _ _ _ _ _ _ us hl => match us, hl with | [_], _ => rfl) fun f cdv A outer s H vs Q E hG hr h => ?_
  obtain ⟨W0, H0, q⟩ := body_d' (N := N__law_levels) (n := 1) (k := 0) (m := bd__law_levels.1) rfl (h.imp hg)

  exact ⟨_, bd__law_levels.2 Tx hG hr, q⟩
def bd__law_is_trial : {m : Sg // ∀ {P : Program} {w : World} {K : PySem.W.Frag} {mg : Str → Option Value} {base : Heap} {f : Addr} {cdv : Value} {A : Around} {outer : List Env} {s : Shared} {H : Hp} {E : XK} {T : Addr → Prop} {W0 : Addr → Prop} {H0 : Hp} (Tx : Txt K mg) (c__law_is_tuple : Cal P w K mg base "_law_is_tuple" 1 P__law_is_tuple (spD K T 2 g_ltup)) (c__law_is_row : Cal P w K mg base "_law_is_row" 3 P__law_is_row (spD K T 2 g_lrow)) (c__law_is_whole : Cal P w K mg base "_law_is_whole" 1 P__law_is_whole (spD K T 1 g_whole)) (hG : Cl (A.deeper (envOfC "_law_is_trial" (defScope s__law_is_trial) s.heap.objs.size f cdv))) (hr : Room (4 - 1) (A.deeper (envOfC "_law_is_trial" (defScope s__law_is_trial) s.heap.objs.size f cdv))),
    PSs (cxOf CX0 P w K mg base N__law_is_trial "_law_is_trial" (defScope s__law_is_trial) f cdv A outer s H E).nox (defBody s__law_is_trial) (tSF (fc K T none W0 H0) m)} :=
  ⟨_, fun {P w K mg base f cdv A outer s H E T W0 H0} Tx c__law_is_tuple c__law_is_row c__law_is_whole hG hr => have hu := hr.units; have hu2 := u150 hr; have nd := sc__law_is_trial.nd; (sf_cons (sf_if (PW.pt (pwf_or (ptf_not (ptf_val (pf_callD (pe_cal c__law_is_tuple hG (hr.mono (by decide)) rfl (paf_cons (pf_var (pv 0)) (paf_cons pf_int paf_nil)))))) (pwf_or (ptf_not (ptf_val (pf_isi (T := "tuple") rfl rfl Tx.n_isinstance (pf_g (pf_ix (k_ix (K := K) rfl) op2_ix (pg_var (pv 0)) (pf_g pf_int) (fun _ _ => rfl))) (pe_bltn (v := .ty "tuple") rfl Tx.n_tuple (by decide +kernel) rfl)))) (pwf_or1 (ptf_not (ptf_chn op_leA op_leA op2_le op2_le (pf_g pf_int) (pf_g (pf_fn1 (fun ha => pe_callB (k_len (K := K) rfl) rfl Tx.n_len (by decide +kernel) ha) fn_len (pf_g (pf_ix (k_ix (K := K) rfl) op2_ix (pg_var (pv 0)) (pf_g pf_int) (fun _ _ => rfl))))) (pf_g pf_int))))))) (sf_one (sf_ret pf_bl)) sf_nil) (sf_cons (sf_asg (pf_var (pv 0)) (pgf_tup (n := 3) rfl rfl (pgsf_cons (pgf_name (pg_name (i := 1) nd rfl (Or.inr rfl))) (pgsf_cons (pgf_name (pg_name (i := 2) nd rfl (Or.inl rfl))) (pgsf_cons (pgf_name (pg_name (i := 3) nd rfl (Or.inl rfl))) pgsf_nil))))) (sf_cons (sf_if (PW.pt (pwf_or (ptf_not (ptf_val (pf_isi (T := "tuple") rfl rfl Tx.n_isinstance (pf_g (pf_ix (k_ix (K := K) rfl) op2_ix (pg_var (pv 1)) (pf_g pf_int) (fun _ _ => rfl))) (pe_bltn (v := .ty "tuple") rfl Tx.n_tuple (by decide +kernel) rfl)))) (pwf_or1 (ptf_not (ptf_chn op_leA op_leA op2_le op2_le (pf_g pf_int) (pf_g (pf_fn1 (fun ha => pe_callB (k_len (K := K) rfl) rfl Tx.n_len (by decide +kernel) ha) fn_len (pf_g (pf_ix (k_ix (K := K) rfl) op2_ix (pg_var (pv 1)) (pf_g pf_int) (fun _ _ => rfl))))) (pf_g pf_int)))))) (sf_one (sf_ret pf_bl)) sf_nil) (sf_cons (sf_if (PW.pt (pwf_or (ptf_not (ptf_val (pf_fn1 (fun ha => pe_callB (k_all (K := K) rfl rfl) rfl Tx.n_all (by decide +kernel) ha) fn_all (pf_g (pn_m (pn_lc (pe_lc (own := [("_law_row", 4)]) (by rfl) nd (pif_tup rfl (pf_var (pv 1))) (blkOk_by (own := [("_law_row", 4)]) (N := N__law_is_trial) (sc := defScope s__law_is_trial) (by decide +kernel)) (fun _ _ _ _ _ => (pgf_name (pg_name (i := 4) nd rfl (Or.inl rfl)))) (fun _ _ _ _ _ => ptsf_nil) (fun _ _ _ _ _ => (pf_callD (pe_cal c__law_is_row hG (hr.mono (by decide)) rfl (paf_cons (pf_var (pv 4)) (paf_cons (pf_fn1 (fun ha => pe_callB (k_len (K := K) rfl) rfl Tx.n_len (by decide +kernel) ha) fn_len (pf_g (pf_ix (k_ix (K := K) rfl) op2_ix (pg_var (pv 1)) (pf_g pf_int) (fun _ _ => rfl)))) paf_nil)))))))))))) (pwf_or1 (ptf_not (ptf_val (pf_callD (pe_cal c__law_is_row hG (hr.mono (by decide)) rfl (paf_cons (pf_var (pv 2)) (paf_cons (pf_fn1 (fun ha => pe_callB (k_len (K := K) rfl) rfl Tx.n_len (by decide +kernel) ha) fn_len (pg_var (pv 1))) paf_nil))))))))) (sf_one (sf_ret pf_bl)) sf_nil) (sf_cons (sf_if (PW.pt (pwf_or (ptf_val (pf_fn1 (fun ha => pe_callB (k_any (K := K) rfl rfl) rfl Tx.n_any (by decide +kernel) ha) fn_any (pf_g (pn_m (pn_lc (pe_lc (own := [("_law_part", 5)]) (by rfl) nd (pif_tup rfl (pf_var (pv 2))) (blkOk_by (own := [("_law_part", 5)]) (N := N__law_is_trial) (sc := defScope s__law_is_trial) (by decide +kernel)) (fun _ _ _ _ _ => (pgf_name (pg_name (i := 5) nd rfl (Or.inl rfl)))) (fun _ _ _ _ _ => ptsf_nil) (fun _ _ _ _ _ => (pf_cmp op_leA op2_le (pf_g (pf_ix (k_ix (K := K) rfl) op2_ix (pg_var (pv 5)) (pf_g pf_int) (fun _ _ => rfl))) (pf_g pf_int) (nomark _))))))))) (pwf_or1 (ptf_not (ptf_val (pf_isi (T := "tuple") rfl rfl Tx.n_isinstance (pg_var (pv 3)) (pe_bltn (v := .ty "tuple") rfl Tx.n_tuple (by decide +kernel) rfl))))))) (sf_one (sf_ret pf_bl)) sf_nil) (sf_cons (sf_if (PW.pt (pwf_and (ptf_cmp (k_neX (K := K) rfl hu) op2_neX (pg_var (pv 3)) (pf_g (pf_tup paf_nil)) (nomark _)) (pwf_and1 (ptf_cmp (k_neX (K := K) rfl hu) op2_neX (pf_g (pf_fn1 (fun ha => pe_callB (k_len (K := K) rfl) rfl Tx.n_len (by decide +kernel) ha) fn_len (pg_var (pv 3)))) (pf_g (pf_fn1 (fun ha => pe_callB (k_len (K := K) rfl) rfl Tx.n_len (by decide +kernel) ha) fn_len (pg_var (pv 1)))) (nomark _))))) (sf_one (sf_ret pf_bl)) sf_nil) (sf_one (sf_ret (pf_fn1 (fun ha => pe_callB (k_all (K := K) rfl rfl) rfl Tx.n_all (by decide +kernel) ha) fn_all (pf_g (pn_m (pn_lc (pe_lc (own := [("_law_each", 6)]) (by rfl) nd (pif_tup rfl (pf_var (pv 3))) (blkOk_by (own := [("_law_each", 6)]) (N := N__law_is_trial) (sc := defScope s__law_is_trial) (by decide +kernel)) (fun _ _ _ _ _ => (pgf_name (pg_name (i := 6) nd rfl (Or.inl rfl)))) (fun _ _ _ _ _ => ptsf_nil) (fun _ _ _ _ _ => (pf_and (pf_callD (pe_cal c__law_is_whole hG (hr.mono (by decide)) rfl (paf_cons (pf_var (pv 6)) paf_nil))) (pf_one (pf_chn op_leA op_leA op2_le op2_le (pf_g pf_int) (pg_var (pv 6)) (pf_g pf_int))))))))))))))))))⟩
theorem cal__law_is_trial {P : Program} {w : World} {K : PySem.W.Frag} {mg : Str → Option Value} {base : Heap} {T : Addr → Prop} (Tx : Txt K mg) (D : Def1 K mg "_law_is_trial" s__law_is_trial) (c__law_is_tuple : Cal P w K mg base "_law_is_tuple" 1 P__law_is_tuple (spD K T 2 g_ltup)) (c__law_is_row : Cal P w K mg base "_law_is_row" 3 P__law_is_row (spD K T 2 g_lrow)) (c__law_is_whole : Cal P w K mg base "_law_is_whole" 1 P__law_is_whole (spD K T 1 g_whole)) {g : List PyData → M PyData} (hg : ∀ ds p, ds.length = 1 → (g ds).run p → (fnD 6 bd__law_is_trial.1 ds).run p) : Cal P w K mg base "_law_is_trial" 4 P__law_is_trial (spD K T 1 g) := by
  refine D.cal (k := 4-1) sc__law_is_trial (fun vs H Q E h => h.len) (fun _ _ _ _ _ _ us hl => match us, hl with | [_], _ => rfl) fun f cdv A outer s H vs Q E hG hr h => ?_
  obtain ⟨W0, H0, q⟩ := body_d' (N := N__law_is_trial) (n := 1) (k := 6) (m := bd__law_is_trial.1) rfl (h.imp hg)

  exact ⟨_, bd__law_is_trial.2 Tx c__law_is_tuple c__law_is_row c__law_is_whole hG hr, q⟩
def bd__law_is_world : {m : Sg // ∀ {P : Program} {w : World} {K : PySem.W.Frag} {mg : Str → Option Value} {base : Heap} {f : Addr} {cdv : Value} {A : Around} {outer : List Env} {s : Shared} {H : Hp} {E : XK} {T : Addr → Prop} {W0 : Addr → Prop} {H0 : Hp} (Tx : Txt K mg) (c__law_is_row : Cal P w K mg base "_law_is_row" 3 P__law_is_row (spD K T 2 g_lrow)) (c__law_levels : Cal P w K mg base "_law_levels" 1 P__law_levels (spD K T 1 g_llev)) (c__law_is_tuple : Cal P w K mg base "_law_is_tuple" 1 P__law_is_tuple (spD K T 2 g_ltup)) (hG : Cl (A.deeper (envOfC "_law_is_world" (defScope s__law_is_world) s.heap.objs.size f cdv))) (hr : Room (4 - 1) (A.deeper (envOfC "_law_is_world" (defScope s__law_is_world) s.heap.objs.size f cdv))),
    PSs (cxOf CX0 P w K mg base N__law_is_world "_law_is_world" (defScope s__law_is_world) f cdv A outer s H E).nox (defBody s__law_is_world) (tSF (fc K T none W0 H0) m)} :=
  ⟨_, fun {P w K mg base f cdv A outer s H E T W0 H0} Tx c__law_is_row c__law_levels c__law_is_tuple hG hr => have hu := hr.units; have hu2 := u150 hr; have nd := sc__law_is_world.nd; (sf_cons (sf_if (PW.pt (pwf_or (ptf_not (ptf_val (pf_callD (pe_cal c__law_is_tuple hG (hr.mono (by decide)) rfl (paf_cons (pf_var (pv 1)) (paf_cons pf_int paf_nil)))))) (pwf_or1 (ptf_not (ptf_val (pf_callD (pe_cal c__law_is_row hG (hr.mono (by decide)) rfl (paf_cons (pf_ix (k_ix (K := K) rfl) op2_ix (pg_var (pv 1)) (pf_g pf_int) (fun _ _ => rfl)) (paf_cons (pf_fn1 (fun ha => pe_callB (k_len (K := K) rfl) rfl Tx.n_len (by decide +kernel) ha) fn_len (pf_g (pf_ix (k_ix (K := K) rfl) op2_ix (pf_g (pf_ix (k_ix (K := K) rfl) op2_ix (pg_var (pv 0)) (pf_g pf_int) (fun _ _ => rfl))) (pf_g pf_int) (fun _ _ => rfl)))) paf_nil))))))))) (sf_one (sf_ret pf_bl)) sf_nil) (sf_one (sf_ret (pf_callD (pe_cal c__law_is_row hG (hr.mono (by decide)) rfl (paf_cons (pf_ix (k_ix (K := K) rfl) op2_ix (pg_var (pv 1)) (pf_g pf_int) (fun _ _ => rfl)) (paf_cons (pf_callD (pe_cal c__law_levels hG (hr.mono (by decide)) rfl (paf_cons (pf_var (pv 0)) paf_nil))) paf_nil)))))))⟩
theorem cal__law_is_world {P : Program} {w : World} {K : PySem.W.Frag} {mg : Str → Option Value} {base : Heap} {T : Addr → Prop} (Tx : Txt K mg) (D : Def1 K mg "_law_is_world" s__law_is_world) (c__law_is_row : Cal P w K mg base "_law_is_row" 3 P__law_is_row (spD K T 2 g_lrow)) (c__law_levels : Cal P w K mg base "_law_levels" 1 P__law_levels (spD K T 1 g_llev)) (c__law_is_tuple : Cal P w K mg base "_law_is_tuple" 1 P__law_is_tuple (spD K T 2 g_ltup)) {g : List PyData → M PyData} (hg : ∀ ds p, ds.length = 2 → (g ds).run p → (fnD 0 bd__law_is_world.1 ds).run p) : Cal P w K mg base "_law_is_world" 4 P__law_is_world (spD K T 2 g) := by
  refine D.cal (k := 4-1) sc__law_is_world (fun vs H Q E h => h.len) (fun _ _ _ _ _ _ us hl => match us, hl with | [_, _], _ => rfl) fun f cdv A outer s H vs Q E hG hr h => ?_
  obtain ⟨W0, H0, q⟩ := body_d' (N := N__law_is_world) (n := 2) (k := 0) (m := bd__law_is_world.1) rfl (h.imp hg)

  exact ⟨_, bd__law_is_world.2 Tx c__law_is_row c__law_levels c__law_is_tuple hG hr, q⟩
end K2

set_option Elab.async false
set_option linter.all false
set_option maxRecDepth 100000
set_option maxHeartbeats 4000000
set_option autoImplicit false
namespace K2
open PySem PySem.Spec PyProof.Rows L2 RZ Gd Dl
local macro_rules | `(tactic| wtm_at "fin") => `(tactic| first | assumption | (split <;> simp_all; done) | (simp_all; done))

theorem eq_lwhole : ∀ ds p, ds.length = 1 → (g_whole ds).run p → (fnD 0 bd__law_is_whole.1 ds).run p := by
  intro ds p hl h
  obtain ⟨d, rfl⟩ := len1 hl
  cases d <;> simpa [fnD, fnW, sNext, sBrk, sCnt, sNever, thenO, sSeq, sIf, sRet, sRetN, sDrop, sRetO, bNm, bNil, bCons, bTup, sAsg, sOwn, sApp, sPar, sPar3, sParO, sFrz, nLst, mOfN, mCon, mVar, mPk, mUn, mOp, mNil, mCons, mTup, mLst, mFn, mAnd, mOr, mNot, mIf, mChn, tVal, tAndM, tOrM, tNotM, outD, o_len, o_eqX, o_neX, o_cmp, o_add, o_sub, o_neg, o_i2, o_ix, o_in, o_gcd, o_tuple, o_list, o_int, o_abs, mCut, pNone, pSome, tupB, intish, boolish, M.run_bind, M.run_ret, Gd.at_0, Gd.at_1, Gd.at_2, Gd.at_3, Gd.at_4, Gd.at_5, M.opt_some, bd__law_is_whole, g_whole, wholeB] using h
theorem eq_ltup : ∀ ds p, ds.length = 2 → (g_ltup ds).run p → (fnD 0 bd__law_is_tuple.1 ds).run p := by
  intro ds p hl h
  obtain ⟨d, k, rfl⟩ := len2 hl
  cases k with
  | int k => cases d <;> simpa [fnD, fnW, sNext, sBrk, sCnt, sNever, thenO, sSeq, sIf, sRet, sRetN, sDrop, sRetO, bNm, bNil, bCons, bTup, sAsg, sOwn, sApp, sPar, sPar3, sParO, sFrz, nLst, mOfN, mCon, mVar, mPk, mUn, mOp, mNil, mCons, mTup, mLst, mFn, mAnd, mOr, mNot, mIf, mChn, tVal, tAndM, tOrM, tNotM, outD, o_len, o_eqX, o_neX, o_cmp, o_add, o_sub, o_neg, o_i2, o_ix, o_in, o_gcd, o_tuple, o_list, o_int, o_abs, mCut, pNone, pSome, tupB, intish, boolish, M.run_bind, M.run_ret, Gd.at_0, Gd.at_1, Gd.at_2, Gd.at_3, Gd.at_4, Gd.at_5, M.opt_some, bd__law_is_tuple, g_ltup] using h
  | _ => cases d <;> exact h.elim
theorem lean_eqv {n d : Int} (h : 0 < d) : PyData.eqv (frD (leanF n d)) (.tuple [.int n, .int d]) = decide (((Nat.gcd n.natAbs d.natAbs : Nat) : Int) = 1) := by
  have e : PyData.eqv (frD (leanF n d)) (.tuple [.int n, .int d]) = (decide ((leanF n d).1 = n) && decide ((leanF n d).2 = d)) := by
    unfold frD
    simp [PyData.eqv, PyData.eqvAll]
    rfl
  rw [e]
  have p := gcd_pos (n := n) h
  have g : ((Int.gcd n d : Nat) : Int) = ((Nat.gcd n.natAbs d.natAbs : Nat) : Int) := rfl
  rw [← g]
  by_cases q : ((Int.gcd n d : Nat) : Int) = 1
  · unfold leanF
    rw [q]
    simp
  · have : ¬ (leanF n d).2 = d := by
      intro z
      unfold leanF at z
      have dv : ((Int.gcd n d : Nat) : Int) ∣ d := Int.gcd_dvd_right ..
      have m := Int.ediv_mul_cancel dv
      have z' : d / ((Int.gcd n d : Nat) : Int) = d := z
      rw [z'] at m
      have m2 : d * (((Int.gcd n d : Nat) : Int) - 1) = 0 := by rw [Int.mul_sub, m, Int.mul_one, Int.sub_self]
      rcases Int.mul_eq_zero.mp m2 with w | w <;> omega
    simp [this, q]
theorem sh_pair (a b : Int) : SeqAt.shaped (.tuple [.int a, .int b]) = true := by simp [SeqAt.shaped, PyData.canLay0, PyData.canLayAll0, PyData.depth, PyData.depthAll]
theorem eq_lpart : ∀ ds p, ds.length = 1 → (g_lpart ds).run p → (fnD 0 bd__law_is_part.1 ds).run p := by
  intro ds p hl h
  obtain ⟨d, rfl⟩ := len1 hl
  obtain ⟨hs, h⟩ := h
  cases d with
  | tuple xs =>
    rcases xs with _ | ⟨a, _ | ⟨b, _ | ⟨c, r⟩⟩⟩
    · simpa [fnD, fnW, sNext, sBrk, sCnt, sNever, thenO, sSeq, sIf, sRet, sRetN, sDrop, sRetO, bNm, bNil, bCons, bTup, sAsg, sOwn, sApp, sPar, sPar3, sParO, sFrz, nLst, mOfN, mCon, mVar, mPk, mUn, mOp, mNil, mCons, mTup, mLst, mFn, mAnd, mOr, mNot, mIf, mChn, tVal, tAndM, tOrM, tNotM, outD, o_len, o_eqX, o_neX, o_cmp, o_add, o_sub, o_neg, o_i2, o_ix, o_in, o_gcd, o_tuple, o_list, o_int, o_abs, mCut, pNone, pSome, tupB, intish, boolish, M.run_bind, M.run_ret, Gd.at_0, Gd.at_1, Gd.at_2, Gd.at_3, Gd.at_4, Gd.at_5, M.opt_some, bd__law_is_part, g_ltup, fracB] using h
    · simpa [fnD, fnW, sNext, sBrk, sCnt, sNever, thenO, sSeq, sIf, sRet, sRetN, sDrop, sRetO, bNm, bNil, bCons, bTup, sAsg, sOwn, sApp, sPar, sPar3, sParO, sFrz, nLst, mOfN, mCon, mVar, mPk, mUn, mOp, mNil, mCons, mTup, mLst, mFn, mAnd, mOr, mNot, mIf, mChn, tVal, tAndM, tOrM, tNotM, outD, o_len, o_eqX, o_neX, o_cmp, o_add, o_sub, o_neg, o_i2, o_ix, o_in, o_gcd, o_tuple, o_list, o_int, o_abs, mCut, pNone, pSome, tupB, intish, boolish, M.run_bind, M.run_ret, Gd.at_0, Gd.at_1, Gd.at_2, Gd.at_3, Gd.at_4, Gd.at_5, M.opt_some, bd__law_is_part, g_ltup, fracB] using h
    · have sm := smal_tup hs
      cases a <;> cases b <;> simp [fnD, fnW, sNext, sBrk, sCnt, sNever, thenO, sSeq, sIf, sRet, sRetN, sDrop, sRetO, bNm, bNil, bCons, bTup, sAsg, sOwn, sApp, sPar, sPar3, sParO, sFrz, nLst, mOfN, mCon, mVar, mPk, mUn, mOp, mNil, mCons, mTup, mLst, mFn, mAnd, mOr, mNot, mIf, mChn, tVal, tAndM, tOrM, tNotM, outD, o_len, o_eqX, o_neX, o_cmp, o_add, o_sub, o_neg, o_i2, o_ix, o_in, o_gcd, o_tuple, o_list, o_int, o_abs, mCut, pNone, pSome, tupB, intish, boolish, M.run_bind, M.run_ret, Gd.at_0, Gd.at_1, Gd.at_2, Gd.at_3, Gd.at_4, Gd.at_5, M.opt_some, bd__law_is_part, g_ltup, g_whole, wholeB, fracB] at h ⊢ <;> first | assumption | skip
      rename_i n d
      have hd : d.natAbs < 2 ^ 200 := by simpa [smal] using sm (.int d) (by simp)
      by_cases c : 0 < d
      · rw [if_pos c]
        have hd2 : d.natAbs < 2 ^ 8000 := Nat.lt_of_lt_of_le hd (Nat.pow_le_pow_right (by decide) (by decide))
        simp [g_lean, c, hd2, sh_pair, frD] at h ⊢
        have q := lean_eqv (n := n) c
        unfold frD at q
        rw [q]
        exact h
      · rw [if_neg c]
        simpa [c] using h
    · have n1 : ¬ ((r.length : Int) + 1 + 1 + 1 = 2) := by omega
      simpa [fnD, fnW, sNext, sBrk, sCnt, sNever, thenO, sSeq, sIf, sRet, sRetN, sDrop, sRetO, bNm, bNil, bCons, bTup, sAsg, sOwn, sApp, sPar, sPar3, sParO, sFrz, nLst, mOfN, mCon, mVar, mPk, mUn, mOp, mNil, mCons, mTup, mLst, mFn, mAnd, mOr, mNot, mIf, mChn, tVal, tAndM, tOrM, tNotM, outD, o_len, o_eqX, o_neX, o_cmp, o_add, o_sub, o_neg, o_i2, o_ix, o_in, o_gcd, o_tuple, o_list, o_int, o_abs, mCut, pNone, pSome, tupB, intish, boolish, M.run_bind, M.run_ret, Gd.at_0, Gd.at_1, Gd.at_2, Gd.at_3, Gd.at_4, Gd.at_5, M.opt_some, bd__law_is_part, g_ltup, fracB, n1] using h
  | _ => simpa [fnD, fnW, sNext, sBrk, sCnt, sNever, thenO, sSeq, sIf, sRet, sRetN, sDrop, sRetO, bNm, bNil, bCons, bTup, sAsg, sOwn, sApp, sPar, sPar3, sParO, sFrz, nLst, mOfN, mCon, mVar, mPk, mUn, mOp, mNil, mCons, mTup, mLst, mFn, mAnd, mOr, mNot, mIf, mChn, tVal, tAndM, tOrM, tNotM, outD, o_len, o_eqX, o_neX, o_cmp, o_add, o_sub, o_neg, o_i2, o_ix, o_in, o_gcd, o_tuple, o_list, o_int, o_abs, mCut, pNone, pSome, tupB, intish, boolish, M.run_bind, M.run_ret, Gd.at_0, Gd.at_1, Gd.at_2, Gd.at_3, Gd.at_4, Gd.at_5, M.opt_some, bd__law_is_part, g_ltup, fracB] using h
theorem eq_lrow : ∀ ds p, ds.length = 2 → (g_lrow ds).run p → (fnD 1 bd__law_is_row.1 ds).run p := by
  intro ds p hl h
  obtain ⟨d, k, rfl⟩ := len2 hl
  cases k with
  | int k =>
    obtain ⟨⟨hs, hk⟩, h⟩ := h
    cases d with
    | tuple xs =>
      have sm := smal_tup hs
      simp [fnD, fnW, sNext, sBrk, sCnt, sNever, thenO, sSeq, sIf, sRet, sRetN, sDrop, sRetO, bNm, bNil, bCons, bTup, sAsg, sOwn, sApp, sPar, sPar3, sParO, sFrz, nLst, mOfN, mCon, mVar, mPk, mUn, mOp, mNil, mCons, mTup, mLst, mFn, mAnd, mOr, mNot, mIf, mChn, tVal, tAndM, tOrM, tNotM, outD, o_len, o_eqX, o_neX, o_cmp, o_add, o_sub, o_neg, o_i2, o_ix, o_in, o_gcd, o_tuple, o_list, o_int, o_abs, mCut, pNone, pSome, tupB, intish, boolish, M.run_bind, M.run_ret, Gd.at_0, Gd.at_1, Gd.at_2, Gd.at_3, Gd.at_4, Gd.at_5, M.opt_some, bd__law_is_row, g_ltup, rowB, mLc, sTs, wipC, o_all] at h ⊢
      by_cases c : (xs.length : Int) = k
      · rw [if_pos c, lcL_map (e := fun d => .bool (fracB d)) fun d m => by simp [fnD, fnW, sNext, sBrk, sCnt, sNever, thenO, sSeq, sIf, sRet, sRetN, sDrop, sRetO, bNm, bNil, bCons, bTup, sAsg, sOwn, sApp, sPar, sPar3, sParO, sFrz, nLst, mOfN, mCon, mVar, mPk, mUn, mOp, mNil, mCons, mTup, mLst, mFn, mAnd, mOr, mNot, mIf, mChn, tVal, tAndM, tOrM, tNotM, outD, o_len, o_eqX, o_neX, o_cmp, o_add, o_sub, o_neg, o_i2, o_ix, o_in, o_gcd, o_tuple, o_list, o_int, o_abs, mCut, pNone, pSome, tupB, intish, boolish, M.run_bind, M.run_ret, Gd.at_0, Gd.at_1, Gd.at_2, Gd.at_3, Gd.at_4, Gd.at_5, M.opt_some, g_lpart, sm d m, M.gd_true]]
        refine ⟨by omega, ?_⟩
        simpa [all_map_id, c] using h
      · rw [if_neg c]
        simpa [c] using h
    | _ => simpa [fnD, fnW, sNext, sBrk, sCnt, sNever, thenO, sSeq, sIf, sRet, sRetN, sDrop, sRetO, bNm, bNil, bCons, bTup, sAsg, sOwn, sApp, sPar, sPar3, sParO, sFrz, nLst, mOfN, mCon, mVar, mPk, mUn, mOp, mNil, mCons, mTup, mLst, mFn, mAnd, mOr, mNot, mIf, mChn, tVal, tAndM, tOrM, tNotM, outD, o_len, o_eqX, o_neX, o_cmp, o_add, o_sub, o_neg, o_i2, o_ix, o_in, o_gcd, o_tuple, o_list, o_int, o_abs, mCut, pNone, pSome, tupB, intish, boolish, M.run_bind, M.run_ret, Gd.at_0, Gd.at_1, Gd.at_2, Gd.at_3, Gd.at_4, Gd.at_5, M.opt_some, bd__law_is_row, g_ltup, rowB] using h
  | _ => exact h.elim
theorem eq_llev : ∀ ds p, ds.length = 1 → (g_llev ds).run p → (fnD 0 bd__law_levels.1 ds).run p := by
  intro ds p hl h
  obtain ⟨d, rfl⟩ := len1 hl
  obtain ⟨h1, h2⟩ := h
  obtain ⟨r, rows, s, b, rfl, _, _, _, _, _, _, hb⟩ := trial_cases h1
  obtain ⟨ns, e, e2, _⟩ := blocks_ints hb
  subst e2
  have sh : SeqAt.shaped (.tuple (ns.map PyData.int)) = true := by
    unfold SeqAt.shaped
    have c1 : PyData.canLay0 (.tuple (ns.map PyData.int)) = true := by simp only [PyData.canLay0]; exact canAll fun a _ => rfl
    have c2 : (PyData.tuple (ns.map PyData.int)).depth ≤ 64 := by simp only [PyData.depth, depth_ints]; decide
    simp [c1, c2]
  cases ns with
  | nil => simpa [fnD, fnW, sNext, sBrk, sCnt, sNever, thenO, sSeq, sIf, sRet, sRetN, sDrop, sRetO, bNm, bNil, bCons, bTup, sAsg, sOwn, sApp, sPar, sPar3, sParO, sFrz, nLst, mOfN, mCon, mVar, mPk, mUn, mOp, mNil, mCons, mTup, mLst, mFn, mAnd, mOr, mNot, mIf, mChn, tVal, tAndM, tOrM, tNotM, outD, o_len, o_eqX, o_neX, o_cmp, o_add, o_sub, o_neg, o_i2, o_ix, o_in, o_gcd, o_tuple, o_list, o_int, o_abs, mCut, pNone, pSome, tupB, intish, boolish, M.run_bind, M.run_ret, Gd.at_0, Gd.at_1, Gd.at_2, Gd.at_3, Gd.at_4, Gd.at_5, M.opt_some, bd__law_levels, lev, maxI] using h2
  | cons n ns =>
    simp only [List.map_cons] at e h2 sh ⊢
    simp [fnD, fnW, sNext, sBrk, sCnt, sNever, thenO, sSeq, sIf, sRet, sRetN, sDrop, sRetO, bNm, bNil, bCons, bTup, sAsg, sOwn, sApp, sPar, sPar3, sParO, sFrz, nLst, mOfN, mCon, mVar, mPk, mUn, mOp, mNil, mCons, mTup, mLst, mFn, mAnd, mOr, mNot, mIf, mChn, tVal, tAndM, tOrM, tNotM, outD, o_len, o_eqX, o_neX, o_cmp, o_add, o_sub, o_neg, o_i2, o_ix, o_in, o_gcd, o_tuple, o_list, o_int, o_abs, mCut, pNone, pSome, tupB, intish, boolish, M.run_bind, M.run_ret, Gd.at_0, Gd.at_1, Gd.at_2, Gd.at_3, Gd.at_4, Gd.at_5, M.opt_some, bd__law_levels, lev, maxI, o_maxT, e, sh] at h2 ⊢
    exact h2
theorem frac_neg {d : PyData} {a b c e f : Cell} (h : fracB d = true) : (mOp (o_cmp fun i j => decide (i ≤ j)) (mOp o_ix (mPk 5) (mCon (PyData.int 0))) (mCon (PyData.int 0)) [a, b, c, e, f, .im d, .un]) = .ret (.bool (!posB d)) := by
  unfold fracB at h
  split at h
  · rename_i n m
    simp [fnD, fnW, sNext, sBrk, sCnt, sNever, thenO, sSeq, sIf, sRet, sRetN, sDrop, sRetO, bNm, bNil, bCons, bTup, sAsg, sOwn, sApp, sPar, sPar3, sParO, sFrz, nLst, mOfN, mCon, mVar, mPk, mUn, mOp, mNil, mCons, mTup, mLst, mFn, mAnd, mOr, mNot, mIf, mChn, tVal, tAndM, tOrM, tNotM, outD, o_len, o_eqX, o_neX, o_cmp, o_add, o_sub, o_neg, o_i2, o_ix, o_in, o_gcd, o_tuple, o_list, o_int, o_abs, mCut, pNone, pSome, tupB, intish, boolish, M.run_bind, M.run_ret, Gd.at_0, Gd.at_1, Gd.at_2, Gd.at_3, Gd.at_4, Gd.at_5, M.opt_some, posB]
    by_cases q : 0 < n
    · have q2 : ¬ n ≤ 0 := by omega
      simp [q, q2]
    · have q2 : n ≤ 0 := by omega
      simp [q, q2]
  · cases h
theorem rowB_tup {k : Int} {b : PyData} (h : rowB k b = true) : ∃ s, b = .tuple s ∧ ((s.length : Int) = k) ∧ ∀ d ∈ s, fracB d = true := by
  unfold rowB at h
  split at h
  · simp only [Bool.and_eq_true, decide_eq_true_eq] at h
    exact ⟨_, rfl, h.1, List.all_eq_true.mp h.2⟩
  · cases h
theorem any_not {α : Type} (f : α → Bool) (l : List α) : (l.any fun d => !f d) = !l.all f := by
  induction l with
  | nil => rfl
  | cons a l ih => rw [List.any_cons, List.all_cons, ih, Bool.not_and]
theorem eq_ltrial : ∀ ds p, ds.length = 1 → (g_ltrial ds).run p → (fnD 6 bd__law_is_trial.1 ds).run p := by
  intro ds p hl h
  obtain ⟨d, rfl⟩ := len1 hl
  obtain ⟨hs, h⟩ := h
  cases d with
  | tuple xs =>
    rcases xs with _ | ⟨a, _ | ⟨b, _ | ⟨c, _ | ⟨e, r⟩⟩⟩⟩
    · simpa [fnD, fnW, sNext, sBrk, sCnt, sNever, thenO, sSeq, sIf, sRet, sRetN, sDrop, sRetO, bNm, bNil, bCons, bTup, sAsg, sOwn, sApp, sPar, sPar3, sParO, sFrz, nLst, mOfN, mCon, mVar, mPk, mUn, mOp, mNil, mCons, mTup, mLst, mFn, mAnd, mOr, mNot, mIf, mChn, tVal, tAndM, tOrM, tNotM, outD, o_len, o_eqX, o_neX, o_cmp, o_add, o_sub, o_neg, o_i2, o_ix, o_in, o_gcd, o_tuple, o_list, o_int, o_abs, mCut, pNone, pSome, tupB, intish, boolish, M.run_bind, M.run_ret, Gd.at_0, Gd.at_1, Gd.at_2, Gd.at_3, Gd.at_4, Gd.at_5, M.opt_some, bd__law_is_trial, g_ltup, trialB] using h
    · simpa [fnD, fnW, sNext, sBrk, sCnt, sNever, thenO, sSeq, sIf, sRet, sRetN, sDrop, sRetO, bNm, bNil, bCons, bTup, sAsg, sOwn, sApp, sPar, sPar3, sParO, sFrz, nLst, mOfN, mCon, mVar, mPk, mUn, mOp, mNil, mCons, mTup, mLst, mFn, mAnd, mOr, mNot, mIf, mChn, tVal, tAndM, tOrM, tNotM, outD, o_len, o_eqX, o_neX, o_cmp, o_add, o_sub, o_neg, o_i2, o_ix, o_in, o_gcd, o_tuple, o_list, o_int, o_abs, mCut, pNone, pSome, tupB, intish, boolish, M.run_bind, M.run_ret, Gd.at_0, Gd.at_1, Gd.at_2, Gd.at_3, Gd.at_4, Gd.at_5, M.opt_some, bd__law_is_trial, g_ltup, trialB] using h
    · simpa [fnD, fnW, sNext, sBrk, sCnt, sNever, thenO, sSeq, sIf, sRet, sRetN, sDrop, sRetO, bNm, bNil, bCons, bTup, sAsg, sOwn, sApp, sPar, sPar3, sParO, sFrz, nLst, mOfN, mCon, mVar, mPk, mUn, mOp, mNil, mCons, mTup, mLst, mFn, mAnd, mOr, mNot, mIf, mChn, tVal, tAndM, tOrM, tNotM, outD, o_len, o_eqX, o_neX, o_cmp, o_add, o_sub, o_neg, o_i2, o_ix, o_in, o_gcd, o_tuple, o_list, o_int, o_abs, mCut, pNone, pSome, tupB, intish, boolish, M.run_bind, M.run_ret, Gd.at_0, Gd.at_1, Gd.at_2, Gd.at_3, Gd.at_4, Gd.at_5, M.opt_some, bd__law_is_trial, g_ltup, trialB] using h
    · have sm := smal_tup hs
      cases a with
      | tuple xs =>
        cases xs with
        | nil => simpa [fnD, fnW, sNext, sBrk, sCnt, sNever, thenO, sSeq, sIf, sRet, sRetN, sDrop, sRetO, bNm, bNil, bCons, bTup, sAsg, sOwn, sApp, sPar, sPar3, sParO, sFrz, nLst, mOfN, mCon, mVar, mPk, mUn, mOp, mNil, mCons, mTup, mLst, mFn, mAnd, mOr, mNot, mIf, mChn, tVal, tAndM, tOrM, tNotM, outD, o_len, o_eqX, o_neX, o_cmp, o_add, o_sub, o_neg, o_i2, o_ix, o_in, o_gcd, o_tuple, o_list, o_int, o_abs, mCut, pNone, pSome, tupB, intish, boolish, M.run_bind, M.run_ret, Gd.at_0, Gd.at_1, Gd.at_2, Gd.at_3, Gd.at_4, Gd.at_5, M.opt_some, bd__law_is_trial, g_ltup, trialB, plotsB] using h
        | cons r rows =>
          have n1 : (1 : Int) ≤ rows.length + 1 := by omega
          cases r with
          | tuple r =>
            simp [fnD, fnW, sNext, sBrk, sCnt, sNever, thenO, sSeq, sIf, sRet, sRetN, sDrop, sRetO, bNm, bNil, bCons, bTup, sAsg, sOwn, sApp, sPar, sPar3, sParO, sFrz, nLst, mOfN, mCon, mVar, mPk, mUn, mOp, mNil, mCons, mTup, mLst, mFn, mAnd, mOr, mNot, mIf, mChn, tVal, tAndM, tOrM, tNotM, outD, o_len, o_eqX, o_neX, o_cmp, o_add, o_sub, o_neg, o_i2, o_ix, o_in, o_gcd, o_tuple, o_list, o_int, o_abs, mCut, pNone, pSome, tupB, intish, boolish, M.run_bind, M.run_ret, Gd.at_0, Gd.at_1, Gd.at_2, Gd.at_3, Gd.at_4, Gd.at_5, M.opt_some, bd__law_is_trial, g_ltup, trialB, plotsB, n1] at h ⊢
            by_cases c1 : (10 : Int) < rows.length + 1
            · have c1' : ¬ ((rows.length : Int) + 1 ≤ 10) := by omega
              simpa [c1, c1'] using h
            have c1' : ((rows.length : Int) + 1 ≤ 10) := by omega
            by_cases c2 : (1 : Int) ≤ r.length
            case neg => simpa [c1, c2] using h
            by_cases c3 : (5 : Int) < r.length
            · have c3' : ¬ ((r.length : Int) ≤ 5) := by omega
              simpa [c1, c2, c3, c3'] using h
            have c3' : ((r.length : Int) ≤ 5) := by omega
            rw [if_neg c1, if_pos c2, if_neg c3]
            have smr : ∀ d ∈ PyData.tuple r :: rows, smal d = true := smal_tup (sm _ (by simp))
            have e1 : ∀ Γ : List Cell, lcL (bNm 4) tYesM (mFn (fun ds => (M.gd (ds.length = 2)).bind fun x => g_lrow ds) (mCons (mVar 4) (mCons (mUn o_len (mOp o_ix (mPk 1) (mCon (PyData.int 0)))) mNil))) [Cell.im (PyData.tuple [PyData.tuple (PyData.tuple r :: rows), b, c]), Cell.im (PyData.tuple (PyData.tuple r :: rows)), Cell.im b, Cell.im c, Cell.un, Cell.un, Cell.un] (PyData.tuple r :: rows) = .ret ((PyData.tuple r :: rows).map fun d => .bool (rowB r.length d)) := fun _ => lcL_map fun d m => by
              have : ((r.length : Int) ≤ 1000) := by omega
              simp [fnD, fnW, sNext, sBrk, sCnt, sNever, thenO, sSeq, sIf, sRet, sRetN, sDrop, sRetO, bNm, bNil, bCons, bTup, sAsg, sOwn, sApp, sPar, sPar3, sParO, sFrz, nLst, mOfN, mCon, mVar, mPk, mUn, mOp, mNil, mCons, mTup, mLst, mFn, mAnd, mOr, mNot, mIf, mChn, tVal, tAndM, tOrM, tNotM, outD, o_len, o_eqX, o_neX, o_cmp, o_add, o_sub, o_neg, o_i2, o_ix, o_in, o_gcd, o_tuple, o_list, o_int, o_abs, mCut, pNone, pSome, tupB, intish, boolish, M.run_bind, M.run_ret, Gd.at_0, Gd.at_1, Gd.at_2, Gd.at_3, Gd.at_4, Gd.at_5, M.opt_some, g_lrow, smr d m, this]
            simp only [mLc, sTs, wipC, mVar, List.getElem?_cons_succ, List.getElem?_cons_zero, M.ret_bind, M.run_bind, M.run_gd, List.set_cons_succ, List.set_cons_zero]
            refine ⟨by simp only [List.length_cons]; omega, ?_⟩
            rw [e1 []]
            simp only [M.run_ret, o_all, bools_map, M.opt_some, M.ret_bind, all_map_id, asB_bool, M.run_bind]
            by_cases c4 : (PyData.tuple r :: rows).all (rowB r.length) = true
            case neg =>
              have c4' : ((PyData.tuple r :: rows).all (rowB r.length)) = false := by simpa using c4
              rw [c4']
              rw [List.all_cons] at c4'
              simpa [c1', c2, c3', c4'] using h
            rw [c4]
            simp only [List.all_cons] at c4
            simp only [c1', c2, c3', c4, decide_true, Bool.true_and] at h
            have smb := sm b (by simp)
            have n2 : ((rows.length : Int) + 1 ≤ 1000) := by omega
            simp only [if_true, g_lrow, smb, n2, M.run_bind, M.run_gd, M.run_ret, and_self, true_and, asB_bool]
            by_cases c5 : rowB (rows.length + 1) b = true
            case neg =>
              have c5' : rowB (rows.length + 1) b = false := by simpa using c5
              rw [c5']
              have : spreadsB (lenI (PyData.tuple (PyData.tuple r :: rows))) b = false := by
                cases b with
                | tuple s => simp [spreadsB, lenI, c5']
                | _ => rfl
              simpa [this] using h
            rw [c5]
            obtain ⟨s, rfl, ls, fs⟩ := rowB_tup c5
            simp only [if_true, List.set_cons_succ, List.set_cons_zero, List.getElem?_cons_succ, List.getElem?_cons_zero, M.ret_bind, M.run_bind, M.run_gd, M.run_ret]
            refine ⟨by omega, ?_⟩
            rw [lcL_map (e := fun d => .bool (!posB d)) fun d m => by
              have := frac_neg (a := Cell.im (PyData.tuple [PyData.tuple (PyData.tuple r :: rows), PyData.tuple s, c])) (b := Cell.im (PyData.tuple (PyData.tuple r :: rows))) (c := Cell.im (PyData.tuple s)) (e := Cell.im c) (f := Cell.un) (fs d m)
              simpa [bNm] using this]
            simp only [M.run_ret, o_any, bools_map, M.opt_some, M.ret_bind, any_map_id, asB_bool, M.run_bind, any_not]
            have sp : spreadsB (lenI (PyData.tuple (PyData.tuple r :: rows))) (.tuple s) = s.all posB := by simp [spreadsB, lenI, c5]
            rw [sp] at h
            by_cases c6 : s.all posB = true
            case neg =>
              have c6' : s.all posB = false := by simpa using c6
              rw [c6'] at h ⊢
              simpa using h
            rw [c6] at h ⊢
            cases c with
            | tuple bs =>
              have eb : ∀ Γ : List Cell, lcL (bNm 6) tYesM (mAnd (mFn (fun ds => (M.gd (ds.length = 1)).bind fun x => g_whole ds) (mCons (mVar 6) mNil)) (mChn (o_cmp fun i j => decide (i ≤ j)) (o_cmp fun i j => decide (i ≤ j)) (mCon (PyData.int 0)) (mPk 6) (mCon (PyData.int 4)))) [Cell.im (PyData.tuple [PyData.tuple (PyData.tuple r :: rows), PyData.tuple s, PyData.tuple bs]), Cell.im (PyData.tuple (PyData.tuple r :: rows)), Cell.im (PyData.tuple s), Cell.im (PyData.tuple bs), Cell.un, Cell.un, Cell.un] bs = .ret (bs.map fun d => .bool (blockB d)) := fun _ => lcL_map fun d m => by
                cases d <;> simp [fnD, fnW, sNext, sBrk, sCnt, sNever, thenO, sSeq, sIf, sRet, sRetN, sDrop, sRetO, bNm, bNil, bCons, bTup, sAsg, sOwn, sApp, sPar, sPar3, sParO, sFrz, nLst, mOfN, mCon, mVar, mPk, mUn, mOp, mNil, mCons, mTup, mLst, mFn, mAnd, mOr, mNot, mIf, mChn, tVal, tAndM, tOrM, tNotM, outD, o_len, o_eqX, o_neX, o_cmp, o_add, o_sub, o_neg, o_i2, o_ix, o_in, o_gcd, o_tuple, o_list, o_int, o_abs, mCut, pNone, pSome, tupB, intish, boolish, M.run_bind, M.run_ret, Gd.at_0, Gd.at_1, Gd.at_2, Gd.at_3, Gd.at_4, Gd.at_5, M.opt_some, g_whole, wholeB, blockB]
                rename_i i
                by_cases q : 0 ≤ i <;> simp [q]
              simp only [Bool.not_true, Bool.false_eq_true, if_false, if_true, List.set_cons_succ, List.set_cons_zero, eb [], M.run_ret, o_all, bools_map, M.opt_some, M.ret_bind, M.run_bind, all_map_id, M.run_gd]
              simp only [asB_bool, M.run_ret, sh_int, true_and, eqv_ii]
              by_cases z : bs = []
              · subst z
                simpa [blocksB] using h
              · have z2 : ¬ bs.length = 0 := fun q => z (List.eq_nil_of_length_eq_zero q)
                by_cases q : (bs.length : Int) = rows.length + 1
                · have : bs.length ≤ 1000 := by omega
                  simp [z, q, this, blocksB, lenI] at h ⊢
                  exact h
                · simp [z, q, blocksB, lenI] at h ⊢
                  exact h
            | _ =>
              simpa [blocksB] using h
          | _ =>
            simp [fnD, fnW, sNext, sBrk, sCnt, sNever, thenO, sSeq, sIf, sRet, sRetN, sDrop, sRetO, bNm, bNil, bCons, bTup, sAsg, sOwn, sApp, sPar, sPar3, sParO, sFrz, nLst, mOfN, mCon, mVar, mPk, mUn, mOp, mNil, mCons, mTup, mLst, mFn, mAnd, mOr, mNot, mIf, mChn, tVal, tAndM, tOrM, tNotM, outD, o_len, o_eqX, o_neX, o_cmp, o_add, o_sub, o_neg, o_i2, o_ix, o_in, o_gcd, o_tuple, o_list, o_int, o_abs, mCut, pNone, pSome, tupB, intish, boolish, M.run_bind, M.run_ret, Gd.at_0, Gd.at_1, Gd.at_2, Gd.at_3, Gd.at_4, Gd.at_5, M.opt_some, bd__law_is_trial, g_ltup, trialB, plotsB, n1] at h ⊢
            first | assumption | trace_state
      | _ => simpa [fnD, fnW, sNext, sBrk, sCnt, sNever, thenO, sSeq, sIf, sRet, sRetN, sDrop, sRetO, bNm, bNil, bCons, bTup, sAsg, sOwn, sApp, sPar, sPar3, sParO, sFrz, nLst, mOfN, mCon, mVar, mPk, mUn, mOp, mNil, mCons, mTup, mLst, mFn, mAnd, mOr, mNot, mIf, mChn, tVal, tAndM, tOrM, tNotM, outD, o_len, o_eqX, o_neX, o_cmp, o_add, o_sub, o_neg, o_i2, o_ix, o_in, o_gcd, o_tuple, o_list, o_int, o_abs, mCut, pNone, pSome, tupB, intish, boolish, M.run_bind, M.run_ret, Gd.at_0, Gd.at_1, Gd.at_2, Gd.at_3, Gd.at_4, Gd.at_5, M.opt_some, bd__law_is_trial, g_ltup, trialB, plotsB] using h
    · have n1 : ¬ ((r.length : Int) + 1 + 1 + 1 + 1 = 3) := by omega
      simpa [fnD, fnW, sNext, sBrk, sCnt, sNever, thenO, sSeq, sIf, sRet, sRetN, sDrop, sRetO, bNm, bNil, bCons, bTup, sAsg, sOwn, sApp, sPar, sPar3, sParO, sFrz, nLst, mOfN, mCon, mVar, mPk, mUn, mOp, mNil, mCons, mTup, mLst, mFn, mAnd, mOr, mNot, mIf, mChn, tVal, tAndM, tOrM, tNotM, outD, o_len, o_eqX, o_neX, o_cmp, o_add, o_sub, o_neg, o_i2, o_ix, o_in, o_gcd, o_tuple, o_list, o_int, o_abs, mCut, pNone, pSome, tupB, intish, boolish, M.run_bind, M.run_ret, Gd.at_0, Gd.at_1, Gd.at_2, Gd.at_3, Gd.at_4, Gd.at_5, M.opt_some, bd__law_is_trial, g_ltup, trialB, n1] using h
  | _ => simpa [fnD, fnW, sNext, sBrk, sCnt, sNever, thenO, sSeq, sIf, sRet, sRetN, sDrop, sRetO, bNm, bNil, bCons, bTup, sAsg, sOwn, sApp, sPar, sPar3, sParO, sFrz, nLst, mOfN, mCon, mVar, mPk, mUn, mOp, mNil, mCons, mTup, mLst, mFn, mAnd, mOr, mNot, mIf, mChn, tVal, tAndM, tOrM, tNotM, outD, o_len, o_eqX, o_neX, o_cmp, o_add, o_sub, o_neg, o_i2, o_ix, o_in, o_gcd, o_tuple, o_list, o_int, o_abs, mCut, pNone, pSome, tupB, intish, boolish, M.run_bind, M.run_ret, Gd.at_0, Gd.at_1, Gd.at_2, Gd.at_3, Gd.at_4, Gd.at_5, M.opt_some, bd__law_is_trial, g_ltup, trialB] using h
theorem fold_le {ns : List Int} : ∀ {n m : Int}, n ≤ m → (∀ x ∈ ns, x ≤ m) → ns.foldl max n ≤ m := by
  induction ns with
  | nil => exact fun h _ => h
  | cons a ns ih =>
    intro n m h q
    rw [List.foldl_cons]
    exact ih (by have := q a (List.mem_cons_self ..); omega) fun x hx => q x (List.mem_cons_of_mem _ hx)
theorem lev_le {t : PyData} (h : trialB t = true) : lev t ≤ 1000 := by
  obtain ⟨r, rows, s, b, rfl, _, _, _, _, _, _, hb⟩ := trial_cases h
  obtain ⟨ns, e, e2, q⟩ := blocks_ints hb
  subst e2
  cases ns with
  | nil => simp [lev, maxI]
  | cons n ns =>
    have : lev (PyData.tuple [PyData.tuple (PyData.tuple r :: rows), PyData.tuple s, PyData.tuple ((n :: ns).map PyData.int)]) = ns.foldl max n + 1 := by
      simp only [List.map_cons] at e ⊢
      simp [lev, maxI, e]
    rw [this]
    have := fold_le (n := n) (m := 4) (ns := ns) (q n (List.mem_cons_self ..)).2 fun x hx => (q x (List.mem_cons_of_mem _ hx)).2
    omega
theorem eq_lworld : ∀ ds p, ds.length = 2 → (g_lworld ds).run p → (fnD 0 bd__law_is_world.1 ds).run p := by
  intro ds p hl h
  obtain ⟨t, d, rfl⟩ := len2 hl
  obtain ⟨⟨h1, hs⟩, h⟩ := h
  have h1' := h1
  obtain ⟨r, rows, s, b, rfl, hr, _⟩ := trial_cases h1
  cases d with
  | tuple xs =>
    rcases xs with _ | ⟨v, _ | ⟨l, _ | ⟨c, q⟩⟩⟩
    · simpa [fnD, fnW, sNext, sBrk, sCnt, sNever, thenO, sSeq, sIf, sRet, sRetN, sDrop, sRetO, bNm, bNil, bCons, bTup, sAsg, sOwn, sApp, sPar, sPar3, sParO, sFrz, nLst, mOfN, mCon, mVar, mPk, mUn, mOp, mNil, mCons, mTup, mLst, mFn, mAnd, mOr, mNot, mIf, mChn, tVal, tAndM, tOrM, tNotM, outD, o_len, o_eqX, o_neX, o_cmp, o_add, o_sub, o_neg, o_i2, o_ix, o_in, o_gcd, o_tuple, o_list, o_int, o_abs, mCut, pNone, pSome, tupB, intish, boolish, M.run_bind, M.run_ret, Gd.at_0, Gd.at_1, Gd.at_2, Gd.at_3, Gd.at_4, Gd.at_5, M.opt_some, bd__law_is_world, g_ltup, worldB] using h
    · simpa [fnD, fnW, sNext, sBrk, sCnt, sNever, thenO, sSeq, sIf, sRet, sRetN, sDrop, sRetO, bNm, bNil, bCons, bTup, sAsg, sOwn, sApp, sPar, sPar3, sParO, sFrz, nLst, mOfN, mCon, mVar, mPk, mUn, mOp, mNil, mCons, mTup, mLst, mFn, mAnd, mOr, mNot, mIf, mChn, tVal, tAndM, tOrM, tNotM, outD, o_len, o_eqX, o_neX, o_cmp, o_add, o_sub, o_neg, o_i2, o_ix, o_in, o_gcd, o_tuple, o_list, o_int, o_abs, mCut, pNone, pSome, tupB, intish, boolish, M.run_bind, M.run_ret, Gd.at_0, Gd.at_1, Gd.at_2, Gd.at_3, Gd.at_4, Gd.at_5, M.opt_some, bd__law_is_world, g_ltup, worldB] using h
    · have sm := smal_tup hs
      simp [fnD, fnW, sNext, sBrk, sCnt, sNever, thenO, sSeq, sIf, sRet, sRetN, sDrop, sRetO, bNm, bNil, bCons, bTup, sAsg, sOwn, sApp, sPar, sPar3, sParO, sFrz, nLst, mOfN, mCon, mVar, mPk, mUn, mOp, mNil, mCons, mTup, mLst, mFn, mAnd, mOr, mNot, mIf, mChn, tVal, tAndM, tOrM, tNotM, outD, o_len, o_eqX, o_neX, o_cmp, o_add, o_sub, o_neg, o_i2, o_ix, o_in, o_gcd, o_tuple, o_list, o_int, o_abs, mCut, pNone, pSome, tupB, intish, boolish, M.run_bind, M.run_ret, Gd.at_0, Gd.at_1, Gd.at_2, Gd.at_3, Gd.at_4, Gd.at_5, M.opt_some, bd__law_is_world, g_ltup, worldB, g_lrow, g_llev, unk, sm v (by simp), sm l (by simp), h1'] at h ⊢
      refine ⟨by omega, ?_⟩
      have lv : lev (PyData.tuple [PyData.tuple (PyData.tuple r :: rows), PyData.tuple s, PyData.tuple b]) ≤ 1000 := lev_le h1'
      by_cases c : rowB r.length v = true
      · rw [if_pos c]
        exact ⟨lv, by simpa [c] using h⟩
      · rw [if_neg c]
        simpa [c] using h
    · have n1 : ¬ ((q.length : Int) + 1 + 1 + 1 = 2) := by omega
      simpa [fnD, fnW, sNext, sBrk, sCnt, sNever, thenO, sSeq, sIf, sRet, sRetN, sDrop, sRetO, bNm, bNil, bCons, bTup, sAsg, sOwn, sApp, sPar, sPar3, sParO, sFrz, nLst, mOfN, mCon, mVar, mPk, mUn, mOp, mNil, mCons, mTup, mLst, mFn, mAnd, mOr, mNot, mIf, mChn, tVal, tAndM, tOrM, tNotM, outD, o_len, o_eqX, o_neX, o_cmp, o_add, o_sub, o_neg, o_i2, o_ix, o_in, o_gcd, o_tuple, o_list, o_int, o_abs, mCut, pNone, pSome, tupB, intish, boolish, M.run_bind, M.run_ret, Gd.at_0, Gd.at_1, Gd.at_2, Gd.at_3, Gd.at_4, Gd.at_5, M.opt_some, bd__law_is_world, g_ltup, worldB, n1] using h
  | _ => simpa [fnD, fnW, sNext, sBrk, sCnt, sNever, thenO, sSeq, sIf, sRet, sRetN, sDrop, sRetO, bNm, bNil, bCons, bTup, sAsg, sOwn, sApp, sPar, sPar3, sParO, sFrz, nLst, mOfN, mCon, mVar, mPk, mUn, mOp, mNil, mCons, mTup, mLst, mFn, mAnd, mOr, mNot, mIf, mChn, tVal, tAndM, tOrM, tNotM, outD, o_len, o_eqX, o_neX, o_cmp, o_add, o_sub, o_neg, o_i2, o_ix, o_in, o_gcd, o_tuple, o_list, o_int, o_abs, mCut, pNone, pSome, tupB, intish, boolish, M.run_bind, M.run_ret, Gd.at_0, Gd.at_1, Gd.at_2, Gd.at_3, Gd.at_4, Gd.at_5, M.opt_some, bd__law_is_world, g_ltup, worldB] using h
end K2

set_option Elab.async false
set_option linter.all false
set_option maxRecDepth 100000
set_option maxHeartbeats 4000000
set_option autoImplicit false
namespace K1
open PySem PySem.Spec PyProof.Rows L2 RZ Gd
def top (i : Nat) : Stmt := PySem.Challenge.pw_trialground_k02_whole_trials_worlds_ques.main.body.getD i (.Pass ⟨0, 0, 0, 0⟩)
structure Txt (mg : Str → Option Value) : Prop where
  n_int : mg "int" = none
  n_len : mg "len" = none
  n_abs : mg "abs" = none
  n_divmod : mg "divmod" = none
  n_range : mg "range" = none
  n_tuple : mg "tuple" = none
  n_list : mg "list" = none
  n_zip : mg "zip" = none
  n_enumerate : mg "enumerate" = none
  n_repr : mg "repr" = none
  n_isinstance : mg "isinstance" = none
  n_all : mg "all" = none
  n_any : mg "any" = none
  n_max : mg "max" = none
  n_min : mg "min" = none
  n_bool : mg "bool" = none
  n_ValueError : mg "ValueError" = none
  n_TypeError : mg "TypeError" = none
  n_KeyError : mg "KeyError" = none
  n_IndexError : mg "IndexError" = none
  n_ZeroDivisionError : mg "ZeroDivisionError" = none
  n_RuntimeError : mg "RuntimeError" = none
abbrev s_is_whole : Stmt := top 5
def N_is_whole : List Str := ["value"]
def P_is_whole : List Str := ["value"]
theorem sc_is_whole : FnScope N_is_whole P_is_whole (defScope s_is_whole) := ⟨rfl, rfl, rfl, by decide +kernel, rfl, by decide +kernel, by decide +kernel⟩
abbrev s_is_fraction : Stmt := top 6
def N_is_fraction : List Str := ["value", "above", "below"]
def P_is_fraction : List Str := ["value"]
theorem sc_is_fraction : FnScope N_is_fraction P_is_fraction (defScope s_is_fraction) := ⟨rfl, rfl, rfl, by decide +kernel, rfl, by decide +kernel, by decide +kernel⟩
abbrev s_is_row : Stmt := top 7
def N_is_row : List Str := ["value", "many", "part"]
def P_is_row : List Str := ["value", "many"]
theorem sc_is_row : FnScope N_is_row P_is_row (defScope s_is_row) := ⟨rfl, rfl, rfl, by decide +kernel, rfl, by decide +kernel, by decide +kernel⟩
abbrev s_is_index : Stmt := top 9
def N_is_index : List Str := ["value", "many"]
def P_is_index : List Str := ["value", "many"]
theorem sc_is_index : FnScope N_is_index P_is_index (defScope s_is_index) := ⟨rfl, rfl, rfl, by decide +kernel, rfl, by decide +kernel, by decide +kernel⟩
abbrev s_is_trial : Stmt := top 14
def N_is_trial : List Str := ["value", "rows", "spreads", "blocks"]
def P_is_trial : List Str := ["value"]
theorem sc_is_trial : FnScope N_is_trial P_is_trial (defScope s_is_trial) := ⟨rfl, rfl, rfl, by decide +kernel, rfl, by decide +kernel, by decide +kernel⟩
abbrev s_is_world : Stmt := top 15
def N_is_world : List Str := ["trial", "value"]
def P_is_world : List Str := ["trial", "value"]
theorem sc_is_world : FnScope N_is_world P_is_world (defScope s_is_world) := ⟨rfl, rfl, rfl, by decide +kernel, rfl, by decide +kernel, by decide +kernel⟩
abbrev s_is_question : Stmt := top 16
def N_is_question : List Str := ["trial", "value"]
def P_is_question : List Str := ["trial", "value"]
theorem sc_is_question : FnScope N_is_question P_is_question (defScope s_is_question) := ⟨rfl, rfl, rfl, by decide +kernel, rfl, by decide +kernel, by decide +kernel⟩
abbrev s_levels_of : Stmt := top 17
def N_levels_of : List Str := ["trial"]
def P_levels_of : List Str := ["trial"]
theorem sc_levels_of : FnScope N_levels_of P_levels_of (defScope s_levels_of) := ⟨rfl, rfl, rfl, by decide +kernel, rfl, by decide +kernel, by decide +kernel⟩
abbrev s_check_trial : Stmt := top 18
def N_check_trial : List Str := ["trial"]
def P_check_trial : List Str := ["trial"]
theorem sc_check_trial : FnScope N_check_trial P_check_trial (defScope s_check_trial) := ⟨rfl, rfl, rfl, by decide +kernel, rfl, by decide +kernel, by decide +kernel⟩
abbrev s_is_world_of : Stmt := top 19
def N_is_world_of : List Str := ["trial", "value", "values", "levels"]
def P_is_world_of : List Str := ["trial", "value"]
theorem sc_is_world_of : FnScope N_is_world_of P_is_world_of (defScope s_is_world_of) := ⟨rfl, rfl, rfl, by decide +kernel, rfl, by decide +kernel, by decide +kernel⟩
abbrev s_is_question_of : Stmt := top 20
def N_is_question_of : List Str := ["trial", "value"]
def P_is_question_of : List Str := ["trial", "value"]
theorem sc_is_question_of : FnScope N_is_question_of P_is_question_of (defScope s_is_question_of) := ⟨rfl, rfl, rfl, by decide +kernel, rfl, by decide +kernel, by decide +kernel⟩
abbrev s_is_spread : Stmt := top 21
def N_is_spread : List Str := ["value"]
def P_is_spread : List Str := ["value"]
theorem sc_is_spread : FnScope N_is_spread P_is_spread (defScope s_is_spread) := ⟨rfl, rfl, rfl, by decide +kernel, rfl, by decide +kernel, by decide +kernel⟩
abbrev s_is_block : Stmt := top 22
def N_is_block : List Str := ["value"]
def P_is_block : List Str := ["value"]
theorem sc_is_block : FnScope N_is_block P_is_block (defScope s_is_block) := ⟨rfl, rfl, rfl, by decide +kernel, rfl, by decide +kernel, by decide +kernel⟩
abbrev s_count_levels : Stmt := top 23
def N_count_levels : List Str := ["trial"]
def P_count_levels : List Str := ["trial"]
theorem sc_count_levels : FnScope N_count_levels P_count_levels (defScope s_count_levels) := ⟨rfl, rfl, rfl, by decide +kernel, rfl, by decide +kernel, by decide +kernel⟩
abbrev s__are_plots : Stmt := top 24
def N__are_plots : List Str := ["value", "first", "row"]
def P__are_plots : List Str := ["value"]
theorem sc__are_plots : FnScope N__are_plots P__are_plots (defScope s__are_plots) := ⟨rfl, rfl, rfl, by decide +kernel, rfl, by decide +kernel, by decide +kernel⟩
abbrev s__are_spreads : Stmt := top 25
def N__are_spreads : List Str := ["value", "many", "spread"]
def P__are_spreads : List Str := ["value", "many"]
theorem sc__are_spreads : FnScope N__are_spreads P__are_spreads (defScope s__are_spreads) := ⟨rfl, rfl, rfl, by decide +kernel, rfl, by decide +kernel, by decide +kernel⟩
abbrev s__are_blocks : Stmt := top 26
def N__are_blocks : List Str := ["value", "many", "block"]
def P__are_blocks : List Str := ["value", "many"]
theorem sc__are_blocks : FnScope N__are_blocks P__are_blocks (defScope s__are_blocks) := ⟨rfl, rfl, rfl, by decide +kernel, rfl, by decide +kernel, by decide +kernel⟩
abbrev s__law_well : Stmt := top 28
def N__law_well : List Str := ["_law_script", "_law_lap", "_law_mixed", "_law_cell", "_law_own"]
def P__law_well : List Str := ["_law_script", "_law_lap"]
theorem sc__law_well : FnScope N__law_well P__law_well (defScope s__law_well) := ⟨rfl, rfl, rfl, by decide +kernel, rfl, by decide +kernel, by decide +kernel⟩
abbrev s__law_draw : Stmt := top 29
def N__law_draw : List Str := ["_law_well_here", "_law_few", "_law_figure", "_law_mixed"]
def P__law_draw : List Str := ["_law_well_here", "_law_few"]
theorem sc__law_draw : FnScope N__law_draw P__law_draw (defScope s__law_draw) := ⟨rfl, rfl, rfl, by decide +kernel, rfl, by decide +kernel, by decide +kernel⟩
abbrev s__law_one : Stmt := top 30
def N__law_one : List Str := ["_law_well_here", "_law_some"]
def P__law_one : List Str := ["_law_well_here", "_law_some"]
theorem sc__law_one : FnScope N__law_one P__law_one (defScope s__law_one) := ⟨rfl, rfl, rfl, by decide +kernel, rfl, by decide +kernel, by decide +kernel⟩
abbrev s__law_lean : Stmt := top 31
def N__law_lean : List Str := ["_law_top", "_law_base", "_law_far", "_law_rest"]
def P__law_lean : List Str := ["_law_top", "_law_base"]
theorem sc__law_lean : FnScope N__law_lean P__law_lean (defScope s__law_lean) := ⟨rfl, rfl, rfl, by decide +kernel, rfl, by decide +kernel, by decide +kernel⟩
abbrev s__law_minus : Stmt := top 32
def N__law_minus : List Str := ["_law_x", "_law_y"]
def P__law_minus : List Str := ["_law_x", "_law_y"]
theorem sc__law_minus : FnScope N__law_minus P__law_minus (defScope s__law_minus) := ⟨rfl, rfl, rfl, by decide +kernel, rfl, by decide +kernel, by decide +kernel⟩
abbrev s__law_is_whole : Stmt := top 33
def N__law_is_whole : List Str := ["_law_thing"]
def P__law_is_whole : List Str := ["_law_thing"]
theorem sc__law_is_whole : FnScope N__law_is_whole P__law_is_whole (defScope s__law_is_whole) := ⟨rfl, rfl, rfl, by decide +kernel, rfl, by decide +kernel, by decide +kernel⟩
abbrev s__law_is_tuple : Stmt := top 34
def N__law_is_tuple : List Str := ["_law_thing", "_law_few"]
def P__law_is_tuple : List Str := ["_law_thing", "_law_few"]
theorem sc__law_is_tuple : FnScope N__law_is_tuple P__law_is_tuple (defScope s__law_is_tuple) := ⟨rfl, rfl, rfl, by decide +kernel, rfl, by decide +kernel, by decide +kernel⟩
abbrev s__law_is_part : Stmt := top 35
def N__law_is_part : List Str := ["_law_thing"]
def P__law_is_part : List Str := ["_law_thing"]
theorem sc__law_is_part : FnScope N__law_is_part P__law_is_part (defScope s__law_is_part) := ⟨rfl, rfl, rfl, by decide +kernel, rfl, by decide +kernel, by decide +kernel⟩
abbrev s__law_is_row : Stmt := top 36
def N__law_is_row : List Str := ["_law_thing", "_law_few", "_law_x"]
def P__law_is_row : List Str := ["_law_thing", "_law_few"]
theorem sc__law_is_row : FnScope N__law_is_row P__law_is_row (defScope s__law_is_row) := ⟨rfl, rfl, rfl, by decide +kernel, rfl, by decide +kernel, by decide +kernel⟩
abbrev s__law_odd : Stmt := top 37
def N__law_odd : List Str := ["_law_well_here", "_law_some", "_law_more"]
def P__law_odd : List Str := ["_law_well_here"]
theorem sc__law_odd : FnScope N__law_odd P__law_odd (defScope s__law_odd) := ⟨rfl, rfl, rfl, by decide +kernel, rfl, by decide +kernel, by decide +kernel⟩
abbrev s__law_bent : Stmt := top 38
def N__law_bent : List Str := ["_law_well_here", "_law_thing", "_law_path", "_law_here", "_law_turn", "_law_at", "_law_way", "_law_whole"]
def P__law_bent : List Str := ["_law_well_here", "_law_thing"]
theorem sc__law_bent : FnScope N__law_bent P__law_bent (defScope s__law_bent) := ⟨rfl, rfl, rfl, by decide +kernel, rfl, by decide +kernel, by decide +kernel⟩
abbrev s__law_maybe : Stmt := top 39
def N__law_maybe : List Str := ["_law_well_here", "_law_thing", "_law_way"]
def P__law_maybe : List Str := ["_law_well_here", "_law_thing"]
theorem sc__law_maybe : FnScope N__law_maybe P__law_maybe (defScope s__law_maybe) := ⟨rfl, rfl, rfl, by decide +kernel, rfl, by decide +kernel, by decide +kernel⟩
abbrev s__law_number : Stmt := top 40
def N__law_number : List Str := ["_law_well_here", "_law_way"]
def P__law_number : List Str := ["_law_well_here"]
theorem sc__law_number : FnScope N__law_number P__law_number (defScope s__law_number) := ⟨rfl, rfl, rfl, by decide +kernel, rfl, by decide +kernel, by decide +kernel⟩
abbrev s__law_numbers : Stmt := top 41
def N__law_numbers : List Str := ["_law_well_here", "_law_few", "_law_found", "_law_turn"]
def P__law_numbers : List Str := ["_law_well_here", "_law_few"]
theorem sc__law_numbers : FnScope N__law_numbers P__law_numbers (defScope s__law_numbers) := ⟨rfl, rfl, rfl, by decide +kernel, rfl, by decide +kernel, by decide +kernel⟩
abbrev s__law_trial : Stmt := top 42
def N__law_trial : List Str := ["_law_well_here", "_law_most", "_law_few", "_law_rows", "_law_spreads", "_law_blocks", "_law_many", "_law_kinds", "_law_turn", "_law_row", "_law_one_here", "_law_two", "_law_x", "_law_y"]
def P__law_trial : List Str := ["_law_well_here", "_law_most"]
theorem sc__law_trial : FnScope N__law_trial P__law_trial (defScope s__law_trial) := ⟨rfl, rfl, rfl, by decide +kernel, rfl, by decide +kernel, by decide +kernel⟩
abbrev s__law_levels : Stmt := top 43
def N__law_levels : List Str := ["_law_trial_here"]
def P__law_levels : List Str := ["_law_trial_here"]
theorem sc__law_levels : FnScope N__law_levels P__law_levels (defScope s__law_levels) := ⟨rfl, rfl, rfl, by decide +kernel, rfl, by decide +kernel, by decide +kernel⟩
abbrev s__law_world : Stmt := top 44
def N__law_world : List Str := ["_law_well_here", "_law_trial_here"]
def P__law_world : List Str := ["_law_well_here", "_law_trial_here"]
theorem sc__law_world : FnScope N__law_world P__law_world (defScope s__law_world) := ⟨rfl, rfl, rfl, by decide +kernel, rfl, by decide +kernel, by decide +kernel⟩
abbrev s__law_is_trial : Stmt := top 45
def N__law_is_trial : List Str := ["_law_thing", "_law_rows", "_law_spreads", "_law_blocks", "_law_row", "_law_part", "_law_each"]
def P__law_is_trial : List Str := ["_law_thing"]
theorem sc__law_is_trial : FnScope N__law_is_trial P__law_is_trial (defScope s__law_is_trial) := ⟨rfl, rfl, rfl, by decide +kernel, rfl, by decide +kernel, by decide +kernel⟩
abbrev s__law_is_world : Stmt := top 46
def N__law_is_world : List Str := ["_law_trial_here", "_law_thing"]
def P__law_is_world : List Str := ["_law_trial_here", "_law_thing"]
theorem sc__law_is_world : FnScope N__law_is_world P__law_is_world (defScope s__law_is_world) := ⟨rfl, rfl, rfl, by decide +kernel, rfl, by decide +kernel, by decide +kernel⟩
abbrev s__law_planted : Stmt := top 47
def N__law_planted : List Str := ["_law_well_here", "_law_trial_here", "_law_rows", "_law_spreads", "_law_blocks", "_law_way", "_law_more"]
def P__law_planted : List Str := ["_law_well_here", "_law_trial_here"]
theorem sc__law_planted : FnScope N__law_planted P__law_planted (defScope s__law_planted) := ⟨rfl, rfl, rfl, by decide +kernel, rfl, by decide +kernel, by decide +kernel⟩
abbrev s__law_right : Stmt := top 48
def N__law_right : List Str := ["_law_well_here", "_law_turn", "_law_trial_here", "_law_some", "_law_each", "_law_due", "_law_world_here", "_law_asked"]
def P__law_right : List Str := ["_law_well_here"]
theorem sc__law_right : FnScope N__law_right P__law_right (defScope s__law_right) := ⟨rfl, rfl, rfl, by decide +kernel, rfl, by decide +kernel, by decide +kernel⟩
abbrev s_law : Stmt := top 49
def N_law : List Str := ["_law_script", "_law_lap"]
def P_law : List Str := ["_law_script"]
theorem sc_law : FnScope N_law P_law (defScope s_law) := ⟨rfl, rfl, rfl, by decide +kernel, rfl, by decide +kernel, by decide +kernel⟩
end K1

set_option Elab.async false
set_option linter.all false
set_option maxRecDepth 100000
set_option maxHeartbeats 4000000
set_option autoImplicit false
namespace K1
open PySem PySem.Spec PyProof.Rows L2 RZ Gd
local macro_rules | `(tactic| wtm_at "ix") => `(tactic| first | exact at_0 | exact at_1 | exact at_2 | exact at_3 | exact at_4 | exact at_5 | exact ix_0 | exact ix_1 | exact ix_2 | exact ix_3)
local macro_rules | `(tactic| wtm_at "st") => `(tactic| first | assumption | exact upd_same | (with_reducible refine' hold_new ?hA ?hB; (case hB => assumption); (case hA => wtm_at "st")))
local macro_rules | `(tactic| wtm_at "rl") => `(tactic| first | assumption | (refine' SqL.of ?hC; (case hC => wtm_at "st")) | (refine' SqT.of ?hC; (case hC => wtm_at "st")))
local macro_rules | `(tactic| wtm_at "rd") => `(tactic| first
  | with_reducible refine w_seq ?_
  | with_reducible refine w_asg ?_
  | with_reducible refine w_ret ?_
  | with_reducible refine w_op ?_
  | with_reducible refine w_cb ?_
  | with_reducible refine w_cons ?_
  | with_reducible refine w_nil ?_
  | with_reducible refine w_c ?_
  | with_reducible refine w_if ?_
  | with_reducible refine w_test ?_
  | with_reducible refine w_un ?_
  | with_reducible refine w_tup ?_
  | with_reducible refine w_lst ?_
  | with_reducible refine w_call ?_
  | with_reducible refine w_and ?_
  | with_reducible refine w_or ?_
  | with_reducible refine w_not ?_
  | with_reducible refine w_ife ?_
  | with_reducible refine w_tB ?_
  | with_reducible refine w_andV ?_
  | with_reducible refine w_orV ?_
  | with_reducible refine w_notV ?_
  | with_reducible refine w_sub ?_
  | with_reducible refine w_gcons ?_
  | with_reducible refine w_gnil ?_
  | with_reducible refine w_next ?_
  | with_reducible refine w_drop ?_
  | with_reducible refine w_retN ?_
  | with_reducible refine w_brk ?_
  | with_reducible refine w_cont ?_
  | with_reducible refine w_bl ?_
  | with_reducible refine w_gt ?_
  | with_reducible refine w_ge ?_
  | with_reducible refine w_lt ?_
  | with_reducible refine w_le ?_
  | with_reducible refine w_subI ?_
  | with_reducible refine w_neg ?_
  | with_reducible refine w_addI ?_
  | with_reducible refine w_int ?_
  | with_reducible refine w_intB ?_
  | with_reducible refine w_abs ?_
  | with_reducible refine w_iteT ?_
  | with_reducible refine w_iteF ?_
  | with_reducible refine w_par ?_
  | with_reducible refine w_par3 ?_
  | with_reducible refine w_sl ?_
  | with_reducible refine w_nop ?_
  | with_reducible refine w_part ?_
  | with_reducible refine w_vint ?_
  | with_reducible refine w_vbl2 ?_
  | with_reducible refine w_vbl3 ?_
  | with_reducible refine w_lc ?_
  | with_reducible refine w_list ?_
  | with_reducible refine w_enum ?_
  | with_reducible refine w_fld ?_
  | with_reducible refine w_mk ?_
  | with_reducible refine w_yes ?_
  | with_reducible refine w_iz ?_
  | with_reducible refine w_var0 ?_
  | with_reducible refine w_var1 ?_
  | with_reducible refine w_var2 ?_
  | with_reducible refine w_var3 ?_
  | with_reducible refine w_var4 ?_
  | with_reducible refine w_var5 ?_
  | with_reducible refine w_var6 ?_
  | with_reducible refine w_var7 ?_
  | with_reducible refine w_var8 ?_
  | with_reducible refine w_var9 ?_
  | with_reducible refine w_var10 ?_
  | with_reducible refine w_var11 ?_
  | with_reducible refine w_var12 ?_
  | with_reducible refine w_var13 ?_
  | with_reducible refine w_var14 ?_
  | with_reducible refine w_var15 ?_
  | with_reducible refine w_nam0 ?_
  | with_reducible refine w_nam1 ?_
  | with_reducible refine w_nam2 ?_
  | with_reducible refine w_nam3 ?_
  | with_reducible refine w_nam4 ?_
  | with_reducible refine w_nam5 ?_
  | with_reducible refine w_nam6 ?_
  | with_reducible refine w_nam7 ?_
  | with_reducible refine w_nam8 ?_
  | with_reducible refine w_nam9 ?_
  | with_reducible refine w_nam10 ?_
  | with_reducible refine w_nam11 ?_
  | with_reducible refine w_nam12 ?_
  | with_reducible refine w_nam13 ?_
  | with_reducible refine w_nam14 ?_
  | with_reducible refine w_nam15 ?_
  | (with_reducible refine' w_eqS ?hs ?_; (case hs => with_unfolding_all rfl))
  | (with_reducible refine' w_neS ?hs ?_; (case hs => with_unfolding_all rfl))
  | (with_reducible refine' w_len ?hs ?_; (case hs => (simp only [List.length_cons, List.length_nil]; omega)))
  | (with_reducible refine' w_slL ?hs ?_; (case hs => wtm_at "rl"))
  | (with_reducible refine' w_mulI ?hs ?_; (case hs => (first | (refine cmul_r ?_; (constructor <;> omega)) | (refine cmul_l ?_; (constructor <;> omega)) | assumption)))
  | (with_reducible refine' w_mod ?hs ?_; (case hs => (first | omega | assumption)))
  | (with_reducible refine' w_div ?hs ?_; (case hs => (first | assumption | (refine cdiv_s ?_ ?_ <;> omega))))
  | (with_reducible refine' w_ixL ?hs ?ht ?_; (case hs => wtm_at "rl"); (case ht => wtm_at "ix"))
  | (with_reducible refine' w_ixT ?hs ?ht ?_; (case hs => wtm_at "rl"); (case ht => wtm_at "ix"))
  | (with_reducible refine' w_set0 ?hs ?_; (case hs => wtm_at "st"))
  | (with_reducible refine' w_set1 ?hs ?_; (case hs => wtm_at "st"))
  | (with_reducible refine' w_set2 ?hs ?_; (case hs => wtm_at "st"))
  | (with_reducible refine' w_lenL ?hs ?_; (case hs => wtm_at "rl"))
  | (with_reducible refine' w_lenT ?hs ?_; (case hs => wtm_at "rl"))
  | (with_reducible refine' w_gtup ?hs ?ht ?_; (case hs => wtm_at "rl"); (case ht => with_unfolding_all rfl))
  | rw [List.set_cons_zero]
  | rw [List.set_cons_succ]
  | rw [Bool.not_true]
  | rw [Bool.not_false])
local macro_rules | `(tactic| wtm_at "go") => `(tactic| repeat wtm_at "rd")
section
variable {P : Program} {w : World} {K : PySem.W.Frag} {mg : Str → Option Value} {base : Heap}
theorem cal__law_draw (T : Txt mg) (D : Def1 K mg "_law_draw" s__law_draw)   : Cal P w K mg base "_law_draw" 1 P__law_draw spDraw := by
  have nd := sc__law_draw.nd
  refine D.cal (k := 1-1) sc__law_draw (fun vs H Q E h => ?_) (fun _ _ _ _ _ _ us hl => match us, hl with | [_, _], _ => rfl) fun f cdv A outer s H vs Q E hG hr h => have hu := hr.units; have hu2 := u150 hr; ⟨_, (pss_cons (ps_if (pt_cmpR op_gtA (pe_ix (k_ix (K := K) rfl) (pv 0) pe_int (fun _ _ => rfl)) pe_int (nomark _)) (pss_cons (ps_asg (pe_callB call_dvmA rfl T.n_divmod (by decide +kernel) (pa_cons (pe_ix (k_ix (K := K) rfl) (pv 0) pe_int (fun _ _ => rfl)) (pa_cons (pv 1) pa_nil))) (k_gtup (K := K) (n := 2) rfl rfl (pgs_cons (pg_sub (pv 0) pe_int set_list) (pgs_cons (pg_name (i := 2) nd rfl (Or.inl rfl)) pgs_nil)))) (pss_one (ps_ret (pv 2)))) pss_nil) (pss_cons (ps_asg (pe_op (k_add (K := K) rfl) (pe_ix (k_ix (K := K) rfl) (pv 0) pe_int (fun _ _ => rfl)) pe_int) (pg_sub (pv 0) pe_int set_list)) (pss_cons (ps_set (i := 3) nd rfl (Or.inl rfl) (pe_op op_mod (pe_callTy call_intA rfl T.n_int (by decide +kernel) (pa_cons (pe_op (k_add (K := K) rfl) (pe_op (k_mul (K := K) rfl) (pe_ix (k_ix (K := K) rfl) (pv 0) pe_int (fun _ _ => rfl)) pe_int) (pe_op (k_mul (K := K) rfl) pe_int (pe_ix (k_ix (K := K) rfl) (pv 0) pe_int (fun _ _ => rfl)))) pa_nil)) pe_int)) (pss_cons (ps_asg (pe_op op_mod (pe_callTy call_intA rfl T.n_int (by decide +kernel) (pa_cons (pe_op (k_add (K := K) rfl) (pe_op (k_mul (K := K) rfl) (pv 3) (pe_op (k_add (K := K) rfl) (pe_op op_mod (pe_callTy call_intA rfl T.n_int (by decide +kernel) (pa_cons (pv 3) pa_nil)) pe_int) pe_int)) (pe_ix (k_ix (K := K) rfl) (pv 0) pe_int (fun _ _ => rfl))) pa_nil)) pe_int) (pg_sub (pv 0) pe_int set_list)) (pss_one (ps_ret (pe_op op_mod (pe_callTy call_intA rfl T.n_int (by decide +kernel) (pa_cons (pe_op op_fdivW (pe_ix (k_ix (K := K) rfl) (pv 0) pe_int (fun _ _ => rfl)) pe_int) pa_nil)) (pv 1)))))))), ?_⟩
  · obtain ⟨w, few, rfl, _⟩ := h; rfl
  obtain ⟨w, few, rfl, h1, h2, ⟨a, m, n, hw, h3, h4, h5⟩, hQ⟩ := h
  rw [show L2.start N__law_draw [V.ref w, V.int few] = [some (V.ref w), some (V.int few), none, none] from rfl]
  wtm_at "go"
  refine w_ite (fun c => ?_) (fun c => ?_)
  · wtm_at "go"
    refine w_dvm (cdvm_s h1 (by omega)) fun p hp => ?_
    wtm_at "go"
    refine hQ (a % few) (Int.emod_nonneg _ (by omega)) (Int.emod_lt_of_pos _ h1) _ ((Kp.new hp).trans Kp.put) ⟨_, _, _, upd_same, Int.ediv_nonneg h3 (by omega), h4, h5⟩
  wtm_at "go"
  refine hQ _ (Int.emod_nonneg _ (by omega)) (Int.emod_lt_of_pos _ h1) _ (Kp.put.trans Kp.put) ⟨_, _, _, upd_same, h3, Int.emod_nonneg _ (by omega), Int.emod_lt_of_pos _ (by omega)⟩
theorem cal__law_well (T : Txt mg) (D : Def1 K mg "_law_well" s__law_well)   : Cal P w K mg base "_law_well" 1 P__law_well (spWell K) := by
  have nd := sc__law_well.nd
  refine D.cal (k := 1-1) sc__law_well (fun vs H Q E h => ?_) (fun _ _ _ _ _ _ us hl => match us, hl with | [_, _], _ => rfl) fun f cdv A outer s H vs Q E hG hr h => have hu := hr.units; have hu2 := u150 hr; ⟨_, (pss_cons (ps_set (i := 2) nd rfl (Or.inl rfl) (pe_op (k_add (K := K) rfl) pe_int (pe_op (k_mul (K := K) rfl) pe_int (pv 1)))) (pss_cons (ps_for PassesOwn.never rfl (k_list (K := K) rfl (pe_slice (k_sl (K := K) rfl) (pv 0) po_none (po_some pe_int))) (pg_name (i := 3) nd rfl (Or.inl rfl)) (pss_one (ps_set (i := 2) nd rfl (Or.inl rfl) (pe_op op_mod (pe_callTy call_intA rfl T.n_int (by decide +kernel) (pa_cons (pe_op (k_add (K := K) rfl) (pe_op (k_add (K := K) rfl) (pe_op (k_mul (K := K) rfl) (pv 2) pe_int) (pe_op (k_mul (K := K) rfl) (pe_op op_mod (pe_callTy call_intA rfl T.n_int (by decide +kernel) (pa_cons (pv 3) pa_nil)) pe_int) pe_int)) pe_int) pa_nil)) pe_int)))) (pss_cons (ps_set (i := 4) nd rfl (Or.inl rfl) (pe_ifExp (pt_cmpR op_ltA (pv 1) (pe_callB (k_len (K := K) rfl) rfl T.n_len (by decide +kernel) (pa_cons (pv 0) pa_nil)) (nomark _)) (pe_callTy call_intA rfl T.n_int (by decide +kernel) (pa_cons (pe_ix (k_ix (K := K) rfl) (pv 0) (pv 1) (fun _ _ => rfl)) pa_nil)) pe_int)) (pss_cons (ps_set (i := 2) nd rfl (Or.inl rfl) (pe_op op_mod (pe_callTy call_intA rfl T.n_int (by decide +kernel) (pa_cons (pe_op (k_add (K := K) rfl) (pe_op (k_add (K := K) rfl) (pe_op (k_mul (K := K) rfl) (pv 2) pe_int) (pe_op (k_mul (K := K) rfl) (pe_op op_mod (pe_callTy call_intA rfl T.n_int (by decide +kernel) (pa_cons (pv 4) pa_nil)) pe_int) pe_int)) pe_int) pa_nil)) pe_int)) (pss_one (ps_ret (pe_lst (pa_cons (pe_ifExp (PW.pt (pw_or (pt_cmpR op_ltA (pv 4) pe_int (nomark _)) (pw_or1 (pt_cmpR op_geA (pv 4) (pe_op op_pow pe_int pe_int) (nomark _))))) (pe_callB call_absA rfl T.n_abs (by decide +kernel) (pa_cons (pv 4) pa_nil)) pe_int) (pa_cons (pv 2) (pa_cons pe_int pa_nil)))))))))), ?_⟩
  · obtain ⟨a, ns, lap, rfl, _⟩ := h; rfl
  obtain ⟨a, ns, lap, rfl, hs, h1, h2, hQ⟩ := h
  rw [show L2.start N__law_well [V.ref a, V.int lap] = [some (V.ref a), some (V.int lap), none, none, none] from rfl]
  wtm_at "go"
  refine w_forL ?_
  wtm_at "go"
  intro l hl
  refine ⟨_, rfl, ⟨_, SqL.of upd_same⟩, f_list (K := K) (xs := cutV (ns.map V.int) none (some 10)) (fun i σ H' => ∃ (m : Int) (v : Option V), σ = [some (.ref a), some (.int lap), some (.int m), v, none] ∧ Same (upd H l (.lst (cutV (ns.map V.int) none (some 10)))) H') ⟨_, _, rfl, Same.refl _⟩ ?_ ?_ ?_⟩
  · rintro i σ H' _ ⟨m, v, rfl, sm⟩
    exact SqL.of (sm _ _ upd_same)
  · rintro i x σ H' hx ⟨m, v, rfl, sm⟩
    obtain ⟨z, rfl⟩ := cut_int hx
    wtm_at "go"
    exact ⟨_, _, rfl, sm⟩
  · rintro σ H' ⟨m, v, rfl, sm⟩
    have sm2 : Same H H' := (same_new hl).trans sm
    have hs2 := sm2.seq hs
    wtm_at "go"
    have done : ∀ (z y : Int), 0 ≤ z → 0 ≤ y → y < 2147483489 → ∀ p, H' p = none → Q (V.ref p) (upd H' p (.lst [.int z, .int y, .int 0])) := fun z y h3 h4 h5 p hp =>
      hQ p _ (sm2.free hp) (sm2.trans (same_new hp)) ⟨_, _, _, upd_same, h3, h4, h5⟩
    refine w_ite (fun c => ?_) (fun c => ?_)
    · wtm_at "go"
      rw [List.length_map] at c
      have e : atI (ns.map V.int) lap = some (V.int (ns[lap.toNat]'(by omega))) := by
        have q := at_of (xs := ns.map V.int) (k := lap.toNat) (v := V.int (ns[lap.toNat]'(by omega))) (by rw [List.getElem?_map, List.getElem?_eq_getElem (by omega)]; rfl)
        rwa [Int.toNat_of_nonneg h1] at q
      refine w_ixL hs2 e ?_
      generalize ns[lap.toNat]'(by omega) = own
      wtm_at "go"
      refine w_ite (fun c => ?_) (fun c => ?_)
      · wtm_at "go"
        exact done _ _ (by split <;> omega) (Int.emod_nonneg _ (by omega)) (Int.emod_lt_of_pos _ (by omega))
      · wtm_at "go"
        refine w_pow ⟨by decide, by decide, by decide⟩ ?_
        wtm_at "go"
        refine w_ite (fun c => ?_) (fun c => ?_)
        · wtm_at "go"
          exact done _ _ (by split <;> omega) (Int.emod_nonneg _ (by omega)) (Int.emod_lt_of_pos _ (by omega))
        · wtm_at "go"
          exact done _ _ (by omega) (Int.emod_nonneg _ (by omega)) (Int.emod_lt_of_pos _ (by omega))
    · wtm_at "go"
      refine w_ite (fun c => ?_) (fun c => ?_)
      · wtm_at "go"
        exact done _ _ (by split <;> omega) (Int.emod_nonneg _ (by omega)) (Int.emod_lt_of_pos _ (by omega))
      · wtm_at "go"
        refine w_pow ⟨by decide, by decide, by decide⟩ ?_
        wtm_at "go"
        refine w_ite (fun c => ?_) (fun c => ?_)
        · wtm_at "go"
          exact done _ _ (by split <;> omega) (Int.emod_nonneg _ (by omega)) (Int.emod_lt_of_pos _ (by omega))
        · wtm_at "go"
          exact done _ _ (by omega) (Int.emod_nonneg _ (by omega)) (Int.emod_lt_of_pos _ (by omega))

theorem cal__law_one (T : Txt mg) (D : Def1 K mg "_law_one" s__law_one)  (c__law_draw : Cal P w K mg base "_law_draw" 1 P__law_draw spDraw) : Cal P w K mg base "_law_one" 2 P__law_one (spOne K) := by
  have nd := sc__law_one.nd
  refine D.cal (k := 2-1) sc__law_one (fun vs H Q E h => ?_) (fun _ _ _ _ _ _ us hl => match us, hl with | [_, _], _ => rfl) fun f cdv A outer s H vs Q E hG hr h => have hu := hr.units; have hu2 := u150 hr; ⟨_, (pss_one (ps_ret (pe_ix (k_ix (K := K) rfl) (pv 1) (pe_cal c__law_draw hG (hr.mono (by decide)) rfl (pa_cons (pv 0) (pa_cons (pe_callB (k_len (K := K) rfl) rfl T.n_len (by decide +kernel) (pa_cons (pv 1) pa_nil)) pa_nil))) (fun _ _ => rfl)))), ?_⟩
  · obtain ⟨w, t, xs, rfl, _⟩ := h; rfl
  obtain ⟨w, t, xs, rfl, hs, h1, h2, hw, hQ⟩ := h
  rw [show L2.start N__law_one [V.ref w, V.ref t] = [some (V.ref w), some (V.ref t)] from rfl]
  wtm_at "go"
  have pos : 0 < xs.length := List.length_pos_iff.mpr h1
  have step : spDraw [V.ref w, V.int xs.length] H (fun y H2 => rIx K (V.ref t) y H2 Q) E0 := by
    refine ⟨w, _, rfl, by omega, by omega, hw, fun k k0 k1 H' kp wl => ?_⟩
    obtain ⟨j, rfl⟩ := Int.eq_ofNat_of_zero_le k0
    have hj : j < xs.length := by omega
    have e : xs[j]? = some xs[j] := List.getElem?_eq_getElem hj
    have m := hQ xs[j] (List.getElem_mem hj) H' kp wl
    rcases hs with hs | ⟨hs, hn⟩
    · exact w_ixT (SqT.kp hs hw kp) (at_of e) m
    · exact w_ixL (SqL.kp hs hn kp) (at_of e) m
  rcases hs with hs | ⟨hs, hn⟩
  · refine w_lenT hs ?_
    wtm_at "go"
    exact step
  · refine w_lenL hs ?_
    wtm_at "go"
    exact step
theorem cal__law_lean (T : Txt mg) (D : Def1 K mg "_law_lean" s__law_lean)   : Cal P w K mg base "_law_lean" 1 P__law_lean spLean := by
  have nd := sc__law_lean.nd
  refine D.cal (k := 1-1) sc__law_lean (fun vs H Q E h => ?_) (fun _ _ _ _ _ _ us hl => match us, hl with | [_, _], _ => rfl) fun f cdv A outer s H vs Q E hG hr h => have hu := hr.units; have hu2 := u150 hr; ⟨_, (pss_cons (ps_par (i := 2) (j := 3) rfl nd rfl rfl (by decide) rfl rfl (pa_cons (pe_callB call_absA rfl T.n_abs (by decide +kernel) (pa_cons (pv 0) pa_nil)) (pa_cons (pe_callB call_absA rfl T.n_abs (by decide +kernel) (pa_cons (pv 1) pa_nil)) pa_nil)) (by rfl)) (pss_cons (ps_while PassesOwn.never (pt_cmpR op_gtA (pv 3) pe_int (nomark _)) (pss_one (ps_par (i := 2) (j := 3) rfl nd rfl rfl (by decide) rfl rfl (pa_cons (pv 3) (pa_cons (pe_op op_mod (pe_callTy call_intA rfl T.n_int (by decide +kernel) (pa_cons (pv 2) pa_nil)) (pv 3)) pa_nil)) (by rfl)))) (pss_cons (ps_set (i := 2) nd rfl (Or.inl rfl) (pe_ifExp (pt_cmpR op_gtA (pv 1) pe_int (nomark _)) (pv 2) (pe_op op_sub pe_int (pv 2)))) (pss_one (ps_ret (pe_tup (pa_cons (pe_op op_fdivW (pv 0) (pv 2)) (pa_cons (pe_op op_fdivW (pv 1) (pv 2)) pa_nil)))))))), ?_⟩
  · obtain ⟨n, d, rfl, _⟩ := h; rfl
  obtain ⟨n, d, rfl, h1, h2, hQ⟩ := h
  rw [show L2.start N__law_lean [V.int n, V.int d] = [some (V.int n), some (V.int d), none, none] from rfl]
  wtm_at "go"
  refine w_while (fun σ H' => ∃ x y : Int, σ = [some (.int n), some (.int d), some (.int x), some (.int y)] ∧ 0 ≤ x ∧ 0 ≤ y ∧ Int.gcd x y = Int.gcd n d ∧ H' = H) (fun σ _ => match σ[3]? with | some (some (V.int y)) => y.toNat | _ => 0) ⟨_, _, rfl, by split <;> omega, by split <;> omega, ?_, rfl⟩ ?_ ?_
  · exact gcd_abs n d
  · rintro σ H' ⟨x, y, rfl, hx, hy, hg, rfl⟩
    wtm_at "go"
    refine w_ite (fun c => ?_) (fun c => ?_)
    · wtm_at "go"
      exact ⟨⟨_, _, rfl, hy, Int.emod_nonneg _ (by omega), (gcd_step hx hy).trans hg, rfl⟩, show (x % y).toNat < y.toNat by have := Int.emod_lt_of_pos x c; have := Int.emod_nonneg x (show y ≠ 0 by omega); omega⟩
    · have y0 : y = 0 := by omega
      subst y0
      have e : x = (Int.gcd n d : Nat) := by rw [← hg]; exact (gcd_end hx).symm
      have z : CDivW n x := ⟨by rw [e]; exact gcd_pos h1, Nat.lt_of_lt_of_le (PySem.Flt.log2_lt_of (k := 8000) (by decide) (Nat.lt_of_le_of_lt (by rw [e, Int.natAbs_natCast]; exact gcd_le h1) h2)) (by decide)⟩
      wtm_at "go"
      have z2 : CDivW d x := z
      refine w_ite (fun c2 => ?_) (fun c2 => absurd h1 c2)
      wtm_at "go"
      rw [e]
      exact hQ
  · rintro σ H' A B f ⟨v, e, i, j, h1, h2, k, h3, h4⟩
    exact ⟨v, e, i, j, h1, h2, k, h3, f _ _ h4⟩
end
end K1

set_option Elab.async false
set_option linter.all false
set_option maxRecDepth 100000
set_option maxHeartbeats 4000000
set_option autoImplicit false
namespace K1
open PySem PySem.Spec PyProof.Rows L2 RZ Gd
local macro_rules | `(tactic| wtm_at "ix") => `(tactic| first | exact at_0 | exact at_1 | exact at_2 | exact at_3 | exact at_4 | exact at_5 | exact ix_0 | exact ix_1 | exact ix_2 | exact ix_3)
local macro_rules | `(tactic| wtm_at "st") => `(tactic| first | assumption | exact upd_same | (with_reducible refine' hold_new ?hA ?hB; (case hB => assumption); (case hA => wtm_at "st")))
local macro_rules | `(tactic| wtm_at "rl") => `(tactic| first | assumption | (refine' SqL.of ?hC; (case hC => wtm_at "st")) | (refine' SqT.of ?hC; (case hC => wtm_at "st")))
local macro_rules | `(tactic| wtm_at "rd") => `(tactic| first
  | with_reducible refine w_seq ?_
  | with_reducible refine w_asg ?_
  | with_reducible refine w_ret ?_
  | with_reducible refine w_op ?_
  | with_reducible refine w_cb ?_
  | with_reducible refine w_cons ?_
  | with_reducible refine w_nil ?_
  | with_reducible refine w_c ?_
  | with_reducible refine w_if ?_
  | with_reducible refine w_test ?_
  | with_reducible refine w_un ?_
  | with_reducible refine w_tup ?_
  | with_reducible refine w_lst ?_
  | with_reducible refine w_call ?_
  | with_reducible refine w_and ?_
  | with_reducible refine w_or ?_
  | with_reducible refine w_not ?_
  | with_reducible refine w_ife ?_
  | with_reducible refine w_tB ?_
  | with_reducible refine w_andV ?_
  | with_reducible refine w_orV ?_
  | with_reducible refine w_notV ?_
  | with_reducible refine w_sub ?_
  | with_reducible refine w_gcons ?_
  | with_reducible refine w_gnil ?_
  | with_reducible refine w_next ?_
  | with_reducible refine w_drop ?_
  | with_reducible refine w_retN ?_
  | with_reducible refine w_brk ?_
  | with_reducible refine w_cont ?_
  | with_reducible refine w_bl ?_
  | with_reducible refine w_gt ?_
  | with_reducible refine w_ge ?_
  | with_reducible refine w_lt ?_
  | with_reducible refine w_le ?_
  | with_reducible refine w_subI ?_
  | with_reducible refine w_neg ?_
  | with_reducible refine w_addI ?_
  | with_reducible refine w_int ?_
  | with_reducible refine w_intB ?_
  | with_reducible refine w_abs ?_
  | with_reducible refine w_iteT ?_
  | with_reducible refine w_iteF ?_
  | with_reducible refine w_par ?_
  | with_reducible refine w_par3 ?_
  | with_reducible refine w_sl ?_
  | with_reducible refine w_nop ?_
  | with_reducible refine w_part ?_
  | with_reducible refine w_vint ?_
  | with_reducible refine w_vbl2 ?_
  | with_reducible refine w_vbl3 ?_
  | with_reducible refine w_lc ?_
  | with_reducible refine w_list ?_
  | with_reducible refine w_enum ?_
  | with_reducible refine w_fld ?_
  | with_reducible refine w_mk ?_
  | with_reducible refine w_yes ?_
  | with_reducible refine w_iz ?_
  | with_reducible refine w_var0 ?_
  | with_reducible refine w_var1 ?_
  | with_reducible refine w_var2 ?_
  | with_reducible refine w_var3 ?_
  | with_reducible refine w_var4 ?_
  | with_reducible refine w_var5 ?_
  | with_reducible refine w_var6 ?_
  | with_reducible refine w_var7 ?_
  | with_reducible refine w_var8 ?_
  | with_reducible refine w_var9 ?_
  | with_reducible refine w_var10 ?_
  | with_reducible refine w_var11 ?_
  | with_reducible refine w_var12 ?_
  | with_reducible refine w_var13 ?_
  | with_reducible refine w_var14 ?_
  | with_reducible refine w_var15 ?_
  | with_reducible refine w_nam0 ?_
  | with_reducible refine w_nam1 ?_
  | with_reducible refine w_nam2 ?_
  | with_reducible refine w_nam3 ?_
  | with_reducible refine w_nam4 ?_
  | with_reducible refine w_nam5 ?_
  | with_reducible refine w_nam6 ?_
  | with_reducible refine w_nam7 ?_
  | with_reducible refine w_nam8 ?_
  | with_reducible refine w_nam9 ?_
  | with_reducible refine w_nam10 ?_
  | with_reducible refine w_nam11 ?_
  | with_reducible refine w_nam12 ?_
  | with_reducible refine w_nam13 ?_
  | with_reducible refine w_nam14 ?_
  | with_reducible refine w_nam15 ?_
  | (with_reducible refine' w_eqS ?hs ?_; (case hs => with_unfolding_all rfl))
  | (with_reducible refine' w_neS ?hs ?_; (case hs => with_unfolding_all rfl))
  | (with_reducible refine' w_len ?hs ?_; (case hs => (simp only [List.length_cons, List.length_nil]; omega)))
  | (with_reducible refine' w_slL ?hs ?_; (case hs => wtm_at "rl"))
  | (with_reducible refine' w_mulI ?hs ?_; (case hs => (first | (refine cmul_r ?_; (constructor <;> omega)) | (refine cmul_l ?_; (constructor <;> omega)) | assumption)))
  | (with_reducible refine' w_mod ?hs ?_; (case hs => (first | omega | assumption)))
  | (with_reducible refine' w_div ?hs ?_; (case hs => (first | assumption | (refine cdiv_s ?_ ?_ <;> omega))))
  | (with_reducible refine' w_ixL ?hs ?ht ?_; (case hs => wtm_at "rl"); (case ht => wtm_at "ix"))
  | (with_reducible refine' w_ixT ?hs ?ht ?_; (case hs => wtm_at "rl"); (case ht => wtm_at "ix"))
  | (with_reducible refine' w_set0 ?hs ?_; (case hs => wtm_at "st"))
  | (with_reducible refine' w_set1 ?hs ?_; (case hs => wtm_at "st"))
  | (with_reducible refine' w_set2 ?hs ?_; (case hs => wtm_at "st"))
  | (with_reducible refine' w_lenL ?hs ?_; (case hs => wtm_at "rl"))
  | (with_reducible refine' w_lenT ?hs ?_; (case hs => wtm_at "rl"))
  | (with_reducible refine' w_gtup ?hs ?ht ?_; (case hs => wtm_at "rl"); (case ht => with_unfolding_all rfl))
  | rw [List.set_cons_zero]
  | rw [List.set_cons_succ]
  | rw [Bool.not_true]
  | rw [Bool.not_false])
local macro_rules | `(tactic| wtm_at "go") => `(tactic| repeat wtm_at "rd")
section
variable {P : Program} {w : World} {K : PySem.W.Frag} {mg : Str → Option Value} {base : Heap}
theorem cal__law_minus (T : Txt mg) (D : Def1 K mg "_law_minus" s__law_minus)  (c__law_lean : Cal P w K mg base "_law_lean" 1 P__law_lean spLean) : Cal P w K mg base "_law_minus" 2 P__law_minus (spMinus K) := by
  have nd := sc__law_minus.nd
  refine D.cal (k := 2-1) sc__law_minus (fun vs H Q E h => ?_) (fun _ _ _ _ _ _ us hl => match us, hl with | [_, _], _ => rfl) fun f cdv A outer s H vs Q E hG hr h => have hu := hr.units; have hu2 := u150 hr; ⟨_, (pss_one (ps_ret (pe_cal c__law_lean hG (hr.mono (by decide)) rfl (pa_cons (pe_op op_sub (pe_op (k_mul (K := K) rfl) (pe_ix (k_ix (K := K) rfl) (pv 0) pe_int (fun _ _ => rfl)) (pe_ix (k_ix (K := K) rfl) (pv 1) pe_int (fun _ _ => rfl))) (pe_op (k_mul (K := K) rfl) (pe_ix (k_ix (K := K) rfl) (pv 1) pe_int (fun _ _ => rfl)) (pe_ix (k_ix (K := K) rfl) (pv 0) pe_int (fun _ _ => rfl)))) (pa_cons (pe_op (k_mul (K := K) rfl) (pe_ix (k_ix (K := K) rfl) (pv 0) pe_int (fun _ _ => rfl)) (pe_ix (k_ix (K := K) rfl) (pv 1) pe_int (fun _ _ => rfl))) pa_nil))))), ?_⟩
  · obtain ⟨a, b, x, y, rfl, _⟩ := h; rfl
  obtain ⟨a, b, x, y, rfl, ha, hb, h1, h2, h3, h4, h5, h6, hQ⟩ := h
  rw [show L2.start N__law_minus [V.ref a, V.ref b] = [some (V.ref a), some (V.ref b)] from rfl]
  have m1 : CMulA x.1 y.2 := .inr (wide_mul h3 h6 (by decide) (by decide) (by decide))
  have m2 : CMulA y.1 x.2 := .inr (wide_mul h5 h4 (by decide) (by decide) (by decide))
  have m3 : CMulA x.2 y.2 := .inr (wide_mul h4 h6 (by decide) (by decide) (by decide))
  wtm_at "go"
  exact ⟨_, _, rfl, Int.mul_pos h1 h2, wide_lt h4 h6, hQ⟩
theorem cal__law_number (T : Txt mg) (D : Def1 K mg "_law_number" s__law_number)  (c__law_draw : Cal P w K mg base "_law_draw" 1 P__law_draw spDraw) (c__law_one : Cal P w K mg base "_law_one" 2 P__law_one (spOneD K)) (c__law_lean : Cal P w K mg base "_law_lean" 1 P__law_lean spLean) : Cal P w K mg base "_law_number" 3 P__law_number (spNumber K) := by
  have nd := sc__law_number.nd
  refine D.cal (k := 3-1) sc__law_number (fun vs H Q E h => ?_) (fun _ _ _ _ _ _ us hl => match us, hl with | [_], _ => rfl) fun f cdv A outer s H vs Q E hG hr h => have hu := hr.units; have hu2 := u150 hr; ⟨_, (pss_cons (ps_set (i := 1) nd rfl (Or.inl rfl) (pe_cal c__law_draw hG (hr.mono (by decide)) rfl (pa_cons (pv 0) (pa_cons pe_int pa_nil)))) (pss_cons (ps_if (pt_cmpR op_ltA (pv 1) pe_int (nomark _)) (pss_one (ps_ret (pe_cal c__law_one hG (hr.mono (by decide)) rfl (pa_cons (pv 0) (pa_cons (k_dat (K := K) rfl (pd_tup (pds_cons (pd_tup (pds_cons pd_int (pds_cons pd_int pds_nil))) (pds_cons (pd_tup (pds_cons pd_int (pds_cons pd_int pds_nil))) (pds_cons (pd_tup (pds_cons pd_int (pds_cons pd_int pds_nil))) (pds_cons (pd_tup (pds_cons pd_int (pds_cons pd_int pds_nil))) (pds_cons (pd_tup (pds_cons pd_int (pds_cons pd_int pds_nil))) (pds_cons (pd_tup (pds_cons pd_neg (pds_cons pd_int pds_nil))) (pds_cons (pd_tup (pds_cons pd_int (pds_cons pd_int pds_nil))) (pds_cons (pd_tup (pds_cons pd_neg (pds_cons pd_int pds_nil))) (pds_cons (pd_tup (pds_cons pd_int (pds_cons pd_int pds_nil))) (pds_cons (pd_tup (pds_cons pd_neg (pds_cons pd_int pds_nil))) pds_nil)))))))))))) pa_nil))))) pss_nil) (pss_one (ps_ret (pe_cal c__law_lean hG (hr.mono (by decide)) rfl (pa_cons (pe_op op_sub (pe_cal c__law_draw hG (hr.mono (by decide)) rfl (pa_cons (pv 0) (pa_cons pe_int pa_nil))) pe_int) (pa_cons (pe_op (k_add (K := K) rfl) pe_int (pe_cal c__law_draw hG (hr.mono (by decide)) rfl (pa_cons (pv 0) (pa_cons pe_int pa_nil)))) pa_nil))))))), ?_⟩
  · obtain ⟨w, rfl, _⟩ := h; rfl
  obtain ⟨w, rfl, hw, hQ⟩ := h
  rw [show L2.start N__law_number [V.ref w] = [some (V.ref w), none] from rfl]
  wtm_at "go"
  refine ⟨w, 16, rfl, by omega, by omega, hw, fun k k0 k1 H1 kp1 w1 => ?_⟩
  wtm_at "go"
  refine w_ite (fun c => ?_) (fun c => ?_)
  · wtm_at "go"
    refine w_dat w1.ne fun H2 v s2 d2 => ?_
    wtm_at "go"
    refine ⟨w, v, _, rfl, d2, by simp, by simp, w1.same s2, fun d hd H3 u kp3 w3 hu => ?_⟩
    have key : ∃ q, d = frD q ∧ NumOk q := by
      simp only [List.mem_cons, List.not_mem_nil, or_false] at hd
      rcases hd with rfl | rfl | rfl | rfl | rfl | rfl | rfl | rfl | rfl | rfl
      all_goals first | exact ⟨(0, 1), rfl, by decide⟩ | exact ⟨(1, 1), rfl, by decide⟩ | exact ⟨(-1, 1), rfl, by decide⟩ | exact ⟨(2, 1), rfl, by decide⟩ | exact ⟨(-2, 1), rfl, by decide⟩ | exact ⟨(1, 2), rfl, by decide⟩ | exact ⟨(-1, 3), rfl, by decide⟩
    obtain ⟨q, rfl, hq⟩ := key
    exact hQ q hq H3 u ((kp1.trans (Kp.same s2)).trans kp3) w3 (dt_fr hu)
  · wtm_at "go"
    refine ⟨w, _, rfl, by omega, by omega, w1, fun k2 a0 a1 H2 kp2 w2 => ?_⟩
    wtm_at "go"
    refine ⟨w, _, rfl, by omega, by omega, w2, fun k3 b0 b1 H3 kp3 w3 => ?_⟩
    wtm_at "go"
    refine ⟨_, _, rfl, by omega, Nat.lt_of_lt_of_le (show (1 + k3).natAbs < 2 ^ 10 by omega) (Nat.pow_le_pow_right (by decide) (by decide)), fun p hp => ?_⟩
    have d0 : 0 < 1 + k3 := by omega
    have z1 := leanF_n (n := k2 - 1000000) d0
    have z2 := leanF_d (n := k2 - 1000000) d0
    exact hQ (leanF (k2 - 1000000) (1 + k3)) ⟨leanF_pos d0, leanF_gcd d0, by omega, by omega⟩ _ _ (((kp1.trans kp2).trans kp3).trans (Kp.new hp)) (w3.same (same_new hp)) (.tup (SqT.of upd_same) (.cons (.int _) (.cons (.int _) .nil)))
theorem cal__law_numbers (T : Txt mg) (D : Def1 K mg "_law_numbers" s__law_numbers)  (c__law_number : Cal P w K mg base "_law_number" 3 P__law_number (spNumber K)) : Cal P w K mg base "_law_numbers" 4 P__law_numbers (spNumbers K) := by
  have nd := sc__law_numbers.nd
  refine D.cal (k := 4-1) sc__law_numbers (fun vs H Q E h => ?_) (fun _ _ _ _ _ _ us hl => match us, hl with | [_, _], _ => rfl) fun f cdv A outer s H vs Q E hG hr h => have hu := hr.units; have hu2 := u150 hr; ⟨_, (pss_cons (ps_set (i := 2) nd rfl (Or.inl rfl) (pe_lst pa_nil)) (pss_cons (ps_for PassesOwn.never rfl (pi_range1 rfl T.n_range (pa_cons (pv 1) pa_nil)) (pg_name (i := 3) nd rfl (Or.inl rfl)) (pss_one (ps_expr (pe_bm PySem.F.plainAttrs_list PySem.F.slot_list_append PySem.F.type_list_append mt_append (pv 2) (pa_cons (pe_cal c__law_number hG (hr.mono (by decide)) rfl (pa_cons (pv 0) pa_nil)) pa_nil))))) (pss_one (ps_ret (pe_callTy (k_tupT (K := K) rfl) rfl T.n_tuple (by decide +kernel) (pa_cons (pv 2) pa_nil)))))), ?_⟩
  · obtain ⟨w, few, rfl, _⟩ := h; rfl
  obtain ⟨w, few, rfl, h1, hw, hQ⟩ := h
  rw [show L2.start N__law_numbers [V.ref w, V.int few] = [some (V.ref w), some (V.int few), none, none] from rfl]
  wtm_at "go"
  intro l hl
  wtm_at "go"
  refine w_forR ?_
  wtm_at "go"
  have wl0 : w ≠ l := hw.apart hl
  refine ⟨few, rfl, by omega, by omega, f_range (lo := 0) (k := (few : Int).toNat) (fun i σ H' => ∃ (v : Option V) (qs : List (Int × Int)) (xs : List V), σ = [some (.ref w), some (.int few), some (.ref l), v] ∧ qs.length = i ∧ (∀ q ∈ qs, NumOk q) ∧ H' l = some (.lst xs) ∧ TtL K H' xs (qs.map frD) ∧ Kp w H H' ∧ Wl H' w)
    ⟨_, [], [], rfl, rfl, by simp, upd_same, .nil, Kp.new hl, hw.same (same_new hl)⟩ ?_ ?_⟩
  · rintro i σ H1 hi ⟨v, qs, xs, rfl, hq, ok, hl1, tt, kp, wl⟩
    wtm_at "go"
    refine w_appV rfl hl1 ?_
    wtm_at "go"
    refine ⟨w, rfl, wl, fun q nq H2 y kp2 w2 ty => ?_⟩
    wtm_at "go"
    have hl2 := kp2 l _ wl0.symm hl1
    have tt2 := TtL.tk (TK.kp wl kp2) tt
    refine w_apd hl2 (Nat.lt_of_le_of_lt (by rw [tt.length, List.length_map, hq]; omega) (show 1000 < sizeLine by decide)) ?_
    have tk := TK.put (o := .lst (xs ++ [y])) hl2
    refine ⟨_, qs ++ [q], _, rfl, by rw [List.length_append, hq]; rfl, fun z hz => (List.mem_append.mp hz).elim (ok z) fun h => by rw [List.mem_singleton.mp h]; exact nq, upd_same, ?_, fun b o n e => ?_, ?_⟩
    · rw [List.map_append]
      exact (TtL.tk tk tt2).append (.one (ty.tk tk))
    · rw [upd_ne (ne_of_none e hl)]
      exact kp2 _ _ n (kp _ _ n e)
    · obtain ⟨a, m, n, e, r⟩ := w2
      exact ⟨a, m, n, by rw [upd_ne wl0]; exact e, r⟩
  · rintro σ H1 ⟨v, qs, xs, rfl, hq, ok, hl1, tt, kp, wl⟩
    wtm_at "go"
    refine w_tupL (SqL.of hl1) fun p hp => ?_
    exact hQ qs (by rw [hq]; omega) ok _ _ (kp.trans (Kp.new hp)) (wl.same (same_new hp)) (.tup (SqT.of upd_same) (TtL.tk (TK.same (same_new hp)) tt))
end
end K1

set_option Elab.async false
set_option linter.all false
set_option maxRecDepth 100000
set_option maxHeartbeats 4000000
set_option autoImplicit false
namespace K1
open PySem PySem.Spec PyProof.Rows L2 RZ Gd
local macro_rules | `(tactic| wtm_at "ix") => `(tactic| first | exact at_0 | exact at_1 | exact at_2 | exact at_3 | exact at_4 | exact at_5 | exact ix_0 | exact ix_1 | exact ix_2 | exact ix_3)
local macro_rules | `(tactic| wtm_at "st") => `(tactic| first | assumption | exact upd_same | (with_reducible refine' hold_new ?hA ?hB; (case hB => assumption); (case hA => wtm_at "st")))
local macro_rules | `(tactic| wtm_at "rl") => `(tactic| first | assumption | (refine' SqL.of ?hC; (case hC => wtm_at "st")) | (refine' SqT.of ?hC; (case hC => wtm_at "st")))
local macro_rules | `(tactic| wtm_at "rd") => `(tactic| first
  | with_reducible refine w_seq ?_
  | with_reducible refine w_asg ?_
  | with_reducible refine w_ret ?_
  | with_reducible refine w_op ?_
  | with_reducible refine w_cb ?_
  | with_reducible refine w_cons ?_
  | with_reducible refine w_nil ?_
  | with_reducible refine w_c ?_
  | with_reducible refine w_if ?_
  | with_reducible refine w_test ?_
  | with_reducible refine w_un ?_
  | with_reducible refine w_tup ?_
  | with_reducible refine w_lst ?_
  | with_reducible refine w_call ?_
  | with_reducible refine w_and ?_
  | with_reducible refine w_or ?_
  | with_reducible refine w_not ?_
  | with_reducible refine w_ife ?_
  | with_reducible refine w_tB ?_
  | with_reducible refine w_andV ?_
  | with_reducible refine w_orV ?_
  | with_reducible refine w_notV ?_
  | with_reducible refine w_sub ?_
  | with_reducible refine w_gcons ?_
  | with_reducible refine w_gnil ?_
  | with_reducible refine w_next ?_
  | with_reducible refine w_drop ?_
  | with_reducible refine w_retN ?_
  | with_reducible refine w_brk ?_
  | with_reducible refine w_cont ?_
  | with_reducible refine w_bl ?_
  | with_reducible refine w_gt ?_
  | with_reducible refine w_ge ?_
  | with_reducible refine w_lt ?_
  | with_reducible refine w_le ?_
  | with_reducible refine w_subI ?_
  | with_reducible refine w_neg ?_
  | with_reducible refine w_addI ?_
  | with_reducible refine w_int ?_
  | with_reducible refine w_intB ?_
  | with_reducible refine w_abs ?_
  | with_reducible refine w_iteT ?_
  | with_reducible refine w_iteF ?_
  | with_reducible refine w_par ?_
  | with_reducible refine w_par3 ?_
  | with_reducible refine w_sl ?_
  | with_reducible refine w_nop ?_
  | with_reducible refine w_part ?_
  | with_reducible refine w_vint ?_
  | with_reducible refine w_vbl2 ?_
  | with_reducible refine w_vbl3 ?_
  | with_reducible refine w_lc ?_
  | with_reducible refine w_list ?_
  | with_reducible refine w_enum ?_
  | with_reducible refine w_fld ?_
  | with_reducible refine w_mk ?_
  | with_reducible refine w_yes ?_
  | with_reducible refine w_iz ?_
  | with_reducible refine w_var0 ?_
  | with_reducible refine w_var1 ?_
  | with_reducible refine w_var2 ?_
  | with_reducible refine w_var3 ?_
  | with_reducible refine w_var4 ?_
  | with_reducible refine w_var5 ?_
  | with_reducible refine w_var6 ?_
  | with_reducible refine w_var7 ?_
  | with_reducible refine w_var8 ?_
  | with_reducible refine w_var9 ?_
  | with_reducible refine w_var10 ?_
  | with_reducible refine w_var11 ?_
  | with_reducible refine w_var12 ?_
  | with_reducible refine w_var13 ?_
  | with_reducible refine w_var14 ?_
  | with_reducible refine w_var15 ?_
  | with_reducible refine w_nam0 ?_
  | with_reducible refine w_nam1 ?_
  | with_reducible refine w_nam2 ?_
  | with_reducible refine w_nam3 ?_
  | with_reducible refine w_nam4 ?_
  | with_reducible refine w_nam5 ?_
  | with_reducible refine w_nam6 ?_
  | with_reducible refine w_nam7 ?_
  | with_reducible refine w_nam8 ?_
  | with_reducible refine w_nam9 ?_
  | with_reducible refine w_nam10 ?_
  | with_reducible refine w_nam11 ?_
  | with_reducible refine w_nam12 ?_
  | with_reducible refine w_nam13 ?_
  | with_reducible refine w_nam14 ?_
  | with_reducible refine w_nam15 ?_
  | (with_reducible refine' w_eqS ?hs ?_; (case hs => with_unfolding_all rfl))
  | (with_reducible refine' w_neS ?hs ?_; (case hs => with_unfolding_all rfl))
  | (with_reducible refine' w_len ?hs ?_; (case hs => (simp only [List.length_cons, List.length_nil]; omega)))
  | (with_reducible refine' w_slL ?hs ?_; (case hs => wtm_at "rl"))
  | (with_reducible refine' w_mulI ?hs ?_; (case hs => (first | (refine cmul_r ?_; (constructor <;> omega)) | (refine cmul_l ?_; (constructor <;> omega)) | assumption)))
  | (with_reducible refine' w_mod ?hs ?_; (case hs => (first | omega | assumption)))
  | (with_reducible refine' w_div ?hs ?_; (case hs => (first | assumption | (refine cdiv_s ?_ ?_ <;> omega))))
  | (with_reducible refine' w_ixL ?hs ?ht ?_; (case hs => wtm_at "rl"); (case ht => wtm_at "ix"))
  | (with_reducible refine' w_ixT ?hs ?ht ?_; (case hs => wtm_at "rl"); (case ht => wtm_at "ix"))
  | (with_reducible refine' w_set0 ?hs ?_; (case hs => wtm_at "st"))
  | (with_reducible refine' w_set1 ?hs ?_; (case hs => wtm_at "st"))
  | (with_reducible refine' w_set2 ?hs ?_; (case hs => wtm_at "st"))
  | (with_reducible refine' w_lenL ?hs ?_; (case hs => wtm_at "rl"))
  | (with_reducible refine' w_lenT ?hs ?_; (case hs => wtm_at "rl"))
  | (with_reducible refine' w_gtup ?hs ?ht ?_; (case hs => wtm_at "rl"); (case ht => with_unfolding_all rfl))
  | rw [List.set_cons_zero]
  | rw [List.set_cons_succ]
  | rw [Bool.not_true]
  | rw [Bool.not_false])
local macro_rules | `(tactic| wtm_at "go") => `(tactic| repeat wtm_at "rd")
section
variable {P : Program} {w : World} {K : PySem.W.Frag} {mg : Str → Option Value} {base : Heap}
def oddL : List PyData := [.none, .bool true, .bool false, .int 0, .int 1, .int 2, .int (-1), .int 7, .int 5, .str "", .str "a", .str "shifts", .tuple [], .tuple [.int 0], .tuple [.int 1], frD (0, 1), frD (1, 0), frD (0, 0), frD (1, 2),
  frD (1, 1), frD (3, -2), .tuple [.bool true, .int 1], .tuple [.int 0, .bool true], .tuple [frD (0, 1)], .tuple [frD (1, 1)], .tuple [frD (0, 1), frD (1, 2)], .tuple [.tuple [frD (0, 1)]], frD (2, 4),
  .tuple [frD (0, 1), frD (0, 1)], .list [], .list [.int 1], .list [frD (0, 1)], .dict [], .tuple [.none], .tuple [.tuple []], .int (10 ^ 20), .tuple [.int 0, .int 1, .int 2], .tuple [.tuple [frD (1, 1)], .tuple []]]
def spOdd (K : PySem.W.Frag) : Sp := fun vs H Q _ => ∃ w, vs = [.ref w] ∧ Wl H w ∧ ∀ d ∈ oddL, ∀ H' v, Kp w H H' → Wl H' w → Dt w K H' v d → Q v H'
theorem cal__law_odd (T : Txt mg) (D : Def1 K mg "_law_odd" s__law_odd)  (c__law_one : Cal P w K mg base "_law_one" 2 P__law_one (spOneD K)) : Cal P w K mg base "_law_odd" 3 P__law_odd (spOdd K) := by
  have nd := sc__law_odd.nd
  refine D.cal (k := 3-1) sc__law_odd (fun vs H Q E h => ?_) (fun _ _ _ _ _ _ us hl => match us, hl with | [_], _ => rfl) fun f cdv A outer s H vs Q E hG hr h => have hu := hr.units; have hu2 := u150 hr; ⟨_, (pss_cons (ps_set (i := 1) nd rfl (Or.inl rfl) (k_dat (K := K) rfl (pd_tup (pds_cons pd_non (pds_cons pd_bl (pds_cons pd_bl (pds_cons pd_int (pds_cons pd_int (pds_cons pd_int (pds_cons pd_neg (pds_cons pd_int (pds_cons pd_int (pds_cons pd_str (pds_cons pd_str (pds_cons pd_str (pds_cons (pd_tup pds_nil) (pds_cons (pd_tup (pds_cons pd_int pds_nil)) (pds_cons (pd_tup (pds_cons pd_int pds_nil)) (pds_cons (pd_tup (pds_cons pd_int (pds_cons pd_int pds_nil))) (pds_cons (pd_tup (pds_cons pd_int (pds_cons pd_int pds_nil))) (pds_cons (pd_tup (pds_cons pd_int (pds_cons pd_int pds_nil))) (pds_cons (pd_tup (pds_cons pd_int (pds_cons pd_int pds_nil))) pds_nil)))))))))))))))))))))) (pss_cons (ps_set (i := 2) nd rfl (Or.inl rfl) (k_dat (K := K) rfl (pd_tup (pds_cons (pd_tup (pds_cons pd_int (pds_cons pd_int pds_nil))) (pds_cons (pd_tup (pds_cons pd_int (pds_cons pd_neg pds_nil))) (pds_cons (pd_tup (pds_cons pd_bl (pds_cons pd_int pds_nil))) (pds_cons (pd_tup (pds_cons pd_int (pds_cons pd_bl pds_nil))) (pds_cons (pd_tup (pds_cons (pd_tup (pds_cons pd_int (pds_cons pd_int pds_nil))) pds_nil)) (pds_cons (pd_tup (pds_cons (pd_tup (pds_cons pd_int (pds_cons pd_int pds_nil))) pds_nil)) (pds_cons (pd_tup (pds_cons (pd_tup (pds_cons pd_int (pds_cons pd_int pds_nil))) (pds_cons (pd_tup (pds_cons pd_int (pds_cons pd_int pds_nil))) pds_nil))) (pds_cons (pd_tup (pds_cons (pd_tup (pds_cons (pd_tup (pds_cons pd_int (pds_cons pd_int pds_nil))) pds_nil)) pds_nil)) (pds_cons (pd_tup (pds_cons pd_int (pds_cons pd_int pds_nil))) pds_nil)))))))))))) (pss_cons (ps_set (i := 2) nd rfl (Or.inl rfl) (pe_op (k_add (K := K) rfl) (pv 2) (k_dat (K := K) rfl (pd_tup (pds_cons (pd_tup (pds_cons (pd_tup (pds_cons pd_int (pds_cons pd_int pds_nil))) (pds_cons (pd_tup (pds_cons pd_int (pds_cons pd_int pds_nil))) pds_nil))) (pds_cons (pd_lst pds_nil) (pds_cons (pd_lst (pds_cons pd_int pds_nil)) (pds_cons (pd_lst (pds_cons (pd_tup (pds_cons pd_int (pds_cons pd_int pds_nil))) pds_nil)) (pds_cons pd_dic (pds_cons (pd_tup (pds_cons pd_non pds_nil)) (pds_cons (pd_tup (pds_cons (pd_tup pds_nil) pds_nil)) (pds_cons (pd_pow (by unfold CPow; decide)) (pds_cons (pd_tup (pds_cons pd_int (pds_cons pd_int (pds_cons pd_int pds_nil)))) (pds_cons (pd_tup (pds_cons (pd_tup (pds_cons (pd_tup (pds_cons pd_int (pds_cons pd_int pds_nil))) pds_nil)) (pds_cons (pd_tup pds_nil) pds_nil))) pds_nil)))))))))))))) (pss_one (ps_ret (pe_cal c__law_one hG (hr.mono (by decide)) rfl (pa_cons (pv 0) (pa_cons (pe_op (k_add (K := K) rfl) (pv 1) (pv 2)) pa_nil)))))))), ?_⟩
  · obtain ⟨w, rfl, _⟩ := h; rfl
  obtain ⟨w, rfl, hw, hQ⟩ := h
  rw [show L2.start N__law_odd [V.ref w] = [some (V.ref w), none, none] from rfl]
  wtm_at "go"
  refine w_dat hw.ne fun H1 v1 s1 d1 => ?_
  wtm_at "go"
  refine w_dat (hw.same s1).ne fun H2 v2 s2 d2 => ?_
  wtm_at "go"
  refine w_dat ((hw.same s1).same s2).ne fun H3 v3 s3 d3 => ?_
  wtm_at "go"
  refine w_catD (Dt.same s3 d2) d3 (by decide) (by decide) (by decide) fun p q1 hp d4 => ?_
  wtm_at "go"
  refine w_catD (Dt.same (same_new hp) (Dt.same s3 (Dt.same s2 d1))) d4 (by decide) (by decide) (by decide) fun p2 q2 hp2 d5 => ?_
  wtm_at "go"
  have sm := (((s1.trans s2).trans s3).trans (same_new (o := .tup q1) hp)).trans (same_new (o := .tup q2) hp2)
  refine ⟨w, _, _, rfl, d5, by simp, by simp, hw.same sm, fun d hd H' v k wl dv => hQ d hd H' v ((Kp.same sm).trans k) wl dv⟩
end
end K1

set_option Elab.async false
set_option linter.all false
set_option maxRecDepth 100000
set_option maxHeartbeats 4000000
set_option autoImplicit false
namespace K1
open PySem PySem.Spec PyProof.Rows L2 RZ Gd
local macro_rules | `(tactic| wtm_at "ix") => `(tactic| first | exact at_0 | exact at_1 | exact at_2 | exact at_3 | exact at_4 | exact at_5 | exact ix_0 | exact ix_1 | exact ix_2 | exact ix_3)
local macro_rules | `(tactic| wtm_at "st") => `(tactic| first | assumption | exact upd_same | (with_reducible refine' hold_new ?hA ?hB; (case hB => assumption); (case hA => wtm_at "st")))
local macro_rules | `(tactic| wtm_at "rl") => `(tactic| first | assumption | (refine' SqL.of ?hC; (case hC => wtm_at "st")) | (refine' SqT.of ?hC; (case hC => wtm_at "st")))
local macro_rules | `(tactic| wtm_at "rd") => `(tactic| first
  | with_reducible refine w_seq ?_
  | with_reducible refine w_asg ?_
  | with_reducible refine w_ret ?_
  | with_reducible refine w_op ?_
  | with_reducible refine w_cb ?_
  | with_reducible refine w_cons ?_
  | with_reducible refine w_nil ?_
  | with_reducible refine w_c ?_
  | with_reducible refine w_if ?_
  | with_reducible refine w_test ?_
  | with_reducible refine w_un ?_
  | with_reducible refine w_tup ?_
  | with_reducible refine w_lst ?_
  | with_reducible refine w_call ?_
  | with_reducible refine w_and ?_
  | with_reducible refine w_or ?_
  | with_reducible refine w_not ?_
  | with_reducible refine w_ife ?_
  | with_reducible refine w_tB ?_
  | with_reducible refine w_andV ?_
  | with_reducible refine w_orV ?_
  | with_reducible refine w_notV ?_
  | with_reducible refine w_sub ?_
  | with_reducible refine w_gcons ?_
  | with_reducible refine w_gnil ?_
  | with_reducible refine w_next ?_
  | with_reducible refine w_drop ?_
  | with_reducible refine w_retN ?_
  | with_reducible refine w_brk ?_
  | with_reducible refine w_cont ?_
  | with_reducible refine w_bl ?_
  | with_reducible refine w_gt ?_
  | with_reducible refine w_ge ?_
  | with_reducible refine w_lt ?_
  | with_reducible refine w_le ?_
  | with_reducible refine w_subI ?_
  | with_reducible refine w_neg ?_
  | with_reducible refine w_addI ?_
  | with_reducible refine w_int ?_
  | with_reducible refine w_intB ?_
  | with_reducible refine w_abs ?_
  | with_reducible refine w_iteT ?_
  | with_reducible refine w_iteF ?_
  | with_reducible refine w_par ?_
  | with_reducible refine w_par3 ?_
  | with_reducible refine w_sl ?_
  | with_reducible refine w_nop ?_
  | with_reducible refine w_part ?_
  | with_reducible refine w_vint ?_
  | with_reducible refine w_vbl2 ?_
  | with_reducible refine w_vbl3 ?_
  | with_reducible refine w_lc ?_
  | with_reducible refine w_list ?_
  | with_reducible refine w_enum ?_
  | with_reducible refine w_fld ?_
  | with_reducible refine w_mk ?_
  | with_reducible refine w_yes ?_
  | with_reducible refine w_iz ?_
  | with_reducible refine w_var0 ?_
  | with_reducible refine w_var1 ?_
  | with_reducible refine w_var2 ?_
  | with_reducible refine w_var3 ?_
  | with_reducible refine w_var4 ?_
  | with_reducible refine w_var5 ?_
  | with_reducible refine w_var6 ?_
  | with_reducible refine w_var7 ?_
  | with_reducible refine w_var8 ?_
  | with_reducible refine w_var9 ?_
  | with_reducible refine w_var10 ?_
  | with_reducible refine w_var11 ?_
  | with_reducible refine w_var12 ?_
  | with_reducible refine w_var13 ?_
  | with_reducible refine w_var14 ?_
  | with_reducible refine w_var15 ?_
  | with_reducible refine w_nam0 ?_
  | with_reducible refine w_nam1 ?_
  | with_reducible refine w_nam2 ?_
  | with_reducible refine w_nam3 ?_
  | with_reducible refine w_nam4 ?_
  | with_reducible refine w_nam5 ?_
  | with_reducible refine w_nam6 ?_
  | with_reducible refine w_nam7 ?_
  | with_reducible refine w_nam8 ?_
  | with_reducible refine w_nam9 ?_
  | with_reducible refine w_nam10 ?_
  | with_reducible refine w_nam11 ?_
  | with_reducible refine w_nam12 ?_
  | with_reducible refine w_nam13 ?_
  | with_reducible refine w_nam14 ?_
  | with_reducible refine w_nam15 ?_
  | (with_reducible refine' w_eqS ?hs ?_; (case hs => with_unfolding_all rfl))
  | (with_reducible refine' w_neS ?hs ?_; (case hs => with_unfolding_all rfl))
  | (with_reducible refine' w_len ?hs ?_; (case hs => (simp only [List.length_cons, List.length_nil]; omega)))
  | (with_reducible refine' w_slL ?hs ?_; (case hs => wtm_at "rl"))
  | (with_reducible refine' w_mulI ?hs ?_; (case hs => (first | (refine cmul_r ?_; (constructor <;> omega)) | (refine cmul_l ?_; (constructor <;> omega)) | assumption)))
  | (with_reducible refine' w_mod ?hs ?_; (case hs => (first | omega | assumption)))
  | (with_reducible refine' w_div ?hs ?_; (case hs => (first | assumption | (refine cdiv_s ?_ ?_ <;> omega))))
  | (with_reducible refine' w_ixL ?hs ?ht ?_; (case hs => wtm_at "rl"); (case ht => wtm_at "ix"))
  | (with_reducible refine' w_ixT ?hs ?ht ?_; (case hs => wtm_at "rl"); (case ht => wtm_at "ix"))
  | (with_reducible refine' w_set0 ?hs ?_; (case hs => wtm_at "st"))
  | (with_reducible refine' w_set1 ?hs ?_; (case hs => wtm_at "st"))
  | (with_reducible refine' w_set2 ?hs ?_; (case hs => wtm_at "st"))
  | (with_reducible refine' w_lenL ?hs ?_; (case hs => wtm_at "rl"))
  | (with_reducible refine' w_lenT ?hs ?_; (case hs => wtm_at "rl"))
  | (with_reducible refine' w_gtup ?hs ?ht ?_; (case hs => wtm_at "rl"); (case ht => with_unfolding_all rfl))
  | rw [List.set_cons_zero]
  | rw [List.set_cons_succ]
  | rw [Bool.not_true]
  | rw [Bool.not_false])
local macro_rules | `(tactic| wtm_at "go") => `(tactic| repeat wtm_at "rd")
section
variable {P : Program} {w : World} {K : PySem.W.Frag} {mg : Str → Option Value} {base : Heap}
theorem cal__law_trial (T : Txt mg) (D : Def1 K mg "_law_trial" s__law_trial)  (c__law_draw : Cal P w K mg base "_law_draw" 1 P__law_draw spDraw) (c__law_one : Cal P w K mg base "_law_one" 2 P__law_one (spOne K)) (c__law_numbers : Cal P w K mg base "_law_numbers" 4 P__law_numbers (spNumbers K)) (c__law_minus : Cal P w K mg base "_law_minus" 2 P__law_minus (spMinus K)) : Cal P w K mg base "_law_trial" 5 P__law_trial (spTrial K) := by
  have nd := sc__law_trial.nd
  refine D.cal (k := 5-1) sc__law_trial (fun vs H Q E h => ?_) (fun _ _ _ _ _ _ us hl => match us, hl with | [_, _], _ => rfl) fun f cdv A outer s H vs Q E hG hr h => have hu := hr.units; have hu2 := u150 hr; ⟨_, (pss_cons (ps_asg (pe_tup (pa_cons (pe_op (k_add (K := K) rfl) pe_int (pe_cal c__law_draw hG (hr.mono (by decide)) rfl (pa_cons (pv 0) (pa_cons pe_int pa_nil)))) (pa_cons (pe_lst pa_nil) (pa_cons (pe_lst pa_nil) (pa_cons (pe_lst pa_nil) pa_nil))))) (k_gtup (K := K) (n := 4) rfl rfl (pgs_cons (pg_name (i := 2) nd rfl (Or.inl rfl)) (pgs_cons (pg_name (i := 3) nd rfl (Or.inl rfl)) (pgs_cons (pg_name (i := 4) nd rfl (Or.inl rfl)) (pgs_cons (pg_name (i := 5) nd rfl (Or.inl rfl)) pgs_nil)))))) (pss_cons (ps_par (i := 6) (j := 7) rfl nd rfl rfl (by decide) rfl rfl (pa_cons (pe_op (k_add (K := K) rfl) pe_int (pe_cal c__law_draw hG (hr.mono (by decide)) rfl (pa_cons (pv 0) (pa_cons (pv 1) pa_nil)))) (pa_cons (pe_cal c__law_one hG (hr.mono (by decide)) rfl (pa_cons (pv 0) (pa_cons (k_dat (K := K) rfl (pd_tup (pds_cons pd_int (pds_cons pd_int (pds_cons pd_int (pds_cons pd_int (pds_cons pd_int (pds_cons pd_int (pds_cons pd_int pds_nil))))))))) pa_nil))) pa_nil)) (by rfl)) (pss_cons (ps_for PassesOwn.never rfl (pi_range1 rfl T.n_range (pa_cons (pv 6) pa_nil)) (pg_name (i := 8) nd rfl (Or.inl rfl)) (pss_cons (ps_set (i := 9) nd rfl (Or.inl rfl) (pe_cal c__law_numbers hG (hr.mono (by decide)) rfl (pa_cons (pv 0) (pa_cons (pv 2) pa_nil)))) (C8.pss_cut (ps_if (PW.pt (pw_and (pt_cmpR (k_ne (K := K) rfl hu) (pv 3) (pe_lst pa_nil) (nomark _)) (pw_and1 (pt_cmpR (k_eq (K := K) rfl hu) (pe_cal c__law_draw hG (hr.mono (by decide)) rfl (pa_cons (pv 0) (pa_cons pe_int pa_nil))) pe_int (nomark _))))) (pss_one (ps_set (i := 9) nd rfl (Or.inl rfl) (pe_ix (k_ix (K := K) rfl) (pv 3) (pe_cal c__law_draw hG (hr.mono (by decide)) rfl (pa_cons (pv 0) (pa_cons (pe_callB (k_len (K := K) rfl) rfl T.n_len (by decide +kernel) (pa_cons (pv 3) pa_nil)) pa_nil))) (fun _ _ => rfl)))) pss_nil) (C8.pss_cut (ps_if (PW.pt (pw_and (pt_cmpR op_gtA (pe_callB (k_len (K := K) rfl) rfl T.n_len (by decide +kernel) (pa_cons (pv 3) pa_nil)) pe_int (nomark _)) (pw_and1 (pt_cmpR (k_eq (K := K) rfl hu) (pe_cal c__law_draw hG (hr.mono (by decide)) rfl (pa_cons (pv 0) (pa_cons pe_int pa_nil))) pe_int (nomark _))))) (pss_cons (ps_par (i := 10) (j := 11) rfl nd rfl rfl (by decide) rfl rfl (pa_cons (pe_cal c__law_one hG (hr.mono (by decide)) rfl (pa_cons (pv 0) (pa_cons (pv 3) pa_nil))) (pa_cons (pe_cal c__law_one hG (hr.mono (by decide)) rfl (pa_cons (pv 0) (pa_cons (pv 3) pa_nil))) pa_nil)) (by rfl)) (pss_one (ps_set (i := 9) nd rfl (Or.inl rfl) (pe_callTy (k_tupT (K := K) rfl) rfl T.n_tuple (by decide +kernel) (pa_cons (pe_lc (own := [("_law_x", 12), ("_law_y", 13)]) (by rfl) nd (k_zip (K := K) rfl rfl T.n_zip (pa_cons (pv 10) (pa_cons (pv 11) pa_nil))) (blkOk_by (own := [("_law_x", 12), ("_law_y", 13)]) (N := N__law_trial) (sc := defScope s__law_trial) (by decide +kernel)) (fun _ _ _ _ _ => (k_gtup (K := K) (n := 2) rfl rfl (pgs_cons (pg_name (i := 12) nd rfl (Or.inl rfl)) (pgs_cons (pg_name (i := 13) nd rfl (Or.inl rfl)) pgs_nil)))) (fun _ _ _ _ _ => pts_nil) (fun _ _ _ _ _ => (pe_cal c__law_minus hG (hr.mono (by decide)) rfl (pa_cons (pv 12) (pa_cons (pv 13) pa_nil))))) pa_nil))))) pss_nil) (pss_cons (ps_expr (pe_bm PySem.F.plainAttrs_list PySem.F.slot_list_append PySem.F.type_list_append mt_append (pv 3) (pa_cons (pv 9) pa_nil))) (pss_cons (ps_expr (pe_bm PySem.F.plainAttrs_list PySem.F.slot_list_append PySem.F.type_list_append mt_append (pv 4) (pa_cons (pe_cal c__law_one hG (hr.mono (by decide)) rfl (pa_cons (pv 0) (pa_cons (k_dat (K := K) rfl (pd_tup (pds_cons (pd_tup (pds_cons pd_int (pds_cons pd_int pds_nil))) (pds_cons (pd_tup (pds_cons pd_int (pds_cons pd_int pds_nil))) (pds_cons (pd_tup (pds_cons pd_int (pds_cons pd_int pds_nil))) (pds_cons (pd_tup (pds_cons pd_int (pds_cons pd_int pds_nil))) (pds_cons (pd_tup (pds_cons pd_int (pds_cons pd_int pds_nil))) (pds_cons (pd_tup (pds_cons pd_int (pds_cons pd_int pds_nil))) (pds_cons (pd_tup (pds_cons pd_int (pds_cons pd_int pds_nil))) pds_nil))))))))) pa_nil))) pa_nil))) (pss_one (ps_expr (pe_bm PySem.F.plainAttrs_list PySem.F.slot_list_append PySem.F.type_list_append mt_append (pv 5) (pa_cons (pe_ifExp (pt_cmpR op_gtA (pv 7) pe_int (nomark _)) (pe_cal c__law_draw hG (hr.mono (by decide)) rfl (pa_cons (pv 0) (pa_cons (pv 7) pa_nil))) pe_int) pa_nil)))))))))) (pss_one (ps_ret (pe_tup (pa_cons (pe_callTy (k_tupT (K := K) rfl) rfl T.n_tuple (by decide +kernel) (pa_cons (pv 3) pa_nil)) (pa_cons (pe_callTy (k_tupT (K := K) rfl) rfl T.n_tuple (by decide +kernel) (pa_cons (pv 4) pa_nil)) (pa_cons (pe_ifExp (pt_cmpR op_gtA (pv 7) pe_int (nomark _)) (pe_callTy (k_tupT (K := K) rfl) rfl T.n_tuple (by decide +kernel) (pa_cons (pv 5) pa_nil)) (pe_tup pa_nil)) pa_nil))))))))), ?_⟩
  · obtain ⟨w, most, rfl, _⟩ := h; rfl
  obtain ⟨w, most, rfl, m1, m2, hw, hQ⟩ := h
  rw [show L2.start N__law_trial [V.ref w, V.int most] = [some (V.ref w), some (V.int most), none, none, none, none, none, none, none, none, none, none, none, none] from rfl]
  wtm_at "go"
  refine ⟨w, 5, rfl, by omega, by omega, hw, fun k0 a0 a1 H1 kp1 w1 => ?_⟩
  wtm_at "go"
  intro l1 z1
  wtm_at "go"
  intro l2 z2
  wtm_at "go"
  intro l3 z3
  wtm_at "go"
  intro p4 z4
  wtm_at "go"
  have wA := (((w1.same (same_new (o := .lst []) z1)).same (same_new (o := .lst []) z2)).same (same_new (o := .lst []) z3)).same (same_new (o := .tup [V.int (1 + k0), V.ref l1, V.ref l2, V.ref l3]) z4)
  refine ⟨w, most, rfl, by omega, by omega, wA, fun k1 c0 c1 H2 kp2 w2 => ?_⟩
  wtm_at "go"
  refine w_dat w2.ne fun H3 v3 s3 d3 => ?_
  wtm_at "go"
  refine one_d ⟨w, _, _, rfl, d3, by simp, by simp, w2.same s3, fun d hd H4 v4 kp4 w4 dv => ?_⟩
  have key : ∃ kz : Int, d = .int kz ∧ 0 ≤ kz ∧ kz ≤ 5 := by
    simp only [List.mem_cons, List.not_mem_nil, or_false] at hd
    rcases hd with rfl | rfl | rfl | rfl | rfl | rfl | rfl
    all_goals exact ⟨_, rfl, by decide, by decide⟩
  obtain ⟨kz, rfl, kz0, kz5⟩ := key
  cases dv
  wtm_at "go"
  refine w_forR ?_
  wtm_at "go"
  have f21 : H1 l2 = none ∧ l2 ≠ l1 := ⟨(same_new (o := .lst []) z1).free z2, fun e => by rw [e, upd_same] at z2; cases z2⟩
  have f3 : H1 l3 = none ∧ l3 ≠ l1 ∧ l3 ≠ l2 := by
    refine ⟨((same_new (o := .lst []) z1).trans (same_new (o := .lst []) z2)).free z3, fun e => ?_, fun e => ?_⟩
    · rw [e] at z3
      have q := hold_new (o := .lst []) (upd_same (H := H1) (a := l1) (o := .lst [])) z2
      rw [q] at z3
      cases z3
    · rw [e, upd_same] at z3
      cases z3
  have T0 : TI K w l1 l2 l3 H1 (1 + k0).toNat 0 [] [] [] [] [] H4 := by
    have k4 : Kp w (upd (upd (upd (upd H1 l1 (.lst [])) l2 (.lst [])) l3 (.lst [])) p4 (.tup [V.int (1 + k0), V.ref l1, V.ref l2, V.ref l3])) H4 := (kp2.trans (Kp.same s3)).trans kp4
    have e3 := hold_new (o := .tup [V.int (1 + k0), V.ref l1, V.ref l2, V.ref l3]) (upd_same (H := upd (upd H1 l1 (.lst [])) l2 (.lst [])) (a := l3) (o := .lst [])) z4
    have e2 := hold_new (o := .tup [V.int (1 + k0), V.ref l1, V.ref l2, V.ref l3]) (hold_new (o := .lst []) (upd_same (H := upd H1 l1 (.lst [])) (a := l2) (o := .lst [])) z3) z4
    have e1 := hold_new (o := .tup [V.int (1 + k0), V.ref l1, V.ref l2, V.ref l3]) (hold_new (o := .lst []) (hold_new (o := .lst []) (upd_same (H := H1) (a := l1) (o := .lst [])) z2) z3) z4
    have n1 : w ≠ l1 := w1.apart z1
    have n2 : w ≠ l2 := w1.apart f21.1
    have n3 : w ≠ l3 := w1.apart f3.1
    exact { a1 := rfl, a2 := rfl, a3 := rfl, a4 := by simp, a5 := by simp, a6 := by simp, h1 := k4 _ _ n1.symm e1, t1 := .nil, h2 := k4 _ _ n2.symm e2, t2 := .nil, h3 := k4 _ _ n3.symm e3, n1 := n1, n2 := n2, n3 := n3, n12 := f21.2.symm, n13 := f3.2.1.symm, n23 := f3.2.2.symm, z1 := z1, z2 := f21.1, z3 := f3.1, kp := (Kp.same ((((same_new z1).trans (same_new z2)).trans (same_new z3)).trans (same_new z4))).trans k4, wl := w4 }
  refine ⟨1 + k1, rfl, by omega, by omega, f_range (lo := 0) (k := (1 + k1).toNat) (fun i σ H' => ∃ (u8 u9 u10 u11 u12 u13 : Option V) (rows : List (List (Int × Int))) (sprs : List (Int × Int)) (blks : List Int) (xr xs : List V),
      σ = [some (V.ref w), some (V.int most), some (V.int (1 + k0)), some (V.ref l1), some (V.ref l2), some (V.ref l3), some (V.int (1 + k1)), some (V.int kz), u8, u9, u10, u11, u12, u13] ∧ TI K w l1 l2 l3 H1 (1 + k0).toNat i rows sprs blks xr xs H') ⟨_, _, _, _, _, _, [], [], [], [], [], rfl, T0⟩ ?_ ?_⟩
  · rintro i σ H' hi ⟨u8, u9, u10, u11, u12, u13, rows, sprs, blks, xr, xs, rfl, TT⟩
    wtm_at "go"
    refine ⟨w, (1 + k0).toNat, by rw [Int.toNat_of_nonneg (by omega)]; rfl, by omega, TT.wl, fun qs lq oq H6 v6 kp6 w6 d6 => ?_⟩
    have T6 := TT.dr kp6 w6
    have er : ∀ q ∈ qs, Ent (i + 1) q := fun q hq => (oq q hq).ent.up (by omega)
    wtm_at "go"
    refine w_cut (fun σ' H7 => ∃ (v : V) (r : List (Int × Int)), σ' = [some (V.ref w), some (V.int most), some (V.int (1 + k0)), some (V.ref l1), some (V.ref l2), some (V.ref l3), some (V.int (1 + k1)), some (V.int kz), some (.int (0 + i)), some v, u10, u11, u12, u13] ∧ Tt K H7 v (rowD r) ∧ r.length = (1 + k0).toNat ∧ (∀ q ∈ r, Ent (i + 1) q) ∧ TI K w l1 l2 l3 H1 (1 + k0).toNat i rows sprs blks xr xs H7) ?_ ?_
    · have e0 := T6.h1
      wtm_at "go"
      intro pe ze
      wtm_at "go"
      have T6b := T6.new (o := .lst []) ze
      have d6b := d6.tk (TK.same (same_new (o := .lst []) ze))
      refine w_neD (d := .list (rows.map rowD)) (e := .list []) (.lst (SqL.of T6b.h1) T6b.t1.dp) (.lst (SqL.of upd_same) .nil) (shaped_rows rows) (shaped_rows []) ?_
      rw [eqv_nil]
      wtm_at "go"
      refine w_iteB (fun c => ?_) (fun c => ?_)
      · wtm_at "go"
        refine ⟨w, 4, rfl, by omega, by omega, T6b.wl, fun k2 b0 b1 H7 kp7 w7 => ?_⟩
        have T7 := T6b.dr kp7 w7
        wtm_at "go"
        refine w_ite (fun c2 => ?_) (fun c2 => ?_)
        · have e0 := T7.h1
          wtm_at "go"
          have ne : 0 < xr.length := by
            rw [T7.t1.len]
            refine List.length_pos_iff.mpr fun z => ?_
            rw [z] at c
            simp at c
          refine ⟨w, _, rfl, by omega, by rw [T7.t1.len, T7.a1]; omega, T7.wl, fun k3 e1 e2 H8 kp8 w8 => ?_⟩
          have T8 := T7.dr kp8 w8
          obtain ⟨j, rfl⟩ := Int.eq_ofNat_of_zero_le e1
          have ej : xr[j]? = some (xr[j]'(by omega)) := List.getElem?_eq_getElem _
          obtain ⟨r, hr, hv⟩ := T8.t1.nth ej
          have q := T8.a4 r (List.mem_of_getElem? hr)
          refine w_ixL (SqL.of T8.h1) (at_of ej) ?_
          wtm_at "go"
          exact ⟨_, r, rfl, hv, q.1, fun x hx => (q.2 x hx).up (by omega), T8⟩
        · wtm_at "go"
          exact ⟨_, qs, rfl, d6b.tk (TK.kp T6b.wl kp7), by omega, er, T7⟩
      · wtm_at "go"
        exact ⟨_, qs, rfl, d6b, by omega, er, T6b⟩
    · rintro σ' H7 ⟨v, r, rfl, dv, lr, er7, T7⟩
      wtm_at "go"
      refine w_cut (fun σ' H8 => ∃ (v : V) (r : List (Int × Int)) (u10 u11 : Option V), σ' = [some (V.ref w), some (V.int most), some (V.int (1 + k0)), some (V.ref l1), some (V.ref l2), some (V.ref l3), some (V.int (1 + k1)), some (V.int kz), some (.int (0 + i)), some v, u10, u11, u12, u13] ∧ Tt K H8 v (rowD r) ∧ r.length = (1 + k0).toNat ∧ (∀ q ∈ r, Ent (i + 1) q) ∧ TI K w l1 l2 l3 H1 (1 + k0).toNat i rows sprs blks xr xs H8) ?_ ?_
      · have e0 := T7.h1
        wtm_at "go"
        refine w_ite (fun c => ?_) (fun c => ?_)
        · wtm_at "go"
          refine ⟨w, 6, rfl, by omega, by omega, T7.wl, fun k2 b0 b1 H8 kp8 w8 => ?_⟩
          have T8 := T7.dr kp8 w8
          wtm_at "go"
          refine w_ite (fun c2 => ?_) (fun c2 => ?_)
          · wtm_at "go"
            have ne : xr ≠ [] := fun z => by rw [z] at c; simp at c
            refine ⟨w, l1, xr, rfl, .inr ⟨SqL.of T8.h1, T8.n1.symm⟩, ne, by rw [T8.t1.len, T8.a1]; omega, T8.wl, fun va ma H9 kp9 w9 => ?_⟩
            have T9 := T8.dr kp9 w9
            obtain ⟨ra, hra, ta⟩ := T9.t1.memf ma
            wtm_at "go"
            refine ⟨w, l1, xr, rfl, .inr ⟨SqL.of T9.h1, T9.n1.symm⟩, ne, by rw [T9.t1.len, T9.a1]; omega, T9.wl, fun vb mb H10 kp10 w10 => ?_⟩
            have TA := T9.dr kp10 w10
            obtain ⟨rb, hrb, tb⟩ := TA.t1.memf mb
            have ta := ta.tk (TK.kp T9.wl kp10)
            have qa := TA.a4 ra hra
            have qb := TA.a4 rb hrb
            obtain ⟨aa, xa, rfl, sa, ra'⟩ := tt_row ta
            obtain ⟨ab, xb', rfl, sb, rb'⟩ := tt_row tb
            wtm_at "go"
            refine ⟨aa, ab, xa, xb', rfl, .inr ⟨sa, sb, fun D hD => ?_⟩⟩
            refine c_zipT (K := K) (xs := xa) (ys := xb') (by rw [ra'.len, rb'.len, qa.1, qb.1]) (fun j H' => ∃ (acc : List V) (qs : List (Int × Int)), H' D = some (.lst acc) ∧ TtL K H' acc (qs.map frD) ∧ qs.length = j ∧ (∀ q ∈ qs, Ent (i + 1) q) ∧ TI K w l1 l2 l3 H1 (1 + k0).toNat i rows sprs blks xr xs H' ∧ Same H10 H') ⟨[], [], upd_same, .nil, rfl, by simp, TA.new hD, same_new hD⟩ ?_ ?_ ?_
            · rintro j H' ⟨_, _, _, _, _, _, _, sm⟩
              exact ⟨Same.sqT sm sa, Same.sqT sm sb⟩
            · rintro j x y Tz H' hx hy ⟨acc, qs, hacc, tacc, lq', eq', TI', sm⟩ hT
              have sm2 := sm.trans (same_new (o := .tup [x, y]) hT)
              obtain ⟨qx, hqx, tx⟩ := (ra'.tk (TK.same sm2)).nth hx
              obtain ⟨qy, hqy, ty⟩ := (rb'.tk (TK.same sm2)).nth hy
              have ex := qa.2 qx (List.mem_of_getElem? hqx)
              have ey := qb.2 qy (List.mem_of_getElem? hqy)
              obtain ⟨ax, rfl, sx⟩ := tt_fr tx
              obtain ⟨ay, rfl, sy⟩ := tt_fr ty
              have ix : i ≤ 10 := by omega
              have bx := ex.lt ix
              have by' := ey.lt ix
              rw [show wipe [some (V.ref w), some (V.int most), some (V.int (1 + k0)), some (V.ref l1), some (V.ref l2), some (V.ref l3), some (V.int (1 + k1)), some (V.int kz), some (V.int (0 + i)), some v, some (V.ref aa), some (V.ref ab), u12, u13] (List.map (fun x => x.snd) [(Str.ofString "_law_x", 12), (Str.ofString "_law_y", 13)]) = [some (V.ref w), some (V.int most), some (V.int (1 + k0)), some (V.ref l1), some (V.ref l2), some (V.ref l3), some (V.int (1 + k1)), some (V.int kz), some (V.int (0 + i)), some v, some (V.ref aa), some (V.ref ab), none, none] from rfl]
              wtm_at "go"
              refine ⟨rfl, ?_⟩
              wtm_at "go"
              have up : (2 : Nat) ^ 120 ≤ 2 ^ 4000 := Nat.pow_le_pow_right (by decide) (by decide)
              refine ⟨ax, ay, qx, qy, rfl, sx, sy, ex.1, ey.1, Nat.lt_of_lt_of_le bx.1 up, Nat.lt_of_lt_of_le bx.2 up, Nat.lt_of_lt_of_le by'.1 up, Nat.lt_of_lt_of_le by'.2 up, fun p hp => ?_⟩
              have sm3 := (same_new (o := .tup [V.ref ax, V.ref ay]) hT).trans (same_new (o := .tup [V.int (leanF (qx.1 * qy.2 - qy.1 * qx.2) (qx.2 * qy.2)).1, V.int (leanF (qx.1 * qy.2 - qy.1 * qx.2) (qx.2 * qy.2)).2]) hp)
              have hD2 := sm3 _ _ hacc
              have tk4 := TK.put (o := .lst (acc ++ [V.ref p])) hD2
              have nD : ∀ b o, H10 b = some o → b ≠ D := fun b o e => ne_of_none e hD
              refine ⟨acc, hD2, ?_, acc ++ [V.ref p], qs ++ [leanF (qx.1 * qy.2 - qy.1 * qx.2) (qx.2 * qy.2)], upd_same, ?_, ?_, ?_, ?_, ?_⟩
              · rw [tacc.len, lq']
                have hj : j < xa.length := (List.getElem?_eq_some_iff.mp hx).1
                rw [ra'.len, qa.1] at hj
                exact Nat.lt_of_lt_of_le (show j < 1000 by omega) (by decide)
              · rw [List.map_append]
                exact (TtL.tk tk4 (TtL.tk (TK.same sm3) tacc)).append (.one (.tup (SqT.tk tk4 (SqT.of upd_same)) (.cons (.int _) (.cons (.int _) .nil))))
              · rw [List.length_append, lq']
                rfl
              · intro q hq
                rcases List.mem_append.mp hq with h | h
                · exact eq' q h
                · rw [List.mem_singleton.mp h]
                  exact ex.minus ey
              · have TB := (TI'.new (o := .tup [V.ref ax, V.ref ay]) hT).new (o := .tup [V.int (leanF (qx.1 * qy.2 - qy.1 * qx.2) (qx.2 * qy.2)).1, V.int (leanF (qx.1 * qy.2 - qy.1 * qx.2) (qx.2 * qy.2)).2]) hp
                have nw : w ≠ D := TA.wl.apart hD
                have n1 : l1 ≠ D := nD _ _ TA.h1
                have n2 : l2 ≠ D := nD _ _ TA.h2
                have n3 : l3 ≠ D := nD _ _ TA.h3
                have g1 : (upd _ D (.lst (acc ++ [V.ref p]))) l1 = _ := (upd_ne n1).trans TB.h1
                have g2 : (upd _ D (.lst (acc ++ [V.ref p]))) l2 = _ := (upd_ne n2).trans TB.h2
                have g3 : (upd _ D (.lst (acc ++ [V.ref p]))) l3 = _ := (upd_ne n3).trans TB.h3
                have gk : ∀ b o, b ≠ w → H1 b = some o → (upd _ D (.lst (acc ++ [V.ref p]))) b = some o := fun b o n e => (upd_ne (nD _ _ (TA.kp b o n e))).trans (TB.kp b o n e)
                exact { TB with h1 := g1, t1 := TtL.tk tk4 TB.t1, h2 := g2, t2 := TtL.tk tk4 TB.t2, h3 := g3, kp := gk, wl := wl_own TB.wl nw }
              · intro b o e
                rw [upd_ne (nD _ _ e)]
                exact sm3 _ _ (sm _ _ e)
            · rintro H' ⟨acc, qs, hacc, tacc, lq', eq', TI', sm⟩
              wtm_at "go"
              refine w_tupL (SqL.of hacc) fun p hp => ?_
              wtm_at "go"
              refine ⟨_, qs, _, _, rfl, .tup (SqT.of upd_same) (TtL.tk (TK.same (same_new hp)) tacc), by rw [lq', ra'.len]; exact qa.1, eq', TI'.new hp⟩
          · wtm_at "go"
            exact ⟨_, _, _, _, rfl, dv.tk (TK.kp T7.wl kp8), lr, er7, T8⟩
        · wtm_at "go"
          exact ⟨_, _, _, _, rfl, dv, lr, er7, T7⟩
      · rintro σ' H8 ⟨v8, r8, u10, u11, rfl, dv8, lr8, er8, T8⟩
        wtm_at "go"
        refine w_appV rfl T8.h1 ?_
        wtm_at "go"
        have lim : (i : Int) < 10 := by omega
        have big : (1000 : Nat) < sizeLine := by decide
        refine w_apd T8.h1 (Nat.lt_of_le_of_lt (by rw [T8.t1.len, T8.a1]; omega) big) ?_
        wtm_at "go"
        have w9 : Wl (upd H8 l1 (.lst (xr ++ [v8]))) w := wl_own T8.wl T8.n1
        have e2 : (upd H8 l1 (.lst (xr ++ [v8]))) l2 = some (.lst xs) := (upd_ne T8.n12.symm).trans T8.h2
        have e3 : (upd H8 l1 (.lst (xr ++ [v8]))) l3 = some (.lst (blks.map V.int)) := (upd_ne T8.n13.symm).trans T8.h3
        refine w_appV rfl e2 ?_
        wtm_at "go"
        refine w_dat w9.ne fun H9 v9 s9 d9 => ?_
        wtm_at "go"
        refine one_d ⟨w, _, _, rfl, d9, by simp, by simp, w9.same s9, fun d hd H10 v10 kp10 w10 dv10 => ?_⟩
        have key : ∃ sp : Int × Int, d = frD sp ∧ SprOk sp := by
          simp only [List.mem_cons, List.not_mem_nil, or_false] at hd
          rcases hd with rfl | rfl | rfl | rfl | rfl | rfl | rfl
          · exact ⟨(1, 1), rfl, by simp [SprOk]⟩
          · exact ⟨(1, 1), rfl, by simp [SprOk]⟩
          · exact ⟨(1, 1), rfl, by simp [SprOk]⟩
          · exact ⟨(2, 1), rfl, by simp [SprOk]⟩
          · exact ⟨(1, 2), rfl, by simp [SprOk]⟩
          · exact ⟨(1, 3), rfl, by simp [SprOk]⟩
          · exact ⟨(5, 2), rfl, by simp [SprOk]⟩
        obtain ⟨sp, rfl, osp⟩ := key
        have t10 := dt_fr dv10
        have k10 : Kp w (upd H8 l1 (.lst (xr ++ [v8]))) H10 := (Kp.same s9).trans kp10
        have e2' := k10 _ _ T8.n2.symm e2
        have e3' := k10 _ _ T8.n3.symm e3
        have ls : xs.length = i := by rw [T8.t2.len, T8.a2]
        wtm_at "go"
        refine w_apd e2' (Nat.lt_of_le_of_lt (by omega) big) ?_
        wtm_at "go"
        have wB : Wl (upd H10 l2 (.lst (xs ++ [v10]))) w := wl_own w10 T8.n2
        have e3b : (upd H10 l2 (.lst (xs ++ [v10]))) l3 = some (.lst (blks.map V.int)) := (upd_ne T8.n23.symm).trans e3'
        refine w_appV rfl e3b ?_
        wtm_at "go"
        have fin : ∀ (b : Int) (H5 : Hp), 0 ≤ b ∧ b ≤ 4 → Kp w (upd H10 l2 (.lst (xs ++ [v10]))) H5 → Wl H5 w → Gd.TI K w l1 l2 l3 H1 (1 + k0).toNat (i + 1) (rows ++ [r8]) (sprs ++ [sp]) (blks ++ [b]) (xr ++ [v8]) (xs ++ [v10]) (upd H5 l3 (.lst (blks.map V.int ++ [V.int b]))) := by
          intro b H5 hb k5 w5
          have := T8.step dv8 lr8 er8 k10 w10 t10 osp k5 w5 hb
          rwa [List.map_append] at this
        have l3n : (blks.map V.int).length < sizeLine := by
          rw [List.length_map, T8.a3]
          exact Nat.lt_of_le_of_lt (by omega) big
        refine w_ite (fun c => ?_) (fun c => ?_)
        · wtm_at "go"
          refine ⟨w, kz, rfl, by omega, by omega, wB, fun b b0 b1 H11 kp11 w11 => ?_⟩
          wtm_at "go"
          refine w_apd (kp11 _ _ T8.n3.symm e3b) l3n ?_
          exact ⟨_, _, _, _, _, _, _, _, _, _, _, rfl, fin b H11 ⟨b0, by omega⟩ kp11 w11⟩
        · wtm_at "go"
          refine w_apd e3b l3n ?_
          exact ⟨_, _, _, _, _, _, _, _, _, _, _, rfl, fin 0 _ ⟨by omega, by omega⟩ (Kp.refl _ _) wB⟩
  · rintro σ H' ⟨u8, u9, u10, u11, u12, u13, rows, sprs, blks, xr, xs, rfl, TT⟩
    wtm_at "go"
    refine w_tupL (SqL.of TT.h1) fun p1 zp1 => ?_
    wtm_at "go"
    have T1 := TT.new (o := .tup xr) zp1
    refine w_tupL (SqL.of T1.h2) fun p2 zp2 => ?_
    wtm_at "go"
    have T2 := T1.new (o := .tup xs) zp2
    have tr1 : Tt K (upd (upd H' p1 (.tup xr)) p2 (.tup xs)) (.ref p1) (.tuple (rows.map rowD)) := .tup (SqT.of (hold_new upd_same zp2)) T2.t1
    have tr2 : Tt K (upd (upd H' p1 (.tup xr)) p2 (.tup xs)) (.ref p2) (rowD sprs) := .tup (SqT.of upd_same) T2.t2
    have fin : ∀ (bl : List Int) (H5 : Hp) (v : V), (bl = [] ∨ bl.length = rows.length ∧ ∀ b ∈ bl, 0 ≤ b ∧ b ≤ 4) → Same (upd (upd H' p1 (.tup xr)) p2 (.tup xs)) H5 → Tt K H5 v (.tuple (bl.map .int)) → ∀ q, H5 q = none → Q (.ref q) (upd H5 q (.tup [.ref p1, .ref p2, v])) := by
      intro bl H5 v hb sm tv q hq
      have sm2 := sm.trans (same_new (o := .tup [.ref p1, .ref p2, v]) hq)
      refine hQ ⟨rows, sprs, bl⟩ ⟨?_, ?_, ⟨(1 + k0).toNat, by omega, by omega, fun r hr => (TT.a4 r hr).1⟩, fun r hr q hq => ((TT.a4 r hr).2 q hq).up ?_, ?_, TT.a5, hb⟩ _ _ (kp1.trans (T2.kp.trans (Kp.same sm2))) (T2.wl.same sm2) ?_
      · show 1 ≤ rows.length
        rw [TT.a1]; omega
      · show rows.length ≤ most
        rw [TT.a1]; omega
      · omega
      · show sprs.length = rows.length
        rw [TT.a1, TT.a2]
      · exact .tup (SqT.of upd_same) (.cons (tr1.tk (TK.same sm2)) (.cons (tr2.tk (TK.same sm2)) (.cons (tv.tk (TK.same (same_new hq))) .nil)))
    refine w_ite (fun c => ?_) (fun c => ?_)
    · wtm_at "go"
      refine w_tupL (SqL.of T2.h3) fun p3 zp3 => ?_
      wtm_at "go"
      intro q zq
      exact fin blks _ _ (.inr ⟨by rw [TT.a1, TT.a3], TT.a6⟩) (same_new zp3) (.tup (SqT.of upd_same) (TtL.ints blks)) q zq
    · wtm_at "go"
      intro p3 zp3
      wtm_at "go"
      intro q zq
      exact fin [] _ _ (.inl rfl) (same_new zp3) (.tup (SqT.of upd_same) .nil) q zq
end
end K1

set_option Elab.async false
set_option linter.all false
set_option maxRecDepth 100000
set_option maxHeartbeats 4000000
set_option autoImplicit false
namespace K2
open PySem PySem.Spec PyProof.Rows L2 RZ Gd Dl

def g_draw : List PyData → M PyData
  | [.int few] => (M.gd (0 < few ∧ few ≤ 1000000000)).bind fun _ => M.any fun d => ∃ k, 0 ≤ k ∧ k < few ∧ d = .int k
  | _ => .fail
def g_numbers : List PyData → M PyData
  | [.int few] => (M.gd (0 ≤ few ∧ few ≤ 5)).bind fun _ => M.any fun d => ∃ qs : List (Int × Int), (qs.length : Int) = few ∧ (∀ q ∈ qs, NumOk q) ∧ d = rowD qs
  | _ => .fail
def g_trialD : List PyData → M PyData
  | [.int 10] => M.any fun d => ∃ t : Trl, t.Ok 10 ∧ d = t.d
  | _ => .fail
def g_odd : List PyData → M PyData
  | [] => M.any fun d => smal d = true
  | _ => .fail
/-- plain data: ints and short tuples -/
def Pl : Nat → PyData → Prop
  | _, .int i => i.natAbs < 2 ^ 150
  | k + 1, .tuple ds => ds.length ≤ 20 ∧ ∀ d ∈ ds, Pl k d
  | _, _ => False
def g_bent : List PyData → M PyData
  | [d] => (M.gd (Pl 6 d)).bind fun _ => M.any fun d => smal d = true
  | _ => .fail
def g_maybe : List PyData → M PyData
  | [d] => (M.gd (Pl 6 d)).bind fun _ => M.any fun d => smal d = true
  | _ => .fail
def g_worldD : List PyData → M PyData
  | [t] => (M.gd (trialB t = true)).bind fun _ => M.any fun d => ∃ v l : List (Int × Int), (v.length : Int) = unk t ∧ (l.length : Int) = lev t ∧ (∀ q ∈ v ++ l, NumOk q) ∧ d = .tuple [rowD v, rowD l]
  | _ => .fail
def g_planted : List PyData → M PyData
  | [t] => (M.gd (∃ r : Trl, r.Ok 10 ∧ t = r.d)).bind fun _ => M.any fun d => smal d = true
  | _ => .fail
def g_right : List PyData → M PyData
  | [] => .ret (.bool true)
  | _ => .fail
def bd__law_odd : {m : Sg // ∀ {P : Program} {w : World} {K : PySem.W.Frag} {mg : Str → Option Value} {base : Heap} {f : Addr} {cdv : Value} {A : Around} {outer : List Env} {s : Shared} {H : Hp} {E : XK} {T : Addr → Prop} {w0 : Addr} {W0 : Addr → Prop} {H0 : Hp} (Tx : Txt K mg) (c__law_one : Cal P w K mg base "_law_one" 2 P__law_one (spOne K)) (hG : Cl (A.deeper (envOfC "_law_odd" (defScope s__law_odd) s.heap.objs.size f cdv))) (hr : Room (3 - 1) (A.deeper (envOfC "_law_odd" (defScope s__law_odd) s.heap.objs.size f cdv))),
    PSs (cxOf CX0 P w K mg base N__law_odd "_law_odd" (defScope s__law_odd) f cdv A outer s H E).nox (defBody s__law_odd) (tSF (fc K T (some w0) W0 H0) m)} :=
  ⟨_, fun {P w K mg base f cdv A outer s H E T w0 W0 H0} Tx c__law_one hG hr => have hu := hr.units; have hu2 := u150 hr; have nd := sc__law_odd.nd; (sf_cons (sf_set1 (ps_set (i := 1) nd rfl (Or.inl rfl) (pf_tup (paf_cons pf_non (paf_cons pf_bl (paf_cons pf_bl (paf_cons pf_int (paf_cons pf_int (paf_cons pf_int (paf_cons (pf_un (fun ha => pe_un un_neg ha) fn1_neg (pf_g pf_int)) (paf_cons pf_int (paf_cons pf_int (paf_cons pf_str (paf_cons pf_str (paf_cons pf_str (paf_cons (pf_tup paf_nil) (paf_cons (pf_tup (paf_cons pf_int paf_nil)) (paf_cons (pf_tup (paf_cons pf_int paf_nil)) (paf_cons (pf_tup (paf_cons pf_int (paf_cons pf_int paf_nil))) (paf_cons (pf_tup (paf_cons pf_int (paf_cons pf_int paf_nil))) (paf_cons (pf_tup (paf_cons pf_int (paf_cons pf_int paf_nil))) (paf_cons (pf_tup (paf_cons pf_int (paf_cons pf_int paf_nil))) paf_nil)))))))))))))))))))))) (sf_cons (sf_set1 (ps_set (i := 2) nd rfl (Or.inl rfl) (pf_tup (paf_cons (pf_tup (paf_cons pf_int (paf_cons pf_int paf_nil))) (paf_cons (pf_tup (paf_cons pf_int (paf_cons (pf_un (fun ha => pe_un un_neg ha) fn1_neg (pf_g pf_int)) paf_nil))) (paf_cons (pf_tup (paf_cons pf_bl (paf_cons pf_int paf_nil))) (paf_cons (pf_tup (paf_cons pf_int (paf_cons pf_bl paf_nil))) (paf_cons (pf_tup (paf_cons (pf_tup (paf_cons pf_int (paf_cons pf_int paf_nil))) paf_nil)) (paf_cons (pf_tup (paf_cons (pf_tup (paf_cons pf_int (paf_cons pf_int paf_nil))) paf_nil)) (paf_cons (pf_tup (paf_cons (pf_tup (paf_cons pf_int (paf_cons pf_int paf_nil))) (paf_cons (pf_tup (paf_cons pf_int (paf_cons pf_int paf_nil))) paf_nil))) (paf_cons (pf_tup (paf_cons (pf_tup (paf_cons (pf_tup (paf_cons pf_int (paf_cons pf_int paf_nil))) paf_nil)) paf_nil)) (paf_cons (pf_tup (paf_cons pf_int (paf_cons pf_int paf_nil))) paf_nil)))))))))))) (sf_cons (sf_set1 (ps_set (i := 2) nd rfl (Or.inl rfl) (pf_op (fun ha hb => pe_op (k_add (K := K) rfl) ha hb) op2_add (pg_var (pv 2)) (pf_g (pf_tup (paf_cons (pf_tup (paf_cons (pf_tup (paf_cons pf_int (paf_cons pf_int paf_nil))) (paf_cons (pf_tup (paf_cons pf_int (paf_cons pf_int paf_nil))) paf_nil))) (paf_cons (pf_lst paf_nil) (paf_cons (pf_lst (paf_cons pf_int paf_nil)) (paf_cons (pf_lst (paf_cons (pf_tup (paf_cons pf_int (paf_cons pf_int paf_nil))) paf_nil)) (paf_cons pf_dic (paf_cons (pf_tup (paf_cons pf_non paf_nil)) (paf_cons (pf_tup (paf_cons (pf_tup paf_nil) paf_nil)) (paf_cons (pf_pow (by unfold CPow; decide)) (paf_cons (pf_tup (paf_cons pf_int (paf_cons pf_int (paf_cons pf_int paf_nil)))) (paf_cons (pf_tup (paf_cons (pf_tup (paf_cons (pf_tup (paf_cons pf_int (paf_cons pf_int paf_nil))) paf_nil)) (paf_cons (pf_tup paf_nil) paf_nil))) paf_nil))))))))))))))) (sf_one (sf_ret (pf_one1 (pe_cal c__law_one hG (hr.mono (by decide)) rfl (pa_cons (pv 0) (pa_cons (pf_g (pf_op (fun ha hb => pe_op (k_add (K := K) rfl) ha hb) op2_add (pg_var (pv 1)) (pg_var (pv 2)))) pa_nil)))))))))⟩
theorem cal__law_odd {P : Program} {w : World} {K : PySem.W.Frag} {mg : Str → Option Value} {base : Heap} {T : Addr → Prop} (Tx : Txt K mg) (D : Def1 K mg "_law_odd" s__law_odd) (c__law_one : Cal P w K mg base "_law_one" 2 P__law_one (spOne K)) {g : List PyData → M PyData} (hg : ∀ ds p, ds.length = 0 → (g ds).run p → (fnW 2 bd__law_odd.1 ds).run p) : Cal P w K mg base "_law_odd" 3 P__law_odd (spW K T 0 g) := by
  refine D.cal (k := 3-1) sc__law_odd (fun vs H Q E h => h.len) (fun _ _ _ _ _ _ us hl => match us, hl with | [_], _ => rfl) fun f cdv A outer s H vs Q E hG hr h => ?_
  obtain ⟨w0, W0, H0, q⟩ := body_w' (N := N__law_odd) (n := 0) (k := 2) (m := bd__law_odd.1) rfl (h.imp hg)

  exact ⟨_, bd__law_odd.2 Tx c__law_one hG hr, q⟩
def bd__law_bent : {m : Sg // ∀ {P : Program} {w : World} {K : PySem.W.Frag} {mg : Str → Option Value} {base : Heap} {f : Addr} {cdv : Value} {A : Around} {outer : List Env} {s : Shared} {H : Hp} {E : XK} {T : Addr → Prop} {w0 : Addr} {W0 : Addr → Prop} {H0 : Hp} (Tx : Txt K mg) (c__law_draw : Cal P w K mg base "_law_draw" 1 P__law_draw (spW K T 1 g_draw)) (c__law_is_whole : Cal P w K mg base "_law_is_whole" 1 P__law_is_whole (spD K T 1 g_whole)) (c__law_odd : Cal P w K mg base "_law_odd" 3 P__law_odd (spW K T 0 g_odd)) (hG : Cl (A.deeper (envOfC "_law_bent" (defScope s__law_bent) s.heap.objs.size f cdv))) (hr : Room (4 - 1) (A.deeper (envOfC "_law_bent" (defScope s__law_bent) s.heap.objs.size f cdv))),
    PSs (cxOf CX0 P w K mg base N__law_bent "_law_bent" (defScope s__law_bent) f cdv A outer s H E).nox (defBody s__law_bent) (tSF (fc K T (some w0) W0 H0) m)} :=
  ⟨_, fun {P w K mg base f cdv A outer s H E T w0 W0 H0} Tx c__law_draw c__law_is_whole c__law_odd hG hr => have hu := hr.units; have hu2 := u150 hr; have nd := sc__law_bent.nd; (sf_cons (sf_parO (ps_par (i := 2) (j := 3) rfl nd rfl rfl (by decide) rfl rfl (pa_cons (pn_lst paf_nil) (pa_cons (pf_var (pv 1)) pa_nil)) (by rfl)) (by decide)) (sf_cons (sf_for (ps_for PassesOwn.never rfl (pif_rg1 (pi_range1 rfl Tx.n_range (paf_cons (pf_callW (pe_cal c__law_draw hG (hr.mono (by decide)) rfl (pa_cons (pv 0) (paf_cons pf_int paf_nil)))) paf_nil))) (pgf_name (pg_name (i := 4) nd rfl (Or.inl rfl))) (sf_cons (sf_if (PW.pt (pwf_or (ptf_not (ptf_val (pf_isi (T := "tuple") rfl rfl Tx.n_isinstance (pg_var (pv 3)) (pe_bltn (v := .ty "tuple") rfl Tx.n_tuple (by decide +kernel) rfl)))) (pwf_or1 (ptf_cmp (k_eqX (K := K) rfl hu) op2_eqX (pg_var (pv 3)) (pf_g (pf_tup paf_nil)) (nomark _))))) (sf_one sf_brk) sf_nil) (sf_cons (sf_set1 (ps_set (i := 5) nd rfl (Or.inl rfl) (pf_callW (pe_cal c__law_draw hG (hr.mono (by decide)) rfl (pa_cons (pv 0) (paf_cons (pf_fn1 (fun ha => pe_callB (k_len (K := K) rfl) rfl Tx.n_len (by decide +kernel) ha) fn_len (pg_var (pv 3))) paf_nil)))))) (sf_cons (sf_app (ps_expr (pe_bm PySem.F.plainAttrs_list PySem.F.slot_list_append PySem.F.type_list_append mt_append (pv 2) (pa_cons (pf_tup (paf_cons (pf_var (pv 3)) (paf_cons (pf_var (pv 5)) paf_nil))) pa_nil)))) (sf_one (sf_set1 (ps_set (i := 3) nd rfl (Or.inl rfl) (pf_ix (k_ix (K := K) rfl) op2_ix (pg_var (pv 3)) (pg_var (pv 5)) (fun _ _ => rfl)))))))))) (sf_cons (sf_set1 (ps_set (i := 6) nd rfl (Or.inl rfl) (pf_callW (pe_cal c__law_draw hG (hr.mono (by decide)) rfl (pa_cons (pv 0) (paf_cons pf_int paf_nil)))))) (sf_cons (sf_if (PW.pt (pwf_and (ptf_val (pf_isi (T := "tuple") rfl rfl Tx.n_isinstance (pg_var (pv 3)) (pe_bltn (v := .ty "tuple") rfl Tx.n_tuple (by decide +kernel) rfl))) (pwf_and1 (ptf_cmp op_ltA op2_lt (pg_var (pv 6)) (pf_g pf_int) (nomark _))))) (sf_one (sf_set1 (ps_set (i := 3) nd rfl (Or.inl rfl) (pf_ix (k_ix (K := K) rfl) op2_ix (pf_g (pf_tup (paf_cons (pf_fn1 (fun ha => pe_callTy (k_lstT (K := K) rfl) rfl Tx.n_list (by decide +kernel) ha) fn_list (pg_var (pv 3))) (paf_cons (pf_cut rfl (pg_var (pv 3)) pof_none (pof_some (pf_un (fun ha => pe_un un_neg ha) fn1_neg (pf_g pf_int)))) (paf_cons (pf_op (fun ha hb => pe_op (k_add (K := K) rfl) ha hb) op2_add (pg_var (pv 3)) (pf_g (pf_cut rfl (pg_var (pv 3)) pof_none (pof_some pf_int)))) (paf_cons (pf_cut rfl (pg_var (pv 3)) (pof_some pf_int) pof_none) (paf_cons (pf_rev rfl (pg_var (pv 3))) paf_nil))))))) (pg_var (pv 6)) (fun _ _ => rfl))))) (sf_one (sf_if (PW.pt (pwf_and (ptf_val (pf_callD (pe_cal c__law_is_whole hG (hr.mono (by decide)) rfl (paf_cons (pf_var (pv 3)) paf_nil)))) (pwf_and1 (ptf_cmp op_ltA op2_lt (pg_var (pv 6)) (pf_g pf_int) (nomark _))))) (sf_one (sf_set1 (ps_set (i := 3) nd rfl (Or.inl rfl) (pf_ix (k_ix (K := K) rfl) op2_ix (pf_g (pf_tup (paf_cons (pf_op (fun ha hb => pe_op (k_add (K := K) rfl) ha hb) op2_add (pg_var (pv 3)) (pf_g pf_int)) (paf_cons (pf_op (fun ha hb => pe_op op_sub ha hb) op2_sub (pg_var (pv 3)) (pf_g pf_int)) (paf_cons (pf_op (fun ha hb => pe_op op_sub ha hb) op2_sub (pf_g pf_int) (pg_var (pv 3))) (paf_cons (pf_cmp op_gtA op2_gt (pg_var (pv 3)) (pf_g pf_int) (nomark _)) (paf_cons (pf_op (fun ha hb => pe_op op_sub ha hb) op2_sub (pf_g pf_int) (pg_var (pv 3))) paf_nil))))))) (pg_var (pv 6)) (fun _ _ => rfl))))) (sf_one (sf_set1 (ps_set (i := 3) nd rfl (Or.inl rfl) (pf_callW (pe_cal c__law_odd hG (hr.mono (by decide)) rfl (pa_cons (pv 0) paf_nil))))))))) (sf_cons (sf_for (ps_for PassesOwn.never rfl (pif_list rfl (pf_rev rfl (pg_var (pv 2)))) (pgf_tup (n := 2) rfl rfl (pgsf_cons (pgf_name (pg_name (i := 7) nd rfl (Or.inl rfl))) (pgsf_cons (pgf_name (pg_name (i := 5) nd rfl (Or.inl rfl))) pgsf_nil))) (sf_one (sf_set1 (ps_set (i := 3) nd rfl (Or.inl rfl) (pf_op (fun ha hb => pe_op (k_add (K := K) rfl) ha hb) op2_add (pf_g (pf_op (fun ha hb => pe_op (k_add (K := K) rfl) ha hb) op2_add (pf_g (pf_cut rfl (pg_var (pv 7)) pof_none (pof_some (pf_var (pv 5))))) (pf_g (pf_tup (paf_cons (pf_var (pv 3)) paf_nil))))) (pf_g (pf_cut rfl (pg_var (pv 7)) (pof_some (pf_op (fun ha hb => pe_op (k_add (K := K) rfl) ha hb) op2_add (pg_var (pv 5)) (pf_g pf_int))) pof_none)))))))) (sf_one (sf_ret (pf_var (pv 3)))))))))⟩
theorem cal__law_bent {P : Program} {w : World} {K : PySem.W.Frag} {mg : Str → Option Value} {base : Heap} {T : Addr → Prop} (Tx : Txt K mg) (D : Def1 K mg "_law_bent" s__law_bent) (c__law_draw : Cal P w K mg base "_law_draw" 1 P__law_draw (spW K T 1 g_draw)) (c__law_is_whole : Cal P w K mg base "_law_is_whole" 1 P__law_is_whole (spD K T 1 g_whole)) (c__law_odd : Cal P w K mg base "_law_odd" 3 P__law_odd (spW K T 0 g_odd)) {g : List PyData → M PyData} (hg : ∀ ds p, ds.length = 1 → (g ds).run p → (fnW 6 bd__law_bent.1 ds).run p) : Cal P w K mg base "_law_bent" 4 P__law_bent (spW K T 1 g) := by
  refine D.cal (k := 4-1) sc__law_bent (fun vs H Q E h => h.len) (fun _ _ _ _ _ _ us hl => match us, hl with | [_, _], _ => rfl) fun f cdv A outer s H vs Q E hG hr h => ?_
  obtain ⟨w0, W0, H0, q⟩ := body_w' (N := N__law_bent) (n := 1) (k := 6) (m := bd__law_bent.1) rfl (h.imp hg)

  exact ⟨_, bd__law_bent.2 Tx c__law_draw c__law_is_whole c__law_odd hG hr, q⟩
def bd__law_maybe : {m : Sg // ∀ {P : Program} {w : World} {K : PySem.W.Frag} {mg : Str → Option Value} {base : Heap} {f : Addr} {cdv : Value} {A : Around} {outer : List Env} {s : Shared} {H : Hp} {E : XK} {T : Addr → Prop} {w0 : Addr} {W0 : Addr → Prop} {H0 : Hp} (Tx : Txt K mg) (c__law_draw : Cal P w K mg base "_law_draw" 1 P__law_draw (spW K T 1 g_draw)) (c__law_bent : Cal P w K mg base "_law_bent" 4 P__law_bent (spW K T 1 g_bent)) (c__law_odd : Cal P w K mg base "_law_odd" 3 P__law_odd (spW K T 0 g_odd)) (hG : Cl (A.deeper (envOfC "_law_maybe" (defScope s__law_maybe) s.heap.objs.size f cdv))) (hr : Room (5 - 1) (A.deeper (envOfC "_law_maybe" (defScope s__law_maybe) s.heap.objs.size f cdv))),
    PSs (cxOf CX0 P w K mg base N__law_maybe "_law_maybe" (defScope s__law_maybe) f cdv A outer s H E).nox (defBody s__law_maybe) (tSF (fc K T (some w0) W0 H0) m)} :=
  ⟨_, fun {P w K mg base f cdv A outer s H E T w0 W0 H0} Tx c__law_draw c__law_bent c__law_odd hG hr => have hu := hr.units; have hu2 := u150 hr; have nd := sc__law_maybe.nd; (sf_cons (sf_set1 (ps_set (i := 2) nd rfl (Or.inl rfl) (pf_callW (pe_cal c__law_draw hG (hr.mono (by decide)) rfl (pa_cons (pv 0) (paf_cons pf_int paf_nil)))))) (sf_cons (sf_if (ptf_cmp op_ltA op2_lt (pg_var (pv 2)) (pf_g pf_int) (nomark _)) (sf_one (sf_ret (pf_var (pv 1)))) sf_nil) (sf_one (sf_ret (pf_if (ptf_cmp op_ltA op2_lt (pg_var (pv 2)) (pf_g pf_int) (nomark _)) (pf_callW (pe_cal c__law_bent hG (hr.mono (by decide)) rfl (pa_cons (pv 0) (paf_cons (pf_var (pv 1)) paf_nil)))) (pf_callW (pe_cal c__law_odd hG (hr.mono (by decide)) rfl (pa_cons (pv 0) paf_nil))))))))⟩
theorem cal__law_maybe {P : Program} {w : World} {K : PySem.W.Frag} {mg : Str → Option Value} {base : Heap} {T : Addr → Prop} (Tx : Txt K mg) (D : Def1 K mg "_law_maybe" s__law_maybe) (c__law_draw : Cal P w K mg base "_law_draw" 1 P__law_draw (spW K T 1 g_draw)) (c__law_bent : Cal P w K mg base "_law_bent" 4 P__law_bent (spW K T 1 g_bent)) (c__law_odd : Cal P w K mg base "_law_odd" 3 P__law_odd (spW K T 0 g_odd)) {g : List PyData → M PyData} (hg : ∀ ds p, ds.length = 1 → (g ds).run p → (fnW 1 bd__law_maybe.1 ds).run p) : Cal P w K mg base "_law_maybe" 5 P__law_maybe (spW K T 1 g) := by
  refine D.cal (k := 5-1) sc__law_maybe (fun vs H Q E h => h.len) (fun _ _ _ _ _ _ us hl => match us, hl with | [_, _], _ => rfl) fun f cdv A outer s H vs Q E hG hr h => ?_
  obtain ⟨w0, W0, H0, q⟩ := body_w' (N := N__law_maybe) (n := 1) (k := 1) (m := bd__law_maybe.1) rfl (h.imp hg)

  exact ⟨_, bd__law_maybe.2 Tx c__law_draw c__law_bent c__law_odd hG hr, q⟩
def bd__law_world : {m : Sg // ∀ {P : Program} {w : World} {K : PySem.W.Frag} {mg : Str → Option Value} {base : Heap} {f : Addr} {cdv : Value} {A : Around} {outer : List Env} {s : Shared} {H : Hp} {E : XK} {T : Addr → Prop} {w0 : Addr} {W0 : Addr → Prop} {H0 : Hp} (Tx : Txt K mg) (c__law_numbers : Cal P w K mg base "_law_numbers" 4 P__law_numbers (spW K T 1 g_numbers)) (c__law_levels : Cal P w K mg base "_law_levels" 1 P__law_levels (spD K T 1 g_llev)) (hG : Cl (A.deeper (envOfC "_law_world" (defScope s__law_world) s.heap.objs.size f cdv))) (hr : Room (5 - 1) (A.deeper (envOfC "_law_world" (defScope s__law_world) s.heap.objs.size f cdv))),
    PSs (cxOf CX0 P w K mg base N__law_world "_law_world" (defScope s__law_world) f cdv A outer s H E).nox (defBody s__law_world) (tSF (fc K T (some w0) W0 H0) m)} :=
  ⟨_, fun {P w K mg base f cdv A outer s H E T w0 W0 H0} Tx c__law_numbers c__law_levels hG hr => have hu := hr.units; have hu2 := u150 hr; have nd := sc__law_world.nd; (sf_one (sf_ret (pf_tup (paf_cons (pf_callW (pe_cal c__law_numbers hG (hr.mono (by decide)) rfl (pa_cons (pv 0) (paf_cons (pf_fn1 (fun ha => pe_callB (k_len (K := K) rfl) rfl Tx.n_len (by decide +kernel) ha) fn_len (pf_g (pf_ix (k_ix (K := K) rfl) op2_ix (pf_g (pf_ix (k_ix (K := K) rfl) op2_ix (pg_var (pv 1)) (pf_g pf_int) (fun _ _ => rfl))) (pf_g pf_int) (fun _ _ => rfl)))) paf_nil)))) (paf_cons (pf_callW (pe_cal c__law_numbers hG (hr.mono (by decide)) rfl (pa_cons (pv 0) (paf_cons (pf_callD (pe_cal c__law_levels hG (hr.mono (by decide)) rfl (paf_cons (pf_var (pv 1)) paf_nil))) paf_nil)))) paf_nil)))))⟩
theorem cal__law_world {P : Program} {w : World} {K : PySem.W.Frag} {mg : Str → Option Value} {base : Heap} {T : Addr → Prop} (Tx : Txt K mg) (D : Def1 K mg "_law_world" s__law_world) (c__law_numbers : Cal P w K mg base "_law_numbers" 4 P__law_numbers (spW K T 1 g_numbers)) (c__law_levels : Cal P w K mg base "_law_levels" 1 P__law_levels (spD K T 1 g_llev)) {g : List PyData → M PyData} (hg : ∀ ds p, ds.length = 1 → (g ds).run p → (fnW 0 bd__law_world.1 ds).run p) : Cal P w K mg base "_law_world" 5 P__law_world (spW K T 1 g) := by
  refine D.cal (k := 5-1) sc__law_world (fun vs H Q E h => h.len) (fun _ _ _ _ _ _ us hl => match us, hl with | [_, _], _ => rfl) fun f cdv A outer s H vs Q E hG hr h => ?_
  obtain ⟨w0, W0, H0, q⟩ := body_w' (N := N__law_world) (n := 1) (k := 0) (m := bd__law_world.1) rfl (h.imp hg)

  exact ⟨_, bd__law_world.2 Tx c__law_numbers c__law_levels hG hr, q⟩
def bd__law_planted : {m : Sg // ∀ {P : Program} {w : World} {K : PySem.W.Frag} {mg : Str → Option Value} {base : Heap} {f : Addr} {cdv : Value} {A : Around} {outer : List Env} {s : Shared} {H : Hp} {E : XK} {T : Addr → Prop} {w0 : Addr} {W0 : Addr → Prop} {H0 : Hp} (Tx : Txt K mg) (c__law_draw : Cal P w K mg base "_law_draw" 1 P__law_draw (spW K T 1 g_draw)) (hG : Cl (A.deeper (envOfC "_law_planted" (defScope s__law_planted) s.heap.objs.size f cdv))) (hr : Room (3 - 1) (A.deeper (envOfC "_law_planted" (defScope s__law_planted) s.heap.objs.size f cdv))),
    PSs (cxOf CX0 P w K mg base N__law_planted "_law_planted" (defScope s__law_planted) f cdv A outer s H E).nox (defBody s__law_planted) (tSF (fc K T (some w0) W0 H0) m)} :=
  ⟨_, fun {P w K mg base f cdv A outer s H E T w0 W0 H0} Tx c__law_draw hG hr => have hu := hr.units; have hu2 := u150 hr; have nd := sc__law_planted.nd; (sf_cons (sf_asg (pf_var (pv 1)) (pgf_tup (n := 3) rfl rfl (pgsf_cons (pgf_name (pg_name (i := 2) nd rfl (Or.inl rfl))) (pgsf_cons (pgf_name (pg_name (i := 3) nd rfl (Or.inl rfl))) (pgsf_cons (pgf_name (pg_name (i := 4) nd rfl (Or.inl rfl))) pgsf_nil))))) (sf_cons (sf_par (ps_par (i := 5) (j := 6) rfl nd rfl rfl (by decide) rfl rfl (paf_cons (pf_callW (pe_cal c__law_draw hG (hr.mono (by decide)) rfl (pa_cons (pv 0) (paf_cons pf_int paf_nil)))) (paf_cons (pf_callW (pe_cal c__law_draw hG (hr.mono (by decide)) rfl (pa_cons (pv 0) (paf_cons pf_int paf_nil)))) paf_nil)) (by rfl))) (sf_cons (sf_if (ptf_cmp (k_eqX (K := K) rfl hu) op2_eqX (pg_var (pv 5)) (pf_g pf_int) (nomark _)) (sf_one (sf_ret (pf_tup (paf_cons (pf_op (fun ha hb => pe_op (k_mulX (K := K) rfl) ha hb) op2_mulX (pf_g (pf_cut rfl (pg_var (pv 2)) pof_none (pof_some pf_int))) (pf_g (pf_op (fun ha hb => pe_op (k_add (K := K) rfl) ha hb) op2_add (pf_g pf_int) (pg_var (pv 6))))) (paf_cons (pf_op (fun ha hb => pe_op (k_mulX (K := K) rfl) ha hb) op2_mulX (pf_g (pf_tup (paf_cons (pf_tup (paf_cons pf_int (paf_cons pf_int paf_nil))) paf_nil))) (pf_g (pf_op (fun ha hb => pe_op (k_add (K := K) rfl) ha hb) op2_add (pf_g pf_int) (pg_var (pv 6))))) (paf_cons (pf_tup paf_nil) paf_nil)))))) sf_nil) (sf_cons (sf_if (ptf_cmp (k_eqX (K := K) rfl hu) op2_eqX (pg_var (pv 5)) (pf_g pf_int) (nomark _)) (sf_one (sf_ret (pf_tup (paf_cons (pf_tup (paf_cons (pf_op (fun ha hb => pe_op (k_mulX (K := K) rfl) ha hb) op2_mulX (pf_g (pf_tup (paf_cons (pf_tup (paf_cons pf_int (paf_cons pf_int paf_nil))) paf_nil))) (pf_g (pf_op (fun ha hb => pe_op (k_add (K := K) rfl) ha hb) op2_add (pf_g pf_int) (pg_var (pv 6))))) paf_nil)) (paf_cons (pf_tup (paf_cons (pf_tup (paf_cons pf_int (paf_cons pf_int paf_nil))) paf_nil)) (paf_cons (pf_tup paf_nil) paf_nil)))))) sf_nil) (sf_cons (sf_if (ptf_cmp (k_eqX (K := K) rfl hu) op2_eqX (pg_var (pv 5)) (pf_g pf_int) (nomark _)) (sf_one (sf_ret (pf_tup (paf_cons (pf_var (pv 2)) (paf_cons (pf_var (pv 3)) (paf_cons (pf_op (fun ha hb => pe_op (k_add (K := K) rfl) ha hb) op2_add (pf_g (pf_op (fun ha hb => pe_op (k_mulX (K := K) rfl) ha hb) op2_mulX (pf_g (pf_tup (paf_cons pf_int paf_nil))) (pf_g (pf_op (fun ha hb => pe_op op_sub ha hb) op2_sub (pf_g (pf_fn1 (fun ha => pe_callB (k_len (K := K) rfl) rfl Tx.n_len (by decide +kernel) ha) fn_len (pg_var (pv 2)))) (pf_g pf_int))))) (pf_g (pf_tup (paf_cons (pf_op (fun ha hb => pe_op (k_add (K := K) rfl) ha hb) op2_add (pf_g pf_int) (pg_var (pv 6))) paf_nil)))) paf_nil)))))) sf_nil) (sf_cons (sf_if (ptf_cmp (k_eqX (K := K) rfl hu) op2_eqX (pg_var (pv 5)) (pf_g pf_int) (nomark _)) (sf_one (sf_ret (pf_tup (paf_cons (pf_var (pv 2)) (paf_cons (pf_op (fun ha hb => pe_op (k_add (K := K) rfl) ha hb) op2_add (pf_g (pf_cut rfl (pg_var (pv 3)) pof_none (pof_some (pf_un (fun ha => pe_un un_neg ha) fn1_neg (pf_g pf_int))))) (pf_g (pf_tup (paf_cons (pf_tup (paf_cons (pf_var (pv 6)) (paf_cons pf_int paf_nil))) paf_nil)))) (paf_cons (pf_var (pv 4)) paf_nil)))))) sf_nil) (sf_one (sf_ret (pf_tup (paf_cons (pf_var (pv 2)) (paf_cons (pf_var (pv 3)) (paf_cons (pf_op (fun ha hb => pe_op (k_mulX (K := K) rfl) ha hb) op2_mulX (pf_g (pf_tup (paf_cons pf_int paf_nil))) (pf_g (pf_op (fun ha hb => pe_op (k_add (K := K) rfl) ha hb) op2_add (pf_g (pf_fn1 (fun ha => pe_callB (k_len (K := K) rfl) rfl Tx.n_len (by decide +kernel) ha) fn_len (pg_var (pv 2)))) (pg_var (pv 6))))) paf_nil))))))))))))⟩
theorem cal__law_planted {P : Program} {w : World} {K : PySem.W.Frag} {mg : Str → Option Value} {base : Heap} {T : Addr → Prop} (Tx : Txt K mg) (D : Def1 K mg "_law_planted" s__law_planted) (c__law_draw : Cal P w K mg base "_law_draw" 1 P__law_draw (spW K T 1 g_draw)) {g : List PyData → M PyData} (hg : ∀ ds p, ds.length = 1 → (g ds).run p → (fnW 5 bd__law_planted.1 ds).run p) : Cal P w K mg base "_law_planted" 3 P__law_planted (spW K T 1 g) := by
  refine D.cal (k := 3-1) sc__law_planted (fun vs H Q E h => h.len) (fun _ _ _ _ _ _ us hl => match us, hl with | [_, _], _ => rfl) fun f cdv A outer s H vs Q E hG hr h => ?_
  obtain ⟨w0, W0, H0, q⟩ := body_w' (N := N__law_planted) (n := 1) (k := 5) (m := bd__law_planted.1) rfl (h.imp hg)

  exact ⟨_, bd__law_planted.2 Tx c__law_draw hG hr, q⟩
end K2

set_option Elab.async false
set_option linter.all false
set_option maxRecDepth 100000
set_option maxHeartbeats 4000000
set_option autoImplicit false
namespace K2
open PySem PySem.Spec PyProof.Rows L2 RZ Gd Dl
def bd__law_right : {m : Sg // ∀ {P : Program} {w : World} {K : PySem.W.Frag} {mg : Str → Option Value} {base : Heap} {f : Addr} {cdv : Value} {A : Around} {outer : List Env} {s : Shared} {H : Hp} {E : XK} {T : Addr → Prop} {w0 : Addr} {W0 : Addr → Prop} {H0 : Hp} (Tx : Txt K mg) (hS : SysM base) (c__law_trial : Cal P w K mg base "_law_trial" 5 P__law_trial (spW K T 1 g_trialD)) (c__law_bent : Cal P w K mg base "_law_bent" 4 P__law_bent (spW K T 1 g_bent)) (c__law_maybe : Cal P w K mg base "_law_maybe" 5 P__law_maybe (spW K T 1 g_maybe)) (c__law_odd : Cal P w K mg base "_law_odd" 3 P__law_odd (spW K T 0 g_odd)) (c__law_is_trial : Cal P w K mg base "_law_is_trial" 4 P__law_is_trial (spD K T 1 g_ltrial)) (c__law_world : Cal P w K mg base "_law_world" 5 P__law_world (spW K T 1 g_worldD)) (c__law_numbers : Cal P w K mg base "_law_numbers" 4 P__law_numbers (spW K T 1 g_numbers)) (c__law_is_world : Cal P w K mg base "_law_is_world" 4 P__law_is_world (spD K T 2 g_lworld)) (c__law_is_row : Cal P w K mg base "_law_is_row" 3 P__law_is_row (spD K T 2 g_lrow)) (c__law_planted : Cal P w K mg base "_law_planted" 3 P__law_planted (spW K T 1 g_planted)) (c_is_trial : Cal P w K mg base "is_trial" 7 P_is_trial (spD K T 1 g_trial)) (k_is_trial : CalK P w K mg base "is_trial" 7 P_is_trial ["value"] (spD K T 1 g_trial) gId) (c_is_world : Cal P w K mg base "is_world" 9 P_is_world (spD K T 2 g_worldOf)) (k_is_world : CalK P w K mg base "is_world" 9 P_is_world ["value", "trial"] (spD K T 2 g_worldOf) gRev) (c_is_question : Cal P w K mg base "is_question" 9 P_is_question (spD K T 2 g_quest)) (k_is_question : CalK P w K mg base "is_question" 9 P_is_question ["value", "trial"] (spD K T 2 g_quest) gRev) (c_levels_of : Cal P w K mg base "levels_of" 9 P_levels_of (spD K T 1 g_count)) (k_levels_of : CalK P w K mg base "levels_of" 9 P_levels_of ["trial"] (spD K T 1 g_count) gId) (c__law_levels : Cal P w K mg base "_law_levels" 1 P__law_levels (spD K T 1 g_llev)) (hG : Cl (A.deeper (envOfC "_law_right" (defScope s__law_right) s.heap.objs.size f cdv))) (hr : Room (10 - 1) (A.deeper (envOfC "_law_right" (defScope s__law_right) s.heap.objs.size f cdv))),
    PSs (cxOf CX0 P w K mg base N__law_right "_law_right" (defScope s__law_right) f cdv A outer s H E).nox (defBody s__law_right) (tSF (fc K T (some w0) W0 H0) m)} :=
  ⟨_, fun {P w K mg base f cdv A outer s H E T w0 W0 H0} Tx hS c__law_trial c__law_bent c__law_maybe c__law_odd c__law_is_trial c__law_world c__law_numbers c__law_is_world c__law_is_row c__law_planted c_is_trial k_is_trial c_is_world k_is_world c_is_question k_is_question c_levels_of k_levels_of c__law_levels hG hr => have hu := hr.units; have hu2 := u150 hr; have nd := sc__law_right.nd; (sf_cons (sf_for (ps_for PassesOwn.never rfl (pif_rg1 (pi_range1 rfl Tx.n_range (paf_cons pf_int paf_nil))) (pgf_name (pg_name (i := 1) nd rfl (Or.inl rfl))) (sf_cons (sf_set1 (ps_set (i := 2) nd rfl (Or.inl rfl) (pf_callW (pe_cal c__law_trial hG (hr.mono (by decide)) rfl (pa_cons (pv 0) (paf_cons pf_int paf_nil)))))) (sf_cons (sf_set1 (ps_set (i := 3) nd rfl (Or.inl rfl) (pf_lst (paf_cons (pf_var (pv 2)) (paf_cons (pf_callW (pe_cal c__law_bent hG (hr.mono (by decide)) rfl (pa_cons (pv 0) (paf_cons (pf_var (pv 2)) paf_nil)))) (paf_cons (pf_callW (pe_cal c__law_maybe hG (hr.mono (by decide)) rfl (pa_cons (pv 0) (paf_cons (pf_var (pv 2)) paf_nil)))) (paf_cons (pf_callW (pe_cal c__law_odd hG (hr.mono (by decide)) rfl (pa_cons (pv 0) paf_nil))) paf_nil))))))) (sf_cons (sf_for (ps_for PassesOwn.never rfl (pif_list rfl (pf_op (fun ha hb => pe_op (k_add (K := K) rfl) ha hb) op2_add (pg_var (pv 3)) (pf_g (pf_lst (paf_cons (pf_callW (pe_cal c__law_planted hG (hr.mono (by decide)) rfl (pa_cons (pv 0) (paf_cons (pf_var (pv 2)) paf_nil)))) paf_nil))))) (pgf_name (pg_name (i := 4) nd rfl (Or.inl rfl))) (sf_cons (sf_set1 (ps_set (i := 5) nd rfl (Or.inl rfl) (pf_callD (pe_cal c__law_is_trial hG (hr.mono (by decide)) rfl (paf_cons (pf_var (pv 4)) paf_nil))))) (sf_cons (sf_if (ptf_cmp (k_neX (K := K) rfl hu) op2_neX (pf_g (pf_fn1 (fun ha => pe_callB (k_reprA (K := K) rfl hS hG hu2) rfl Tx.n_repr (by decide +kernel) ha) fn_repr (pf_g (pf_lst (paf_cons (pf_callD (pe_cal c_is_trial hG (hr.mono (by decide)) rfl (paf_cons (pf_var (pv 4)) paf_nil))) (paf_cons (pf_callK (pe_calK k_is_trial hG (hr.mono (by decide)) rfl (pkf_cons (pf_var (pv 4)) pkf_nil)) (fun r => r) (fun _ _ _ q => q)) paf_nil)))))) (pf_g (pf_fn1 (fun ha => pe_callB (k_reprA (K := K) rfl hS hG hu2) rfl Tx.n_repr (by decide +kernel) ha) fn_repr (pf_g (pf_lst (paf_cons (pf_var (pv 5)) (paf_cons (pf_var (pv 5)) paf_nil)))))) (nomark _)) (sf_one (sf_ret pf_bl)) sf_nil) (sf_one (sf_if (PW.pt (pwf_and (ptf_val (pf_var (pv 5))) (pwf_and1 (ptf_cmp (k_neX (K := K) rfl hu) op2_neX (pf_g (pf_fn1 (fun ha => pe_callB (k_reprA (K := K) rfl hS hG hu2) rfl Tx.n_repr (by decide +kernel) ha) fn_repr (pf_g (pf_lst (paf_cons (pf_callD (pe_cal c_levels_of hG (hr.mono (by decide)) rfl (paf_cons (pf_var (pv 4)) paf_nil))) (paf_cons (pf_callK (pe_calK k_levels_of hG (hr.mono (by decide)) rfl (pkf_cons (pf_var (pv 4)) pkf_nil)) (fun r => r) (fun _ _ _ q => q)) paf_nil)))))) (pf_g (pf_fn1 (fun ha => pe_callB (k_reprA (K := K) rfl hS hG hu2) rfl Tx.n_repr (by decide +kernel) ha) fn_repr (pf_g (pf_op (fun ha hb => pe_op (k_mulX (K := K) rfl) ha hb) op2_mulX (pf_g (pf_lst (paf_cons (pf_callD (pe_cal c__law_levels hG (hr.mono (by decide)) rfl (paf_cons (pf_var (pv 4)) paf_nil))) paf_nil))) (pf_g pf_int))))) (nomark _))))) (sf_one (sf_ret pf_bl)) sf_nil)))))) (sf_cons (sf_par (ps_par (i := 6) (j := 7) rfl nd rfl rfl (by decide) rfl rfl (paf_cons (pf_callW (pe_cal c__law_world hG (hr.mono (by decide)) rfl (pa_cons (pv 0) (paf_cons (pf_var (pv 2)) paf_nil)))) (paf_cons (pf_callW (pe_cal c__law_numbers hG (hr.mono (by decide)) rfl (pa_cons (pv 0) (paf_cons (pf_fn1 (fun ha => pe_callB (k_len (K := K) rfl) rfl Tx.n_len (by decide +kernel) ha) fn_len (pf_g (pf_ix (k_ix (K := K) rfl) op2_ix (pf_g (pf_ix (k_ix (K := K) rfl) op2_ix (pg_var (pv 2)) (pf_g pf_int) (fun _ _ => rfl))) (pf_g pf_int) (fun _ _ => rfl)))) paf_nil)))) paf_nil)) (by rfl))) (sf_cons (sf_set1 (ps_set (i := 3) nd rfl (Or.inl rfl) (pf_lst (paf_cons (pf_var (pv 6)) (paf_cons (pf_callW (pe_cal c__law_bent hG (hr.mono (by decide)) rfl (pa_cons (pv 0) (paf_cons (pf_var (pv 6)) paf_nil)))) (paf_cons (pf_callW (pe_cal c__law_maybe hG (hr.mono (by decide)) rfl (pa_cons (pv 0) (paf_cons (pf_var (pv 6)) paf_nil)))) (paf_cons (pf_callW (pe_cal c__law_odd hG (hr.mono (by decide)) rfl (pa_cons (pv 0) paf_nil))) paf_nil))))))) (sf_cons (sf_for (ps_for PassesOwn.never rfl (pif_list rfl (pf_op (fun ha hb => pe_op (k_add (K := K) rfl) ha hb) op2_add (pg_var (pv 3)) (pf_g (pf_lst (paf_cons (pf_tup (paf_cons (pf_ix (k_ix (K := K) rfl) op2_ix (pg_var (pv 6)) (pf_g pf_int) (fun _ _ => rfl)) (paf_cons (pf_op (fun ha hb => pe_op (k_add (K := K) rfl) ha hb) op2_add (pf_g (pf_ix (k_ix (K := K) rfl) op2_ix (pg_var (pv 6)) (pf_g pf_int) (fun _ _ => rfl))) (pf_g (pf_tup (paf_cons (pf_tup (paf_cons pf_int (paf_cons pf_int paf_nil))) paf_nil)))) paf_nil))) paf_nil))))) (pgf_name (pg_name (i := 4) nd rfl (Or.inl rfl))) (sf_cons (sf_set1 (ps_set (i := 5) nd rfl (Or.inl rfl) (pf_callD (pe_cal c__law_is_world hG (hr.mono (by decide)) rfl (paf_cons (pf_var (pv 2)) (paf_cons (pf_var (pv 4)) paf_nil)))))) (sf_one (sf_if (ptf_cmp (k_neX (K := K) rfl hu) op2_neX (pf_g (pf_fn1 (fun ha => pe_callB (k_reprA (K := K) rfl hS hG hu2) rfl Tx.n_repr (by decide +kernel) ha) fn_repr (pf_g (pf_lst (paf_cons (pf_callD (pe_cal c_is_world hG (hr.mono (by decide)) rfl (paf_cons (pf_var (pv 2)) (paf_cons (pf_var (pv 4)) paf_nil)))) (paf_cons (pf_callK (pe_calK k_is_world hG (hr.mono (by decide)) rfl (pkf_cons (pf_var (pv 4)) (pkf_cons (pf_var (pv 2)) pkf_nil))) (fun r => r.rev) (fun _ _ _ q => q)) paf_nil)))))) (pf_g (pf_fn1 (fun ha => pe_callB (k_reprA (K := K) rfl hS hG hu2) rfl Tx.n_repr (by decide +kernel) ha) fn_repr (pf_g (pf_lst (paf_cons (pf_var (pv 5)) (paf_cons (pf_var (pv 5)) paf_nil)))))) (nomark _)) (sf_one (sf_ret pf_bl)) sf_nil))))) (sf_one (sf_for (ps_for PassesOwn.never rfl (pif_tup rfl (pf_tup (paf_cons (pf_var (pv 7)) (paf_cons (pf_callW (pe_cal c__law_bent hG (hr.mono (by decide)) rfl (pa_cons (pv 0) (paf_cons (pf_var (pv 7)) paf_nil)))) (paf_cons (pf_callW (pe_cal c__law_maybe hG (hr.mono (by decide)) rfl (pa_cons (pv 0) (paf_cons (pf_var (pv 7)) paf_nil)))) (paf_cons (pf_callW (pe_cal c__law_odd hG (hr.mono (by decide)) rfl (pa_cons (pv 0) paf_nil))) (paf_cons (pf_op (fun ha hb => pe_op (k_add (K := K) rfl) ha hb) op2_add (pg_var (pv 7)) (pf_g (pf_tup (paf_cons (pf_tup (paf_cons pf_int (paf_cons pf_int paf_nil))) paf_nil)))) paf_nil))))))) (pgf_name (pg_name (i := 4) nd rfl (Or.inl rfl))) (sf_cons (sf_set1 (ps_set (i := 5) nd rfl (Or.inl rfl) (pf_callD (pe_cal c__law_is_row hG (hr.mono (by decide)) rfl (paf_cons (pf_var (pv 4)) (paf_cons (pf_fn1 (fun ha => pe_callB (k_len (K := K) rfl) rfl Tx.n_len (by decide +kernel) ha) fn_len (pg_var (pv 7))) paf_nil)))))) (sf_one (sf_if (ptf_cmp (k_neX (K := K) rfl hu) op2_neX (pf_g (pf_fn1 (fun ha => pe_callB (k_reprA (K := K) rfl hS hG hu2) rfl Tx.n_repr (by decide +kernel) ha) fn_repr (pf_g (pf_lst (paf_cons (pf_callD (pe_cal c_is_question hG (hr.mono (by decide)) rfl (paf_cons (pf_var (pv 2)) (paf_cons (pf_var (pv 4)) paf_nil)))) (paf_cons (pf_callK (pe_calK k_is_question hG (hr.mono (by decide)) rfl (pkf_cons (pf_var (pv 4)) (pkf_cons (pf_var (pv 2)) pkf_nil))) (fun r => r.rev) (fun _ _ _ q => q)) paf_nil)))))) (pf_g (pf_fn1 (fun ha => pe_callB (k_reprA (K := K) rfl hS hG hu2) rfl Tx.n_repr (by decide +kernel) ha) fn_repr (pf_g (pf_lst (paf_cons (pf_var (pv 5)) (paf_cons (pf_var (pv 5)) paf_nil)))))) (nomark _)) (sf_one (sf_ret pf_bl)) sf_nil)))))))))))))) (sf_one (sf_ret pf_bl)))⟩
theorem cal__law_right {P : Program} {w : World} {K : PySem.W.Frag} {mg : Str → Option Value} {base : Heap} {T : Addr → Prop} (Tx : Txt K mg) (hS : SysM base) (D : Def1 K mg "_law_right" s__law_right) (c__law_trial : Cal P w K mg base "_law_trial" 5 P__law_trial (spW K T 1 g_trialD)) (c__law_bent : Cal P w K mg base "_law_bent" 4 P__law_bent (spW K T 1 g_bent)) (c__law_maybe : Cal P w K mg base "_law_maybe" 5 P__law_maybe (spW K T 1 g_maybe)) (c__law_odd : Cal P w K mg base "_law_odd" 3 P__law_odd (spW K T 0 g_odd)) (c__law_is_trial : Cal P w K mg base "_law_is_trial" 4 P__law_is_trial (spD K T 1 g_ltrial)) (c__law_world : Cal P w K mg base "_law_world" 5 P__law_world (spW K T 1 g_worldD)) (c__law_numbers : Cal P w K mg base "_law_numbers" 4 P__law_numbers (spW K T 1 g_numbers)) (c__law_is_world : Cal P w K mg base "_law_is_world" 4 P__law_is_world (spD K T 2 g_lworld)) (c__law_is_row : Cal P w K mg base "_law_is_row" 3 P__law_is_row (spD K T 2 g_lrow)) (c__law_planted : Cal P w K mg base "_law_planted" 3 P__law_planted (spW K T 1 g_planted)) (c_is_trial : Cal P w K mg base "is_trial" 7 P_is_trial (spD K T 1 g_trial)) (k_is_trial : CalK P w K mg base "is_trial" 7 P_is_trial ["value"] (spD K T 1 g_trial) gId) (c_is_world : Cal P w K mg base "is_world" 9 P_is_world (spD K T 2 g_worldOf)) (k_is_world : CalK P w K mg base "is_world" 9 P_is_world ["value", "trial"] (spD K T 2 g_worldOf) gRev) (c_is_question : Cal P w K mg base "is_question" 9 P_is_question (spD K T 2 g_quest)) (k_is_question : CalK P w K mg base "is_question" 9 P_is_question ["value", "trial"] (spD K T 2 g_quest) gRev) (c_levels_of : Cal P w K mg base "levels_of" 9 P_levels_of (spD K T 1 g_count)) (k_levels_of : CalK P w K mg base "levels_of" 9 P_levels_of ["trial"] (spD K T 1 g_count) gId) (c__law_levels : Cal P w K mg base "_law_levels" 1 P__law_levels (spD K T 1 g_llev)) {g : List PyData → M PyData} (hg : ∀ ds p, ds.length = 0 → (g ds).run p → (fnW 7 bd__law_right.1 ds).run p) : Cal P w K mg base "_law_right" 10 P__law_right (spW K T 0 g) := by
  refine D.cal (k := 10-1) sc__law_right (fun vs H Q E h => h.len) (fun _ _ _ _ _ _ us hl => match us, hl with | [_], _ => rfl) fun f cdv A outer s H vs Q E hG hr h => ?_
  obtain ⟨w0, W0, H0, q⟩ := body_w' (N := N__law_right) (n := 0) (k := 7) (m := bd__law_right.1) rfl (h.imp hg)

  exact ⟨_, bd__law_right.2 Tx hS c__law_trial c__law_bent c__law_maybe c__law_odd c__law_is_trial c__law_world c__law_numbers c__law_is_world c__law_is_row c__law_planted c_is_trial k_is_trial c_is_world k_is_world c_is_question k_is_question c_levels_of k_levels_of c__law_levels hG hr, q⟩
end K2

set_option Elab.async false
set_option linter.all false
set_option maxRecDepth 100000
set_option maxHeartbeats 4000000
set_option autoImplicit false
namespace K2
open PySem PySem.Spec PyProof.Rows L2 RZ Gd Dl

theorem pl_smal : ∀ {k : Nat} {d : PyData}, Pl k d → smal d = true
  | 0, .int i, h => by
    have h : i.natAbs < 2 ^ 150 := h
    exact decide_eq_true (Nat.lt_of_lt_of_le h (Nat.pow_le_pow_right (by decide) (by decide)))
  | k + 1, .int i, h => by
    have h : i.natAbs < 2 ^ 150 := h
    exact decide_eq_true (Nat.lt_of_lt_of_le h (Nat.pow_le_pow_right (by decide) (by decide)))
  | k + 1, .tuple ds, h => tup_smal fun d m => pl_smal (h.2 d m)
  | 0, .tuple _, h => h.elim
  | 0, .list _, h => h.elim
  | 0, .none, h => h.elim
  | 0, .bool _, h => h.elim
  | 0, .str _, h => h.elim
  | 0, .dict _, h => h.elim
  | _ + 1, .list _, h => h.elim
  | _ + 1, .none, h => h.elim
  | _ + 1, .bool _, h => h.elim
  | _ + 1, .str _, h => h.elim
  | _ + 1, .dict _, h => h.elim
theorem pl_int {k : Nat} {z : Int} (h : Pl k (.int z)) : z.natAbs < 2 ^ 150 := by cases k <;> exact h
theorem pl_tup {k : Nat} {ds : List PyData} (h : Pl k (.tuple ds)) : ds.length ≤ 20 ∧ ∃ k', ∀ d ∈ ds, Pl k' d := by
  cases k with
  | zero => exact h.elim
  | succ k => exact ⟨h.1, k, h.2⟩
theorem smal_int {z : Int} (h : z.natAbs < 2 ^ 200) : smal (.int z) = true := decide_eq_true h
theorem lst_smal {ds : List PyData} (h : ∀ d ∈ ds, smal d = true) : smal (.list ds) = true := by simp only [smal]; exact smalL_iff.mpr h
theorem near {z w : Int} (h : z.natAbs < 2 ^ 150) (d : w.natAbs ≤ z.natAbs + 1) : smal (.int w) = true := smal_int (by
  have : (2 : Nat) ^ 150 + 1 < 2 ^ 200 := by decide
  omega)
theorem eq_odd : ∀ ds p, ds.length = 0 → (g_odd ds).run p → (fnW 2 bd__law_odd.1 ds).run p := by
  intro ds p hl h
  obtain rfl : ds = [] := List.eq_nil_of_length_eq_zero hl
  have h : ∀ d, smal d = true → p d := h
  have key : ∀ L : List PyData, L.all smal = true → ∀ d ∈ L, p d := fun L z d m => h d (List.all_eq_true.mp z d m)
  simp [fnD, fnW, sNext, sBrk, sCnt, sNever, thenO, sSeq, sIf, sRet, sRetN, sDrop, sRetO, bNm, bNil, bCons, bTup, sAsg, sOwn, sApp, sPar, sPar3, sParO, sFrz, nLst, mOfN, mCon, mVar, mPk, mUn, mOp, mNil, mCons, mTup, mLst, mFn, mAnd, mOr, mNot, mIf, mChn, tVal, tAndM, tOrM, tNotM, outD, o_len, o_eqX, o_neX, o_cmp, o_add, o_sub, o_neg, o_i2, o_ix, o_in, o_gcd, o_tuple, o_list, o_int, o_abs, mCut, pNone, pSome, tupB, intish, boolish, M.run_bind, M.run_ret, Gd.at_0, Gd.at_1, Gd.at_2, Gd.at_3, Gd.at_4, Gd.at_5, M.opt_some, bd__law_odd, mOne, g_one]
  repeat first | exact h _ (by decide) | refine ⟨h _ (by decide), ?_⟩
/-- what stands in bent's slots while it goes down -/
def BentD (thing : PyData) (n : Nat) (Γ : List Cell) : Prop := ∃ path here c4 c5 k, Γ = [.well, .im thing, .ow path, .im here, c4, c5, .un, .un] ∧ path.length ≤ n ∧ (∀ x ∈ path, ∃ ds i, x = .tuple [.tuple ds, .int i] ∧ ds.length ≤ 20 ∧ ∀ d ∈ ds, smal d = true) ∧ Pl k here
def BentU (thing : PyData) (Γ : List Cell) : Prop := ∃ path here c4 c5 c6 c7, Γ = [.well, .im thing, .ow path, .im here, c4, c5, c6, c7] ∧ path.length ≤ 5 ∧ (∀ x ∈ path, ∃ ds i, x = .tuple [.tuple ds, .int i] ∧ ds.length ≤ 20 ∧ ∀ d ∈ ds, smal d = true) ∧ smal here = true
theorem eq_bent : ∀ ds p, ds.length = 1 → (g_bent ds).run p → (fnW 6 bd__law_bent.1 ds).run p := by
  intro ds p hl h
  obtain ⟨d, rfl⟩ := len1 hl
  obtain ⟨hp, h⟩ := h
  have h : ∀ d, smal d = true → p d := h
  show (bd__law_bent.1 [.well, .im d, .un, .un, .un, .un, .un, .un]).run fun o => (outD o).run p
  unfold bd__law_bent
  refine seq_run (fun Γ => Γ = [.well, .im d, .ow [], .im d, .un, .un, .un, .un]) (by simp [fnD, fnW, sNext, sBrk, sCnt, sNever, thenO, sSeq, sIf, sRet, sRetN, sDrop, sRetO, bNm, bNil, bCons, bTup, sAsg, sOwn, sApp, sPar, sPar3, sParO, sFrz, nLst, mOfN, mCon, mVar, mPk, mUn, mOp, mNil, mCons, mTup, mLst, mFn, mAnd, mOr, mNot, mIf, mChn, tVal, tAndM, tOrM, tNotM, outD, o_len, o_eqX, o_neX, o_cmp, o_add, o_sub, o_neg, o_i2, o_ix, o_in, o_gcd, o_tuple, o_list, o_int, o_abs, mCut, pNone, pSome, tupB, intish, boolish, M.run_bind, M.run_ret, Gd.at_0, Gd.at_1, Gd.at_2, Gd.at_3, Gd.at_4, Gd.at_5, M.opt_some, LoopO]) ?_
  rintro _ rfl
  refine seq_run (BentD d 5) ?_ ?_
  · refine for_run ?_
    simp [fnD, fnW, sNext, sBrk, sCnt, sNever, thenO, sSeq, sIf, sRet, sRetN, sDrop, sRetO, bNm, bNil, bCons, bTup, sAsg, sOwn, sApp, sPar, sPar3, sParO, sFrz, nLst, mOfN, mCon, mVar, mPk, mUn, mOp, mNil, mCons, mTup, mLst, mFn, mAnd, mOr, mNot, mIf, mChn, tVal, tAndM, tOrM, tNotM, outD, o_len, o_eqX, o_neX, o_cmp, o_add, o_sub, o_neg, o_i2, o_ix, o_in, o_gcd, o_tuple, o_list, o_int, o_abs, mCut, pNone, pSome, tupB, intish, boolish, M.run_bind, M.run_ret, Gd.at_0, Gd.at_1, Gd.at_2, Gd.at_3, Gd.at_4, Gd.at_5, M.opt_some, sRg1, g_draw]
    rintro _ k h0 h5 rfl
    simp only [M.run_bind, M.run_gd, M.run_ret]
    refine ⟨by omega, ?_⟩
    refine M.mono _ (fun o q => ?_) (forL_inv (BentD d 5) (fun _ => False) (fun i => BentD d i) ?_ _ ⟨[], d, .un, .un, 6, rfl, Nat.le_refl _, (fun x m => by cases m), hp⟩)
    · cases o with
      | nx Γ =>
        rcases q with q | q
        · obtain ⟨path, here, c4, c5, k', e, l, r⟩ := q
          exact ⟨path, here, c4, c5, k', e, by simp at l; omega, r⟩
        · exact q
      | rt d => exact q.elim
      | bk Γ => exact q.elim
      | ct Γ => exact q.elim
    · rintro i x Γ hx ⟨path, here, c4, c5, k', rfl, l, pk, ph⟩
      have hi : i < 5 := by
        have := (List.getElem?_eq_some_iff.mp hx).1
        simp at this
        omega
      cases here with
      | tuple ds =>
        cases ds with
        | nil =>
          simp [fnD, fnW, sNext, sBrk, sCnt, sNever, thenO, sSeq, sIf, sRet, sRetN, sDrop, sRetO, bNm, bNil, bCons, bTup, sAsg, sOwn, sApp, sPar, sPar3, sParO, sFrz, nLst, mOfN, mCon, mVar, mPk, mUn, mOp, mNil, mCons, mTup, mLst, mFn, mAnd, mOr, mNot, mIf, mChn, tVal, tAndM, tOrM, tNotM, outD, o_len, o_eqX, o_neX, o_cmp, o_add, o_sub, o_neg, o_i2, o_ix, o_in, o_gcd, o_tuple, o_list, o_int, o_abs, mCut, pNone, pSome, tupB, intish, boolish, M.run_bind, M.run_ret, Gd.at_0, Gd.at_1, Gd.at_2, Gd.at_3, Gd.at_4, Gd.at_5, M.opt_some, TurnO]
          exact ⟨path, _, _, _, k', rfl, by omega, pk, ph⟩
        | cons a as =>
          simp [fnD, fnW, sNext, sBrk, sCnt, sNever, thenO, sSeq, sIf, sRet, sRetN, sDrop, sRetO, bNm, bNil, bCons, bTup, sAsg, sOwn, sApp, sPar, sPar3, sParO, sFrz, nLst, mOfN, mCon, mVar, mPk, mUn, mOp, mNil, mCons, mTup, mLst, mFn, mAnd, mOr, mNot, mIf, mChn, tVal, tAndM, tOrM, tNotM, outD, o_len, o_eqX, o_neX, o_cmp, o_add, o_sub, o_neg, o_i2, o_ix, o_in, o_gcd, o_tuple, o_list, o_int, o_abs, mCut, pNone, pSome, tupB, intish, boolish, M.run_bind, M.run_ret, Gd.at_0, Gd.at_1, Gd.at_2, Gd.at_3, Gd.at_4, Gd.at_5, M.opt_some, TurnO, g_draw]
          obtain ⟨pl, k2, pk2⟩ := pl_tup ph
          simp only [List.length_cons] at pl
          refine ⟨by omega, ?_⟩
          rintro _ x1 q0 q1 rfl
          refine ⟨by omega, ?_⟩
          obtain ⟨n, rfl⟩ := Int.eq_ofNat_of_zero_le q0
          have hn : n < (a :: as).length := by simp only [List.length_cons]; omega
          have hx2 : (a :: as)[n]? = some (a :: as)[n] := List.getElem?_eq_getElem hn
          have e := Gd.at_of hx2
          simp only [e, M.opt_some, M.run_ret]
          refine ⟨_, _, _, _, k2, rfl, by rw [List.length_append]; simp only [List.length_cons, List.length_nil]; omega, fun y m => ?_, pk2 _ (List.getElem_mem hn)⟩
          rcases List.mem_append.mp m with m | m
          · exact pk y m
          · rw [List.mem_singleton.mp m]
            exact ⟨_, _, rfl, by simp only [List.length_cons]; omega, fun z m => pl_smal (pk2 z m)⟩
      | int z =>
        simp [fnD, fnW, sNext, sBrk, sCnt, sNever, thenO, sSeq, sIf, sRet, sRetN, sDrop, sRetO, bNm, bNil, bCons, bTup, sAsg, sOwn, sApp, sPar, sPar3, sParO, sFrz, nLst, mOfN, mCon, mVar, mPk, mUn, mOp, mNil, mCons, mTup, mLst, mFn, mAnd, mOr, mNot, mIf, mChn, tVal, tAndM, tOrM, tNotM, outD, o_len, o_eqX, o_neX, o_cmp, o_add, o_sub, o_neg, o_i2, o_ix, o_in, o_gcd, o_tuple, o_list, o_int, o_abs, mCut, pNone, pSome, tupB, intish, boolish, M.run_bind, M.run_ret, Gd.at_0, Gd.at_1, Gd.at_2, Gd.at_3, Gd.at_4, Gd.at_5, M.opt_some, TurnO]
        exact ⟨path, _, _, _, k', rfl, by omega, pk, ph⟩
      | _ => cases k' <;> exact ph.elim
  · rintro Γ ⟨path, here, c4, c5, k, rfl, l, pk, ph⟩
    refine seq_run (fun Γ => ∃ way : Int, 0 ≤ way ∧ Γ = [.well, .im d, .ow path, .im here, c4, c5, .im (.int way), .un]) ?_ ?_
    · simp [fnD, fnW, sNext, sBrk, sCnt, sNever, thenO, sSeq, sIf, sRet, sRetN, sDrop, sRetO, bNm, bNil, bCons, bTup, sAsg, sOwn, sApp, sPar, sPar3, sParO, sFrz, nLst, mOfN, mCon, mVar, mPk, mUn, mOp, mNil, mCons, mTup, mLst, mFn, mAnd, mOr, mNot, mIf, mChn, tVal, tAndM, tOrM, tNotM, outD, o_len, o_eqX, o_neX, o_cmp, o_add, o_sub, o_neg, o_i2, o_ix, o_in, o_gcd, o_tuple, o_list, o_int, o_abs, mCut, pNone, pSome, tupB, intish, boolish, M.run_bind, M.run_ret, Gd.at_0, Gd.at_1, Gd.at_2, Gd.at_3, Gd.at_4, Gd.at_5, M.opt_some, LoopO, g_draw]
      rintro _ k h0 h8 rfl
      simp
      exact h0
    rintro _ ⟨way, hw, rfl⟩
    refine seq_run (BentU d) ?_ ?_
    · cases here with
      | tuple ds =>
        by_cases w5 : way < 5
        · have w : way = 0 ∨ way = 1 ∨ way = 2 ∨ way = 3 ∨ way = 4 := lt5 hw w5
          rcases w with rfl | rfl | rfl | rfl | rfl <;> simp [fnD, fnW, sNext, sBrk, sCnt, sNever, thenO, sSeq, sIf, sRet, sRetN, sDrop, sRetO, bNm, bNil, bCons, bTup, sAsg, sOwn, sApp, sPar, sPar3, sParO, sFrz, nLst, mOfN, mCon, mVar, mPk, mUn, mOp, mNil, mCons, mTup, mLst, mFn, mAnd, mOr, mNot, mIf, mChn, tVal, tAndM, tOrM, tNotM, outD, o_len, o_eqX, o_neX, o_cmp, o_add, o_sub, o_neg, o_i2, o_ix, o_in, o_gcd, o_tuple, o_list, o_int, o_abs, mCut, pNone, pSome, tupB, intish, boolish, M.run_bind, M.run_ret, Gd.at_0, Gd.at_1, Gd.at_2, Gd.at_3, Gd.at_4, Gd.at_5, M.opt_some, LoopO, o_cut, o_rev] <;> refine ⟨by have := (pl_tup ph).1; have := len_cut ds none (some 1); omega, path, _, _, _, _, _, rfl, l, pk, ?_⟩
          · exact lst_smal fun x m => pl_smal ((pl_tup ph).2.choose_spec x m)
          · exact tup_smal fun x m => pl_smal ((pl_tup ph).2.choose_spec x (mem_cut m))
          · refine tup_smal fun x m => pl_smal ((pl_tup ph).2.choose_spec x ?_)
            rcases List.mem_append.mp m with m | m
            · exact m
            · exact mem_cut m
          · exact tup_smal fun x m => pl_smal ((pl_tup ph).2.choose_spec x (mem_cut m))
          · exact tup_smal fun x m => pl_smal ((pl_tup ph).2.choose_spec x (List.mem_reverse.mp m))
        · simp [fnD, fnW, sNext, sBrk, sCnt, sNever, thenO, sSeq, sIf, sRet, sRetN, sDrop, sRetO, bNm, bNil, bCons, bTup, sAsg, sOwn, sApp, sPar, sPar3, sParO, sFrz, nLst, mOfN, mCon, mVar, mPk, mUn, mOp, mNil, mCons, mTup, mLst, mFn, mAnd, mOr, mNot, mIf, mChn, tVal, tAndM, tOrM, tNotM, outD, o_len, o_eqX, o_neX, o_cmp, o_add, o_sub, o_neg, o_i2, o_ix, o_in, o_gcd, o_tuple, o_list, o_int, o_abs, mCut, pNone, pSome, tupB, intish, boolish, M.run_bind, M.run_ret, Gd.at_0, Gd.at_1, Gd.at_2, Gd.at_3, Gd.at_4, Gd.at_5, M.opt_some, LoopO, w5, g_whole, wholeB, g_odd]
          exact fun a ha => ⟨path, _, _, _, _, _, rfl, l, pk, ha⟩
      | int z => 
        by_cases w5 : way < 5
        · have w : way = 0 ∨ way = 1 ∨ way = 2 ∨ way = 3 ∨ way = 4 := lt5 hw w5
          rcases w with rfl | rfl | rfl | rfl | rfl <;> simp [fnD, fnW, sNext, sBrk, sCnt, sNever, thenO, sSeq, sIf, sRet, sRetN, sDrop, sRetO, bNm, bNil, bCons, bTup, sAsg, sOwn, sApp, sPar, sPar3, sParO, sFrz, nLst, mOfN, mCon, mVar, mPk, mUn, mOp, mNil, mCons, mTup, mLst, mFn, mAnd, mOr, mNot, mIf, mChn, tVal, tAndM, tOrM, tNotM, outD, o_len, o_eqX, o_neX, o_cmp, o_add, o_sub, o_neg, o_i2, o_ix, o_in, o_gcd, o_tuple, o_list, o_int, o_abs, mCut, pNone, pSome, tupB, intish, boolish, M.run_bind, M.run_ret, Gd.at_0, Gd.at_1, Gd.at_2, Gd.at_3, Gd.at_4, Gd.at_5, M.opt_some, LoopO, g_whole, wholeB] <;> refine ⟨path, _, _, _, _, _, rfl, l, pk, ?_⟩
          · exact near (pl_int ph) (by omega)
          · exact near (pl_int ph) (by omega)
          · exact near (pl_int ph) (by omega)
          · rfl
          · exact near (pl_int ph) (by omega)
        · simp [fnD, fnW, sNext, sBrk, sCnt, sNever, thenO, sSeq, sIf, sRet, sRetN, sDrop, sRetO, bNm, bNil, bCons, bTup, sAsg, sOwn, sApp, sPar, sPar3, sParO, sFrz, nLst, mOfN, mCon, mVar, mPk, mUn, mOp, mNil, mCons, mTup, mLst, mFn, mAnd, mOr, mNot, mIf, mChn, tVal, tAndM, tOrM, tNotM, outD, o_len, o_eqX, o_neX, o_cmp, o_add, o_sub, o_neg, o_i2, o_ix, o_in, o_gcd, o_tuple, o_list, o_int, o_abs, mCut, pNone, pSome, tupB, intish, boolish, M.run_bind, M.run_ret, Gd.at_0, Gd.at_1, Gd.at_2, Gd.at_3, Gd.at_4, Gd.at_5, M.opt_some, LoopO, w5, g_whole, wholeB, g_odd]
          exact fun a ha => ⟨path, _, _, _, _, _, rfl, l, pk, ha⟩
      | _ => cases k <;> exact ph.elim
    rintro Γ hU
    refine seq_run (BentU d) ?_ ?_
    · refine for_run ?_
      obtain ⟨path, here, c4, c5, c6, c7, rfl, l, pk, ph⟩ := hU
      simp [fnD, fnW, sNext, sBrk, sCnt, sNever, thenO, sSeq, sIf, sRet, sRetN, sDrop, sRetO, bNm, bNil, bCons, bTup, sAsg, sOwn, sApp, sPar, sPar3, sParO, sFrz, nLst, mOfN, mCon, mVar, mPk, mUn, mOp, mNil, mCons, mTup, mLst, mFn, mAnd, mOr, mNot, mIf, mChn, tVal, tAndM, tOrM, tNotM, outD, o_len, o_eqX, o_neX, o_cmp, o_add, o_sub, o_neg, o_i2, o_ix, o_in, o_gcd, o_tuple, o_list, o_int, o_abs, mCut, pNone, pSome, tupB, intish, boolish, M.run_bind, M.run_ret, Gd.at_0, Gd.at_1, Gd.at_2, Gd.at_3, Gd.at_4, Gd.at_5, M.opt_some, sLs, o_rev]
      refine M.mono _ (fun o q => ?_) (forL_inv (fun _ => False) (fun d => p d) (fun i => BentU d) ?_ _ ⟨path, here, c4, c5, c6, c7, rfl, l, pk, ph⟩)
      · cases o with
        | nx Γ => exact q.resolve_right id
        | rt d => exact q
        | bk Γ => exact q.elim
        | ct Γ => exact q.elim
      · rintro i x Γ hx ⟨path2, here, c4, c5, c6, c7, rfl, l2, pk2, ph⟩
        obtain ⟨ds, at', rfl, ld, sd⟩ := pk x (List.mem_reverse.mp (List.mem_of_getElem? hx))
        have l1 := len_cut ds none (some at')
        have l3 := len_cut ds (some (at' + 1)) none
        simp [fnD, fnW, sNext, sBrk, sCnt, sNever, thenO, sSeq, sIf, sRet, sRetN, sDrop, sRetO, bNm, bNil, bCons, bTup, sAsg, sOwn, sApp, sPar, sPar3, sParO, sFrz, nLst, mOfN, mCon, mVar, mPk, mUn, mOp, mNil, mCons, mTup, mLst, mFn, mAnd, mOr, mNot, mIf, mChn, tVal, tAndM, tOrM, tNotM, outD, o_len, o_eqX, o_neX, o_cmp, o_add, o_sub, o_neg, o_i2, o_ix, o_in, o_gcd, o_tuple, o_list, o_int, o_abs, mCut, pNone, pSome, tupB, intish, boolish, M.run_bind, M.run_ret, Gd.at_0, Gd.at_1, Gd.at_2, Gd.at_3, Gd.at_4, Gd.at_5, M.opt_some, TurnO, o_cut]
        refine ⟨by omega, by omega, path2, _, _, _, _, _, rfl, l2, pk2, tup_smal fun y m => ?_⟩
        rcases List.mem_append.mp m with m | m
        · exact sd y (mem_cut m)
        · rcases List.mem_cons.mp m with rfl | m
          · exact ph
          · exact sd y (mem_cut m)
    rintro _ ⟨path, here, c4, c5, c6, c7, rfl, l, pk, ph⟩
    simp [fnD, fnW, sNext, sBrk, sCnt, sNever, thenO, sSeq, sIf, sRet, sRetN, sDrop, sRetO, bNm, bNil, bCons, bTup, sAsg, sOwn, sApp, sPar, sPar3, sParO, sFrz, nLst, mOfN, mCon, mVar, mPk, mUn, mOp, mNil, mCons, mTup, mLst, mFn, mAnd, mOr, mNot, mIf, mChn, tVal, tAndM, tOrM, tNotM, outD, o_len, o_eqX, o_neX, o_cmp, o_add, o_sub, o_neg, o_i2, o_ix, o_in, o_gcd, o_tuple, o_list, o_int, o_abs, mCut, pNone, pSome, tupB, intish, boolish, M.run_bind, M.run_ret, Gd.at_0, Gd.at_1, Gd.at_2, Gd.at_3, Gd.at_4, Gd.at_5, M.opt_some]
    exact h _ ph
theorem eq_maybe : ∀ ds p, ds.length = 1 → (g_maybe ds).run p → (fnW 1 bd__law_maybe.1 ds).run p := by
  intro ds p hl h
  obtain ⟨d, rfl⟩ := len1 hl
  obtain ⟨hp, h⟩ := h
  have h : ∀ d, smal d = true → p d := h
  simp [fnD, fnW, sNext, sBrk, sCnt, sNever, thenO, sSeq, sIf, sRet, sRetN, sDrop, sRetO, bNm, bNil, bCons, bTup, sAsg, sOwn, sApp, sPar, sPar3, sParO, sFrz, nLst, mOfN, mCon, mVar, mPk, mUn, mOp, mNil, mCons, mTup, mLst, mFn, mAnd, mOr, mNot, mIf, mChn, tVal, tAndM, tOrM, tNotM, outD, o_len, o_eqX, o_neX, o_cmp, o_add, o_sub, o_neg, o_i2, o_ix, o_in, o_gcd, o_tuple, o_list, o_int, o_abs, mCut, pNone, pSome, tupB, intish, boolish, M.run_bind, M.run_ret, Gd.at_0, Gd.at_1, Gd.at_2, Gd.at_3, Gd.at_4, Gd.at_5, M.opt_some, bd__law_maybe, g_draw, g_bent, g_odd, hp]
  rintro _ x h0 h10 rfl
  by_cases c : x < 5
  · simp [c]
    exact h _ (pl_smal hp)
  · by_cases c2 : x < 9
    · simp [c, c2]
      exact h
    · simp [c, c2]
      exact h
end K2

set_option Elab.async false
set_option linter.all false
set_option maxRecDepth 100000
set_option maxHeartbeats 4000000
set_option autoImplicit false
namespace K2
open PySem PySem.Spec PyProof.Rows L2 RZ Gd Dl

/-! what is drawn -/
theorem frac_fr {q : Int × Int} (h1 : 0 < q.2) (h2 : Int.gcd q.1 q.2 = 1) : fracB (frD q) = true := by
  have : ((Nat.gcd q.1.natAbs q.2.natAbs : Nat) : Int) = 1 := by
    have e : Int.gcd q.1 q.2 = Nat.gcd q.1.natAbs q.2.natAbs := rfl
    rw [← e, h2]
    rfl
  simp [frD, fracB, h1, this]
theorem row_row {qs : List (Int × Int)} {k : Int} (hk : (qs.length : Int) = k) (h : ∀ q ∈ qs, 0 < q.2 ∧ Int.gcd q.1 q.2 = 1) : rowB k (rowD qs) = true := by
  simp only [rowD, rowB, List.length_map, Bool.and_eq_true, decide_eq_true_eq]
  refine ⟨hk, List.all_eq_true.mpr fun d m => ?_⟩
  obtain ⟨q, hq, rfl⟩ := List.mem_map.mp m
  exact frac_fr (h q hq).1 (h q hq).2
theorem pl_fr {q : Int × Int} (h : q.1.natAbs < 2 ^ 150 ∧ q.2.natAbs < 2 ^ 150) {k : Nat} : Pl (k + 1) (frD q) := by
  refine ⟨by simp, fun d m => ?_⟩
  simp only [List.mem_cons, List.not_mem_nil, or_false] at m
  rcases m with rfl | rfl
  · cases k <;> exact h.1
  · cases k <;> exact h.2
theorem pl_row {qs : List (Int × Int)} (hn : qs.length ≤ 20) (h : ∀ q ∈ qs, q.1.natAbs < 2 ^ 150 ∧ q.2.natAbs < 2 ^ 150) {k : Nat} : Pl (k + 2) (rowD qs) := by
  refine ⟨by rw [List.length_map]; exact hn, fun d m => ?_⟩
  obtain ⟨q, hq, rfl⟩ := List.mem_map.mp m
  exact pl_fr (h q hq)
theorem num_lt {q : Int × Int} (h : NumOk q) : q.1.natAbs < 2 ^ 150 ∧ q.2.natAbs < 2 ^ 150 := by
  obtain ⟨h1, h2, h3, h4⟩ := h
  have : (1000001 : Nat) < 2 ^ 150 := by decide
  constructor <;> omega
theorem spr_ok {q : Int × Int} (h : SprOk q) : (0 < q.2 ∧ Int.gcd q.1 q.2 = 1) ∧ 0 < q.1 ∧ (q.1.natAbs < 2 ^ 150 ∧ q.2.natAbs < 2 ^ 150) := by
  unfold SprOk at h
  simp only [List.mem_cons, List.not_mem_nil, or_false] at h
  rcases h with rfl | rfl | rfl | rfl | rfl <;> refine ⟨⟨by decide, by decide⟩, by decide, by decide, by decide⟩
section
variable {t : Trl} (h : t.Ok 10)
include h
theorem ok_shape : ∃ r rows, t.rows = r :: rows ∧ 1 ≤ r.length ∧ r.length ≤ 5 ∧ ∀ x ∈ t.rows, x.length = r.length := by
  obtain ⟨k, k1, k5, hk⟩ := h.wide
  have n1 := h.n1
  cases e : t.rows with
  | nil => rw [e] at n1; simp at n1
  | cons r rows =>
    have hr := hk r (by rw [e]; exact List.mem_cons_self ..)
    exact ⟨r, rows, rfl, by omega, by omega, fun x m => by rw [← e] at m; rw [hk x m, hr]⟩
theorem ok_lt {r : List (Int × Int)} (hr : r ∈ t.rows) {q : Int × Int} (hq : q ∈ r) : q.1.natAbs < 2 ^ 150 ∧ q.2.natAbs < 2 ^ 150 := by
  have := (h.ent r hr q hq).lt (Nat.le_refl _)
  have e : (2 : Nat) ^ 120 < 2 ^ 150 := by decide
  constructor <;> omega
theorem ok_trial : trialB t.d = true := by
  obtain ⟨r, rows, e, h1, h5, hl⟩ := ok_shape h
  have n2 := h.n2
  have e2 : t.d = .tuple [.tuple (.tuple (r.map frD) :: rows.map rowD), rowD t.spreads, .tuple (t.blocks.map .int)] := by
    unfold Trl.d
    rw [e]
    rfl
  have hrow : ∀ x ∈ t.rows, rowB r.length (rowD x) = true := fun x m => row_row (by rw [hl x m]) fun q hq => ⟨(h.ent x m q hq).1, (h.ent x m q hq).2.1⟩
  have hp : plotsB (.tuple (.tuple (r.map frD) :: rows.map rowD)) = true := by
    simp only [plotsB, Bool.and_eq_true, decide_eq_true_eq, List.length_map]
    rw [e] at n2
    simp only [List.length_cons] at n2
    refine ⟨by omega, by omega, by omega, List.all_eq_true.mpr fun d m => ?_⟩
    have m' : d ∈ t.rows.map rowD := by rw [e]; exact m
    obtain ⟨x, hx, rfl⟩ := List.mem_map.mp m'
    exact hrow x hx
  have hs : spreadsB (lenI (.tuple (.tuple (r.map frD) :: rows.map rowD))) (rowD t.spreads) = true := by
    have l : (t.spreads.length : Int) = rows.length + 1 := by rw [h.spl, e]; simp
    have hr := row_row (qs := t.spreads) (k := rows.length + 1) l fun q hq => (spr_ok (h.spr q hq)).1
    unfold rowD at hr ⊢
    simp only [spreadsB, Bool.and_eq_true]
    refine ⟨by simpa [lenI] using hr, List.all_eq_true.mpr fun d m => ?_⟩
    obtain ⟨q, hq, rfl⟩ := List.mem_map.mp m
    exact decide_eq_true (spr_ok (h.spr q hq)).2.1
  have hb : blocksB (lenI (.tuple (.tuple (r.map frD) :: rows.map rowD))) (.tuple (t.blocks.map .int)) = true := by
    simp only [blocksB, Bool.and_eq_true, Bool.or_eq_true, decide_eq_true_eq, List.length_map, lenI, List.length_cons]
    rcases h.bl with z | z
    · rw [z]
      exact ⟨.inl rfl, rfl⟩
    · refine ⟨.inr ?_, List.all_eq_true.mpr fun d m => ?_⟩
      · rw [z.1, e]
        simp
      · obtain ⟨i, hi, rfl⟩ := List.mem_map.mp m
        have := z.2 i hi
        simp [blockB, this]
  rw [e2]
  simp only [trialB, hp, hs, hb, Bool.and_self]
theorem ok_pl {k : Nat} : Pl (k + 4) t.d := by
  have n2 := h.n2
  refine ⟨by simp, fun d m => ?_⟩
  simp only [List.mem_cons, List.not_mem_nil, or_false] at m
  rcases m with rfl | rfl | rfl
  · refine ⟨by rw [List.length_map]; omega, fun d m => ?_⟩
    obtain ⟨x, hx, rfl⟩ := List.mem_map.mp m
    obtain ⟨k', k1, k5, hk⟩ := h.wide
    exact pl_row (by rw [hk x hx]; omega) fun q hq => ok_lt h hx hq
  · exact pl_row (by rw [h.spl]; omega) fun q hq => (spr_ok (h.spr q hq)).2.2
  · refine ⟨?_, fun d m => ?_⟩
    · rw [List.length_map]
      rcases h.bl with z | z
      · rw [z]; simp
      · omega
    · obtain ⟨i, hi, rfl⟩ := List.mem_map.mp m
      have z : i.natAbs < 2 ^ 150 := by
        have e : (5 : Nat) < 2 ^ 150 := by decide
        rcases h.bl with z | z
        · rw [z] at hi; cases hi
        · have := z.2 i hi
          omega
      exact z
end
/-! promises by hand, as promises by data -/
section
variable {K : PySem.W.Frag} {T : Addr → Prop} {vs : List V} {H : Hp} {Q : VK} {E : XK}
theorem ch_kp {W : Addr → Prop} {H' : Hp} {w : Addr} (lw : LW T W H) (wl0 : Wl H w) (k : Kp w H H') (wl : Wl H' w) : Ch (fc K T (some w) W H) H H' :=
  ⟨fun b o n t h => k b o (fun z => n (by rw [z])) h, fun a t => (by
    obtain ⟨ps, e, r⟩ := lw.t a t
    refine ⟨ps, k a _ ?_ e, r⟩
    rintro rfl
    obtain ⟨_, _, _, q, _⟩ := wl0
    rw [e] at q
    cases q), fun v e => by cases e; exact wl⟩
theorem ch_same {W : Addr → Prop} {H' : Hp} (lw : LW T W H) (s : Same H H') : Ch (fc K T none W H) H H' := ⟨fun b o n t h => s b o h, fun a t => tabG_same s (lw.t a t), fun v e => nomatch e⟩
mutual
theorem tt_da {W : Addr → Prop} : ∀ {v : V} {d : PyData}, Tt K H v d → Da W K H v d
  | _, _, .non => .non
  | _, _, .bl b => .bl b
  | _, _, .int i => .int i
  | _, _, .str x => .str x
  | _, _, .tup h r => .tup h (ttl_da r)
theorem ttl_da {W : Addr → Prop} : ∀ {vs : List V} {ds : List PyData}, TtL K H vs ds → DaL W K H vs ds
  | _, _, .nil => .nil
  | _, _, .cons h r => .cons (tt_da h) (ttl_da r)
end
theorem draw_w (h : spW K T 1 g_draw vs H Q E) : spDraw vs H Q E := by
  obtain ⟨w, W, ds, us, rfl, hw, wl, h1, lw, l, q⟩ := h
  obtain ⟨d, rfl⟩ := len1 l
  cases d with
  | int few =>
    cases h1 with | cons a r => cases r; cases a; exact ⟨w, few, rfl, q.1.1, q.1.2, wl, fun k k0 k1 H' kp wl' => q.2 _ ⟨k, k0, k1, rfl⟩ H' _ (ch_kp lw wl kp wl') (.int k)⟩
  | _ => exact q.elim
theorem numbers_w (h : spW K T 1 g_numbers vs H Q E) : spNumbers K vs H Q E := by
  obtain ⟨w, W, ds, us, rfl, hw, wl, h1, lw, l, q⟩ := h
  obtain ⟨d, rfl⟩ := len1 l
  cases d with
  | int few =>
    obtain ⟨⟨f0, f5⟩, q⟩ := q
    obtain ⟨n, rfl⟩ := Int.eq_ofNat_of_zero_le f0
    cases h1 with | cons a r => cases r; cases a; exact ⟨w, n, rfl, by omega, wl, fun qs hq ho H' v kp wl' t => q _ ⟨qs, by rw [hq], ho, rfl⟩ H' v (ch_kp lw wl kp wl') (tt_da t)⟩
  | _ => exact q.elim
theorem trial_w (h : spW K T 1 g_trialD vs H Q E) : spTrial K vs H Q E := by
  obtain ⟨w, W, ds, us, rfl, hw, wl, h1, lw, l, q⟩ := h
  obtain ⟨d, rfl⟩ := len1 l
  cases d with
  | int few =>
    by_cases c : few = 10
    · subst c
      cases h1 with | cons a r => cases r; cases a; exact ⟨w, 10, rfl, by decide, by decide, wl, fun t ht H' v kp wl' tt => q _ ⟨t, ht, rfl⟩ H' v (ch_kp lw wl kp wl') (tt_da tt)⟩
    · have e : g_trialD [.int few] = .fail := by
        unfold g_trialD
        split
        · rename_i z
          cases z
          exact absurd rfl c
        · rfl
      rw [e] at q
      exact q.elim
  | _ => exact q.elim
theorem lean_d (h : spD K T 2 g_lean vs H Q E) : spLean vs H Q E := by
  obtain ⟨W, ds, h1, lw, l, q⟩ := h
  obtain ⟨a, b, rfl⟩ := len2 l
  cases a with
  | int n =>
    cases b with
    | int d =>
      cases h1 with | cons a r => cases r with | cons b r => cases r; cases a; cases b; exact ⟨n, d, rfl, q.1.1, q.1.2, fun p hp => q.2 _ _ (ch_same lw (same_new hp)) (.tup (SqT.of upd_same) (.cons (.int _) (.cons (.int _) .nil)))⟩
    | _ => exact q.elim
  | _ => exact q.elim
end
end K2

set_option Elab.async false
set_option linter.all false
set_option maxRecDepth 100000
set_option maxHeartbeats 4000000
set_option autoImplicit false
namespace K2
open PySem PySem.Spec PyProof.Rows L2 RZ Gd Dl

theorem lev_ge {t : PyData} (h : trialB t = true) : 0 ≤ lev t ∧ lev t ≤ 5 := by
  obtain ⟨r, rows, s, b, rfl, _, _, _, _, _, _, hb⟩ := trial_cases h
  obtain ⟨ns, e, e2, q⟩ := blocks_ints hb
  subst e2
  cases ns with
  | nil => simp [lev, maxI]
  | cons n ns =>
    have : lev (PyData.tuple [PyData.tuple (PyData.tuple r :: rows), PyData.tuple s, PyData.tuple ((n :: ns).map PyData.int)]) = ns.foldl max n + 1 := by
      simp only [List.map_cons] at e ⊢
      simp [lev, maxI, e]
    rw [this]
    have h1 := fold_le (n := n) (m := 4) (ns := ns) (q n (List.mem_cons_self ..)).2 fun x hx => (q x (List.mem_cons_of_mem _ hx)).2
    have h2 : ∀ (ns : List Int) (n : Int), n ≤ ns.foldl max n := by
      intro ns
      induction ns with
      | nil => exact fun n => Int.le_refl n
      | cons a ns ih => exact fun n => by rw [List.foldl_cons]; have := ih (max n a); omega
    have h3 := h2 ns n
    have h4 := (q n (List.mem_cons_self ..)).1
    omega
theorem eq_worldD : ∀ ds p, ds.length = 1 → (g_worldD ds).run p → (fnW 0 bd__law_world.1 ds).run p := by
  intro ds p hl h
  obtain ⟨t, rfl⟩ := len1 hl
  obtain ⟨h1, h⟩ := h
  have lv := lev_ge h1
  have h1' := h1
  obtain ⟨r, rows, s, b, rfl, hr, _⟩ := trial_cases h1
  have h : ∀ d, (∃ v l : List (Int × Int), (v.length : Int) = (r.length : Int) ∧ (l.length : Int) = lev (.tuple [.tuple (.tuple r :: rows), .tuple s, .tuple b]) ∧ (∀ q ∈ v ++ l, NumOk q) ∧ d = .tuple [rowD v, rowD l]) → p d := h
  simp [fnD, fnW, sNext, sBrk, sCnt, sNever, thenO, sSeq, sIf, sRet, sRetN, sDrop, sRetO, bNm, bNil, bCons, bTup, sAsg, sOwn, sApp, sPar, sPar3, sParO, sFrz, nLst, mOfN, mCon, mVar, mPk, mUn, mOp, mNil, mCons, mTup, mLst, mFn, mAnd, mOr, mNot, mIf, mChn, tVal, tAndM, tOrM, tNotM, outD, o_len, o_eqX, o_neX, o_cmp, o_add, o_sub, o_neg, o_i2, o_ix, o_in, o_gcd, o_tuple, o_list, o_int, o_abs, mCut, pNone, pSome, tupB, intish, boolish, M.run_bind, M.run_ret, Gd.at_0, Gd.at_1, Gd.at_2, Gd.at_3, Gd.at_4, Gd.at_5, M.opt_some, bd__law_world, g_numbers, g_llev, h1']
  refine ⟨by omega, ?_⟩
  rintro _ v lv1 nv rfl
  refine ⟨lv, ?_⟩
  rintro _ l ll nl rfl
  exact h _ ⟨v, l, by omega, ll, fun q m => (List.mem_append.mp m).elim (fun m => nv q.1 q.2 m) fun m => nl q.1 q.2 m, rfl⟩
theorem eq_planted : ∀ ds p, ds.length = 1 → (g_planted ds).run p → (fnW 5 bd__law_planted.1 ds).run p := by
  intro ds p hl h
  obtain ⟨t, rfl⟩ := len1 hl
  obtain ⟨⟨t, ht, rfl⟩, h⟩ := h
  have h : ∀ d, smal d = true → p d := h
  have hp := ok_pl (k := 0) ht
  have n1 := ht.n1
  have n2 := ht.n2
  have ls := ht.spl
  have hs := smal_tup (pl_smal hp)
  have sr : smal (.tuple (t.rows.map rowD)) = true := hs _ (by simp)
  have ss : smal (rowD t.spreads) = true := hs _ (by simp)
  have sb : smal (.tuple (t.blocks.map .int)) = true := hs _ (by simp)
  have all3 : ∀ a b c : PyData, smal a = true → smal b = true → smal c = true → smal (.tuple [a, b, c]) = true := fun a b c ha hb hc => by simp [smal, smalL, ha, hb, hc]
  have rp : ∀ (n : Nat) (l : List PyData), (∀ d ∈ l, smal d = true) → smal (.tuple (List.replicate n l).flatten) = true := fun n l hl => tup_smal fun d m => by
    obtain ⟨x, hx, hd⟩ := List.mem_flatten.mp m
    exact hl d (by rw [(List.mem_replicate.mp hx).2] at hd; exact hd)
  have i2 : ∀ a b : Int, a.natAbs < 2 ^ 200 → b.natAbs < 2 ^ 200 → smal (.tuple [.int a, .int b]) = true := fun a b ha hb => by simp only [smal, smalL, decide_eq_true ha, decide_eq_true hb]; rfl
  have i12 : ∀ d ∈ [PyData.tuple [PyData.int 1, PyData.int 1]], smal d = true := fun d m => by rw [List.mem_singleton.mp m]; rfl
  have i12' : ∀ d ∈ [PyData.tuple [PyData.int 1, PyData.int 2]], smal d = true := fun d m => by rw [List.mem_singleton.mp m]; rfl
  have zer : ∀ {n : Nat} (d : PyData) (z : Int), z.natAbs < 2 ^ 200 → d ∈ List.replicate n (PyData.int 0) ++ [PyData.int z] → smal d = true := fun d z hz m => by
    rcases List.mem_append.mp m with m | m
    · rw [(List.mem_replicate.mp m).2]; rfl
    · rw [List.mem_singleton.mp m]; exact smal_int hz
  have cutw : ∀ {a b : Int} (d : PyData), d ∈ cutD (t.spreads.map frD) none (some (-1)) ++ [PyData.tuple [.int a, .int b]] → (a.natAbs < 2 ^ 200 ∧ b.natAbs < 2 ^ 200) → smal d = true := fun d m ab => by
    rcases List.mem_append.mp m with m | m
    · exact smal_tup ss d (mem_cut m)
    · rw [List.mem_singleton.mp m]; exact i2 _ _ ab.1 ab.2
  have cut1 := len_cut (t.rows.map rowD) none (some 1)
  have cut2 := len_cut (t.spreads.map frD) none (some (-1))
  rw [List.length_map] at cut1 cut2
  simp [fnD, fnW, sNext, sBrk, sCnt, sNever, thenO, sSeq, sIf, sRet, sRetN, sDrop, sRetO, bNm, bNil, bCons, bTup, sAsg, sOwn, sApp, sPar, sPar3, sParO, sFrz, nLst, mOfN, mCon, mVar, mPk, mUn, mOp, mNil, mCons, mTup, mLst, mFn, mAnd, mOr, mNot, mIf, mChn, tVal, tAndM, tOrM, tNotM, outD, o_len, o_eqX, o_neX, o_cmp, o_add, o_sub, o_neg, o_i2, o_ix, o_in, o_gcd, o_tuple, o_list, o_int, o_abs, mCut, pNone, pSome, tupB, intish, boolish, M.run_bind, M.run_ret, Gd.at_0, Gd.at_1, Gd.at_2, Gd.at_3, Gd.at_4, Gd.at_5, M.opt_some, bd__law_planted, g_draw, Trl.d, o_mulX, o_cut]
  rintro _ way h0 h5 rfl _ more m0 m2 rfl
  have hm : more = 0 ∨ more = 1 := by omega
  rcases lt5 h0 h5 with rfl | rfl | rfl | rfl | rfl <;> rcases hm with rfl | rfl <;> simp [rowD, fnD, fnW, sNext, sBrk, sCnt, sNever, thenO, sSeq, sIf, sRet, sRetN, sDrop, sRetO, bNm, bNil, bCons, bTup, sAsg, sOwn, sApp, sPar, sPar3, sParO, sFrz, nLst, mOfN, mCon, mVar, mPk, mUn, mOp, mNil, mCons, mTup, mLst, mFn, mAnd, mOr, mNot, mIf, mChn, tVal, tAndM, tOrM, tNotM, outD, o_len, o_eqX, o_neX, o_cmp, o_add, o_sub, o_neg, o_i2, o_ix, o_in, o_gcd, o_tuple, o_list, o_int, o_abs, mCut, pNone, pSome, tupB, intish, boolish, M.run_bind, M.run_ret, Gd.at_0, Gd.at_1, Gd.at_2, Gd.at_3, Gd.at_4, Gd.at_5, M.opt_some]
  · exact ⟨by omega, h _ (all3 _ _ _ (tup_smal fun d m => smal_tup sr d (mem_cut (lo := none) (hi := some 1) (by simpa using m))) rfl rfl)⟩
  · exact ⟨by omega, h _ (all3 _ _ _ (tup_smal fun d m => smal_tup sr d (mem_cut (lo := none) (hi := some 1) (by simpa using m))) rfl rfl)⟩
  · exact h _ rfl
  · exact h _ rfl
  · exact ⟨by omega, by omega, h _ (all3 _ _ _ sr ss (tup_smal fun d m => zer d 4 (by decide) m))⟩
  · exact ⟨by omega, by omega, h _ (all3 _ _ _ sr ss (tup_smal fun d m => zer d 5 (by decide) m))⟩
  · exact ⟨by omega, h _ (all3 _ _ _ sr (tup_smal fun d m => cutw d m (by decide)) sb)⟩
  · exact ⟨by omega, h _ (all3 _ _ _ sr (tup_smal fun d m => cutw d m (by decide)) sb)⟩
  · exact ⟨by omega, h _ (all3 _ _ _ sr ss (tup_smal fun d m => by rw [(List.mem_replicate.mp m).2]; rfl))⟩
  · exact ⟨by omega, h _ (all3 _ _ _ sr ss (tup_smal fun d m => by rw [(List.mem_replicate.mp m).2]; rfl))⟩
end K2

set_option Elab.async false
set_option linter.all false
set_option maxRecDepth 100000
set_option maxHeartbeats 4000000
set_option autoImplicit false
/-! Sz: data small enough to be printed. -/
namespace Gd
open PySem PySem.Spec PyProof.Rows L2 RZ
open PySem.PyData
/-- data that can be printed: ints of up to 121 bits, at most c cells, at most k deep -/
structure Sm (c k : Nat) (d : PyData) : Prop where
  sh : d.showable = true
  lv : d.leavesShort 130 = true
  bk : d.bulk ≤ c
  dp : d.depth ≤ k
structure SmL (n c k : Nat) (ds : List PyData) : Prop where
  len : ds.length ≤ n
  all : ∀ d ∈ ds, Sm c k d
theorem showAll : ∀ {ds : List PyData}, (∀ d ∈ ds, d.showable = true) → showableAll ds = true
  | [], _ => by simp [showableAll]
  | d :: ds, h => by
    simp only [showableAll, Bool.and_eq_true]
    exact ⟨h d (List.mem_cons_self ..), showAll fun x m => h x (List.mem_cons_of_mem _ m)⟩
theorem leavAll {B : Nat} : ∀ {ds : List PyData}, (∀ d ∈ ds, d.leavesShort B = true) → leavesShortAll B ds = true
  | [], _ => by simp [leavesShortAll]
  | d :: ds, h => by
    simp only [leavesShortAll, Bool.and_eq_true]
    exact ⟨h d (List.mem_cons_self ..), leavAll fun x m => h x (List.mem_cons_of_mem _ m)⟩
theorem bulkAll' {c : Nat} : ∀ {ds : List PyData}, (∀ d ∈ ds, d.bulk ≤ c) → bulkAll ds ≤ ds.length * (c + 1)
  | [], _ => by simp [bulkAll]
  | d :: ds, h => by
    have h1 := h d (List.mem_cons_self ..)
    have h2 := bulkAll' fun x m => h x (List.mem_cons_of_mem _ m)
    simp only [bulkAll, List.length_cons, Nat.succ_mul]
    omega
theorem depAll' {k : Nat} : ∀ {ds : List PyData}, (∀ d ∈ ds, d.depth ≤ k) → depthAll ds ≤ k
  | [], _ => by simp [depthAll]
  | d :: ds, h => by
    have h1 := h d (List.mem_cons_self ..)
    have h2 := depAll' fun x m => h x (List.mem_cons_of_mem _ m)
    simp only [depthAll]
    omega
section
variable {n c k : Nat} {ds : List PyData}
theorem SmL.b (h : SmL n c k ds) : bulkAll ds ≤ n * (c + 1) := Nat.le_trans (bulkAll' fun d m => (h.all d m).bk) (Nat.mul_le_mul_right _ h.len)
theorem SmL.tup (h : SmL n c k ds) : Sm (n * (c + 1)) (k + 1) (.tuple ds) := by
  refine ⟨?_, ?_, ?_, ?_⟩
  · simp only [showable]; exact showAll fun d m => (h.all d m).sh
  · simp only [leavesShort]; exact leavAll fun d m => (h.all d m).lv
  · simp only [bulk]; exact h.b
  · simp only [depth]
    have := depAll' fun d m => (h.all d m).dp
    omega
theorem SmL.lst (h : SmL n c k ds) : Sm (n * (c + 1)) (k + 1) (.list ds) := by
  refine ⟨?_, ?_, ?_, ?_⟩
  · simp only [showable]; exact showAll fun d m => (h.all d m).sh
  · simp only [leavesShort]; exact leavAll fun d m => (h.all d m).lv
  · simp only [bulk]; exact h.b
  · simp only [depth]
    have := depAll' fun d m => (h.all d m).dp
    omega
theorem Sm.up {c' k' : Nat} {d : PyData} (h : Sm c k d) (h1 : c ≤ c') (h2 : k ≤ k') : Sm c' k' d := ⟨h.sh, h.lv, Nat.le_trans h.bk h1, Nat.le_trans h.dp h2⟩
theorem Sm.fits {d : PyData} (h : Sm c k d) (hc : c ≤ 100000) : d.shown.length ≤ sizeLine := by
  have e := shown_le_bulk 130 (by decide) d h.lv
  have e2 : (130 + 2) * d.bulk ≤ 132 * 100000 := Nat.mul_le_mul_left _ (Nat.le_trans h.bk hc)
  rw [sizeLine_eq]
  omega
theorem sm_int {i : Int} (h : i.natAbs < 2 ^ 120) : Sm 0 0 (.int i) := by
  have l : i.natAbs.log2 < 121 := by
    by_cases z : i.natAbs = 0
    · rw [z]; decide
    · exact (Nat.log2_lt z).mpr (Nat.lt_of_lt_of_le h (Nat.pow_le_pow_right (by decide) (by decide)))
  refine ⟨?_, ?_, ?_, ?_⟩
  · simp only [showable, decide_eq_true_eq]
    omega
  · simp only [leavesShort, decide_eq_true_eq]
    have e := int_text_length_le (k := 121) (by decide) l
    rw [shown_int, PySem.ofString_length]
    omega
  · simp [bulk]
  · simp [depth]
/-- n of a small datum in a list -/
theorem Sm.reps {d : PyData} (h : Sm 2000 20 d) {n : Nat} (hn : n ≤ 11) : (PyData.list (List.replicate n d)).showable = true ∧ (PyData.list (List.replicate n d)).depth ≤ 100 ∧ (PyData.list (List.replicate n d)).shown.length ≤ sizeLine := by
  have q : Sm (n * 2001) 21 (.list (List.replicate n d)) := SmL.lst (n := n) (c := 2000) (k := 20) ⟨by rw [List.length_replicate]; exact Nat.le_refl _, fun x m => by rw [(List.mem_replicate.mp m).2]; exact h⟩
  exact ⟨q.sh, Nat.le_trans q.dp (by decide), q.fits (by omega)⟩
theorem sm_fr {q : Int × Int} (h : q.1.natAbs < 2 ^ 120 ∧ q.2.natAbs < 2 ^ 120) : Sm 2 1 (frD q) := by
  refine SmL.tup (n := 2) (c := 0) (k := 0) ⟨by simp, fun d m => ?_⟩
  simp only [List.mem_cons, List.not_mem_nil, or_false] at m
  rcases m with rfl | rfl
  · exact sm_int h.1
  · exact sm_int h.2
theorem sm_row {qs : List (Int × Int)} {n : Nat} (hn : qs.length ≤ n) (h : ∀ q ∈ qs, q.1.natAbs < 2 ^ 120 ∧ q.2.natAbs < 2 ^ 120) : Sm (n * 3) 2 (rowD qs) := by
  refine SmL.tup (n := n) (c := 2) (k := 1) ⟨by rw [List.length_map]; exact hn, fun d m => ?_⟩
  obtain ⟨q, hq, rfl⟩ := List.mem_map.mp m
  exact sm_fr (h q hq)
theorem Trl.Ok.sm {t : Trl} {most : Nat} (h : t.Ok most) (hm : most ≤ 10) : Sm 2000 20 t.d := by
  obtain ⟨k, k1, k5, hk⟩ := h.wide
  have n2 := h.n2
  have r : Sm (10 * 16) 3 (.tuple (t.rows.map rowD)) := by
    refine SmL.tup (n := 10) (c := 15) (k := 2) ⟨by rw [List.length_map]; omega, fun d m => ?_⟩
    obtain ⟨q, hq, rfl⟩ := List.mem_map.mp m
    exact sm_row (n := 5) (by rw [hk q hq]; exact k5) fun x hx => (h.ent q hq x hx).lt (Nat.le_refl _)
  have s : Sm (10 * 3) 2 (rowD t.spreads) := sm_row (by rw [h.spl]; omega) fun x hx => by
    have q := h.spr x hx
    unfold SprOk at q
    simp only [List.mem_cons, List.not_mem_nil, or_false] at q
    rcases q with rfl | rfl | rfl | rfl | rfl <;> constructor <;> decide
  have b : Sm (10 * 1) 1 (.tuple (t.blocks.map .int)) := by
    refine SmL.tup (n := 10) (c := 0) (k := 0) ⟨?_, fun d m => ?_⟩
    · rw [List.length_map]
      rcases h.bl with e | e
      · rw [e]; simp
      · omega
    · obtain ⟨q, hq, rfl⟩ := List.mem_map.mp m
      rcases h.bl with e | e
      · rw [e] at hq; cases hq
      · have := e.2 q hq
        refine sm_int (Nat.lt_of_lt_of_le (show q.natAbs < 5 by omega) ?_)
        decide
  refine (SmL.tup (n := 3) (c := 160) (k := 3) ⟨by simp, fun d m => ?_⟩).up (by decide) (by decide)
  simp only [List.mem_cons, List.not_mem_nil, or_false] at m
  rcases m with rfl | rfl | rfl
  · exact r
  · exact s.up (by decide) (by decide)
  · exact b.up (by decide) (by decide)
end
end Gd

set_option Elab.async false
set_option linter.all false
set_option maxRecDepth 100000
set_option maxHeartbeats 4000000
set_option autoImplicit false
namespace K2
open PySem PySem.Spec PyProof.Rows L2 RZ Gd Dl

theorem repr_ok (l : List PyData) (h : (PyData.list l).showable = true ∧ (PyData.list l).depth ≤ 100 ∧ (PyData.list l).shown.length ≤ sizeLine) : o_repr (.list l) = .ret (.str (PyData.list l).shown) := by
  unfold o_repr
  exact M.gd_true h _
theorem sm_bool (b : Bool) : Sm 0 0 (.bool b) := by
  refine ⟨rfl, ?_, ?_, ?_⟩
  · cases b <;> decide +kernel
  · simp [PyData.bulk]
  · simp [PyData.depth]
theorem repr2 {a : PyData} (h : Sm 0 0 a) : o_repr (.list [a, a]) = .ret (.str (PyData.list [a, a]).shown) := by
  have h' : Sm 2000 20 a := h.up (by decide) (by decide)
  exact repr_ok _ (Sm.reps h' (n := 2) (by decide))
theorem repr_bb (b : Bool) : o_repr (.list [.bool b, .bool b]) = .ret (.str (PyData.list [.bool b, .bool b]).shown) := repr2 (sm_bool b)
theorem repr_ii {i : Int} (h : i.natAbs < 2 ^ 120) : o_repr (.list [.int i, .int i]) = .ret (.str (PyData.list [.int i, .int i]).shown) := repr2 (sm_int h)
theorem loop_end {I : Nat → List Cell → Prop} {n : Nat} {Q : List Cell → Prop} {R : PyData → Prop} (hq : ∀ Γ, I n Γ → Q Γ) : ∀ o, LoopO (fun Γ => I n Γ ∨ False) (fun _ => False) o → LoopO Q R o
  | .nx Γ, q => hq Γ (q.resolve_right id)
  | .rt d, q => q.elim
  | .bk Γ, q => q.elim
  | .ct Γ, q => q.elim
theorem loop_t {b : Bg} {g : Sg} {ds : List PyData} {Γ : List Cell} (I : List Cell → Prop) {Q : List Cell → Prop} {R : PyData → Prop} (h0 : I Γ) (h : ∀ d Γ, d ∈ ds → I Γ → (b d Γ).run fun Γ1 => (g Γ1).run (TurnO I (fun _ => False) fun _ => False)) (hq : ∀ Γ, I Γ → Q Γ) : (forL b g ds Γ).run (LoopO Q R) :=
  M.mono _ (loop_end (I := fun _ => I) (n := ds.length) hq) (forL_inv (fun _ => False) (fun _ => False) (fun _ => I) (fun i d Γ e hi => h d Γ (List.mem_of_getElem? e) hi) Γ h0)
theorem sm0_int {i : Int} (h : i.natAbs < 2 ^ 120) : o_repr (.list [.int i, .int i]) = .ret (.str (PyData.list [.int i, .int i]).shown) := repr_ii h
def R1 (t : PyData) (L : List PyData) (Γ : List Cell) : Prop := ∃ c1 c4 c5 c6 c7, Γ = [.well, c1, .im t, .im (.list L), c4, c5, c6, c7]
def R2' (t : PyData) (w a : PyData) (L : List PyData) (Γ : List Cell) : Prop := ∃ c1 c4 c5, Γ = [.well, c1, .im t, .im (.list L), c4, c5, .im w, .im a]
theorem eq_right : ∀ ds p, ds.length = 0 → (g_right ds).run p → (fnW 7 bd__law_right.1 ds).run p := by
  intro ds p hl h
  obtain rfl : ds = [] := List.eq_nil_of_length_eq_zero hl
  have h : p (.bool true) := h
  show (bd__law_right.1 (.well :: List.replicate 7 .un)).run fun o => (outD o).run p
  unfold bd__law_right
  refine seq_run (fun Γ => ∃ c1 c2 c3 c4 c5 c6 c7, Γ = [.well, c1, c2, c3, c4, c5, c6, c7]) ?_ ?_
  · refine for_run ?_
    simp only [sRg1, mCons, mNil, mCon, M.ret_bind, M.run_bind, M.run_gd, M.run_ret]
    refine ⟨by decide, loop_t (fun Γ => ∃ c1 c2 c3 c4 c5 c6 c7, Γ = [.well, c1, c2, c3, c4, c5, c6, c7]) ⟨_, _, _, _, _, _, _, rfl⟩ ?_ fun Γ q => q⟩
    rintro x Γ - ⟨c1, c2, c3, c4, c5, c6, c7, rfl⟩
    simp only [bNm, M.run_ret, List.set_cons_succ, List.set_cons_zero]
    refine seq_run (fun Γ => ∃ t : Trl, t.Ok 10 ∧ ∃ c1 c3 c4 c5 c6 c7, Γ = [.well, c1, .im t.d, c3, c4, c5, c6, c7]) ?_ ?_
    · simp [fnD, fnW, sNext, sBrk, sCnt, sNever, thenO, sSeq, sIf, sRet, sRetN, sDrop, sRetO, bNm, bNil, bCons, bTup, sAsg, sOwn, sApp, sPar, sPar3, sParO, sFrz, nLst, mOfN, mCon, mVar, mPk, mUn, mOp, mNil, mCons, mTup, mLst, mFn, mAnd, mOr, mNot, mIf, mChn, tVal, tAndM, tOrM, tNotM, outD, o_len, o_eqX, o_neX, o_cmp, o_add, o_sub, o_neg, o_i2, o_ix, o_in, o_gcd, o_tuple, o_list, o_int, o_abs, mCut, pNone, pSome, tupB, intish, boolish, M.run_bind, M.run_ret, Gd.at_0, Gd.at_1, Gd.at_2, Gd.at_3, Gd.at_4, Gd.at_5, M.opt_some, LoopO, g_trialD]
      try exact fun t ht => ⟨t, ht, rfl⟩
    rintro _ ⟨t, ht, c1, c3, c4, c5, c6, c7, rfl⟩
    have hT := ok_trial ht
    have hP := ok_pl (k := 2) ht
    refine seq_run (fun Γ => ∃ L : List PyData, (∀ d ∈ L, smal d = true) ∧ L.length = 4 ∧ R1 t.d L Γ) ?_ ?_
    · simp [fnD, fnW, sNext, sBrk, sCnt, sNever, thenO, sSeq, sIf, sRet, sRetN, sDrop, sRetO, bNm, bNil, bCons, bTup, sAsg, sOwn, sApp, sPar, sPar3, sParO, sFrz, nLst, mOfN, mCon, mVar, mPk, mUn, mOp, mNil, mCons, mTup, mLst, mFn, mAnd, mOr, mNot, mIf, mChn, tVal, tAndM, tOrM, tNotM, outD, o_len, o_eqX, o_neX, o_cmp, o_add, o_sub, o_neg, o_i2, o_ix, o_in, o_gcd, o_tuple, o_list, o_int, o_abs, mCut, pNone, pSome, tupB, intish, boolish, M.run_bind, M.run_ret, Gd.at_0, Gd.at_1, Gd.at_2, Gd.at_3, Gd.at_4, Gd.at_5, M.opt_some, LoopO, g_bent, g_maybe, g_odd, hP]
      intro a ha b hb e he
      exact ⟨[t.d, a, b, e], by simp [pl_smal hP, ha, hb, he], rfl, _, _, _, _, _, rfl⟩
    rintro _ ⟨L, hL, lL, c1, c4, c5, c6, c7, rfl⟩
    refine seq_run (R1 t.d L) ?_ ?_
    · refine for_run ?_
      simp [fnD, fnW, sNext, sBrk, sCnt, sNever, thenO, sSeq, sIf, sRet, sRetN, sDrop, sRetO, bNm, bNil, bCons, bTup, sAsg, sOwn, sApp, sPar, sPar3, sParO, sFrz, nLst, mOfN, mCon, mVar, mPk, mUn, mOp, mNil, mCons, mTup, mLst, mFn, mAnd, mOr, mNot, mIf, mChn, tVal, tAndM, tOrM, tNotM, outD, o_len, o_eqX, o_neX, o_cmp, o_add, o_sub, o_neg, o_i2, o_ix, o_in, o_gcd, o_tuple, o_list, o_int, o_abs, mCut, pNone, pSome, tupB, intish, boolish, M.run_bind, M.run_ret, Gd.at_0, Gd.at_1, Gd.at_2, Gd.at_3, Gd.at_4, Gd.at_5, M.opt_some, sLs, g_planted, lL]
      refine ⟨⟨t, ht, rfl⟩, fun a ha => loop_t (R1 t.d L) ⟨_, _, _, _, _, rfl⟩ ?_ fun Γ q => q⟩
      rintro d Γ hd ⟨c1, c4, c5, c6, c7, rfl⟩
      have sd : smal d = true := by
        rcases List.mem_append.mp hd with m | m
        · exact hL d m
        · rw [List.mem_singleton.mp m]; exact ha
      by_cases hT' : trialB d = true
      · have lv := lev_ge hT'
        have lv2 : (lev d).natAbs < 2 ^ 120 := by
          have e : (6 : Nat) < 2 ^ 120 := by decide
          omega
        simp [fnD, fnW, sNext, sBrk, sCnt, sNever, thenO, sSeq, sIf, sRet, sRetN, sDrop, sRetO, bNm, bNil, bCons, bTup, sAsg, sOwn, sApp, sPar, sPar3, sParO, sFrz, nLst, mOfN, mCon, mVar, mPk, mUn, mOp, mNil, mCons, mTup, mLst, mFn, mAnd, mOr, mNot, mIf, mChn, tVal, tAndM, tOrM, tNotM, outD, o_len, o_eqX, o_neX, o_cmp, o_add, o_sub, o_neg, o_i2, o_ix, o_in, o_gcd, o_tuple, o_list, o_int, o_abs, mCut, pNone, pSome, tupB, intish, boolish, M.run_bind, M.run_ret, Gd.at_0, Gd.at_1, Gd.at_2, Gd.at_3, Gd.at_4, Gd.at_5, M.opt_some, TurnO, g_ltrial, g_trial, g_count, g_llev, sd, hT', repr_bb, repr_ii lv2, o_mulX, List.replicate]
        exact ⟨_, _, _, _, _, rfl⟩
      · have hT2 : trialB d = false := by simpa using hT'
        simp [fnD, fnW, sNext, sBrk, sCnt, sNever, thenO, sSeq, sIf, sRet, sRetN, sDrop, sRetO, bNm, bNil, bCons, bTup, sAsg, sOwn, sApp, sPar, sPar3, sParO, sFrz, nLst, mOfN, mCon, mVar, mPk, mUn, mOp, mNil, mCons, mTup, mLst, mFn, mAnd, mOr, mNot, mIf, mChn, tVal, tAndM, tOrM, tNotM, outD, o_len, o_eqX, o_neX, o_cmp, o_add, o_sub, o_neg, o_i2, o_ix, o_in, o_gcd, o_tuple, o_list, o_int, o_abs, mCut, pNone, pSome, tupB, intish, boolish, M.run_bind, M.run_ret, Gd.at_0, Gd.at_1, Gd.at_2, Gd.at_3, Gd.at_4, Gd.at_5, M.opt_some, TurnO, g_ltrial, g_trial, sd, hT2, repr_bb]
        exact ⟨_, _, _, _, _, rfl⟩
    rintro _ ⟨c1, c4, c5, c6, c7, rfl⟩
    have hT0 := hT
    obtain ⟨r, rows, s, b, eT, hr, _⟩ := trial_cases hT
    have uk : unk t.d = r.length := by rw [eT]; rfl
    refine seq_run (fun Γ => ∃ (wv wl aq : List (Int × Int)), (wv.length : Int) = unk t.d ∧ (wl.length : Int) = lev t.d ∧ (aq.length : Int) = r.length ∧ (∀ q ∈ wv ++ wl, NumOk q) ∧ (∀ q ∈ aq, NumOk q) ∧ ∃ c1 c3 c4 c5, Γ = [.well, c1, .im t.d, c3, c4, c5, .im (.tuple [rowD wv, rowD wl]), .im (rowD aq)]) ?_ ?_
    · simp [fnD, fnW, sNext, sBrk, sCnt, sNever, thenO, sSeq, sIf, sRet, sRetN, sDrop, sRetO, bNm, bNil, bCons, bTup, sAsg, sOwn, sApp, sPar, sPar3, sParO, sFrz, nLst, mOfN, mCon, mVar, mPk, mUn, mOp, mNil, mCons, mTup, mLst, mFn, mAnd, mOr, mNot, mIf, mChn, tVal, tAndM, tOrM, tNotM, outD, o_len, o_eqX, o_neX, o_cmp, o_add, o_sub, o_neg, o_i2, o_ix, o_in, o_gcd, o_tuple, o_list, o_int, o_abs, mCut, pNone, pSome, tupB, intish, boolish, M.run_bind, M.run_ret, Gd.at_0, Gd.at_1, Gd.at_2, Gd.at_3, Gd.at_4, Gd.at_5, M.opt_some, LoopO, g_worldD, g_numbers, hT0]
      rw [eT]
      rintro _ wv l1 wl l2 nw rfl
      simp only [Gd.at_0, M.opt_some, M.run_ret, M.run_bind, M.run_gd, M.run_any]
      refine ⟨by omega, ?_⟩
      rintro _ ⟨aq, l3, na, rfl⟩
      exact ⟨wv, l1, wl, l2, aq, l3, nw, na, rfl, rfl⟩
    rintro _ ⟨wv, wl, aq, l1, l2, l3, nw, na, c1, c3, c4, c5, rfl⟩
    have pw : Pl 6 (.tuple [rowD wv, rowD wl]) := by
      have lv := lev_ge hT0
      refine ⟨by simp, fun d m => ?_⟩
      simp only [List.mem_cons, List.not_mem_nil, or_false] at m
      rcases m with rfl | rfl
      · exact pl_row (by omega) fun q m => num_lt (nw q (List.mem_append_left _ m))
      · exact pl_row (by omega) fun q m => num_lt (nw q (List.mem_append_right _ m))
    have pa : Pl 6 (rowD aq) := pl_row (by omega) fun q m => num_lt (na q m)
    refine seq_run (fun Γ => ∃ L : List PyData, (∀ d ∈ L, smal d = true) ∧ L.length = 4 ∧ R2' t.d (.tuple [rowD wv, rowD wl]) (rowD aq) L Γ) ?_ ?_
    · simp [fnD, fnW, sNext, sBrk, sCnt, sNever, thenO, sSeq, sIf, sRet, sRetN, sDrop, sRetO, bNm, bNil, bCons, bTup, sAsg, sOwn, sApp, sPar, sPar3, sParO, sFrz, nLst, mOfN, mCon, mVar, mPk, mUn, mOp, mNil, mCons, mTup, mLst, mFn, mAnd, mOr, mNot, mIf, mChn, tVal, tAndM, tOrM, tNotM, outD, o_len, o_eqX, o_neX, o_cmp, o_add, o_sub, o_neg, o_i2, o_ix, o_in, o_gcd, o_tuple, o_list, o_int, o_abs, mCut, pNone, pSome, tupB, intish, boolish, M.run_bind, M.run_ret, Gd.at_0, Gd.at_1, Gd.at_2, Gd.at_3, Gd.at_4, Gd.at_5, M.opt_some, LoopO, g_bent, g_maybe, g_odd, pw]
      intro a ha b hb e he
      exact ⟨[_, a, b, e], by simp [pl_smal pw, ha, hb, he], rfl, _, _, _, rfl⟩
    rintro _ ⟨L2, hL2, lL2, c1, c4, c5, rfl⟩
    refine seq_run (R2' t.d (.tuple [rowD wv, rowD wl]) (rowD aq) L2) ?_ ?_
    · refine for_run ?_
      simp [fnD, fnW, sNext, sBrk, sCnt, sNever, thenO, sSeq, sIf, sRet, sRetN, sDrop, sRetO, bNm, bNil, bCons, bTup, sAsg, sOwn, sApp, sPar, sPar3, sParO, sFrz, nLst, mOfN, mCon, mVar, mPk, mUn, mOp, mNil, mCons, mTup, mLst, mFn, mAnd, mOr, mNot, mIf, mChn, tVal, tAndM, tOrM, tNotM, outD, o_len, o_eqX, o_neX, o_cmp, o_add, o_sub, o_neg, o_i2, o_ix, o_in, o_gcd, o_tuple, o_list, o_int, o_abs, mCut, pNone, pSome, tupB, intish, boolish, M.run_bind, M.run_ret, Gd.at_0, Gd.at_1, Gd.at_2, Gd.at_3, Gd.at_4, Gd.at_5, M.opt_some, sLs, lL2]
      have lv := lev_ge hT0
      have sw := smal_tup (pl_smal pw)
      have eW : rowD wl = .tuple (wl.map frD) := rfl
      rw [eW] at sw ⊢
      simp only [M.run_bind, M.run_gd, M.run_ret, List.length_map, List.length_cons, List.length_nil]
      refine ⟨by omega, loop_t (R2' t.d (.tuple [rowD wv, .tuple (wl.map frD)]) (rowD aq) L2) ⟨_, _, _, rfl⟩ ?_ fun Γ q => q⟩
      rintro d Γ hd ⟨c1, c4, c5, rfl⟩
      have sd : smal d = true := by
        rcases List.mem_append.mp hd with m | m
        · exact hL2 d m
        · rw [List.mem_singleton.mp m]
          refine tup_smal fun x m => ?_
          simp only [List.mem_cons, List.not_mem_nil, or_false] at m
          rcases m with rfl | rfl
          · exact sw _ (by simp)
          · refine tup_smal fun x m => ?_
            rcases List.mem_append.mp m with m | m
            · exact smal_tup (sw (.tuple (wl.map frD)) (by simp)) x m
            · rw [List.mem_singleton.mp m]; rfl
      simp [fnD, fnW, sNext, sBrk, sCnt, sNever, thenO, sSeq, sIf, sRet, sRetN, sDrop, sRetO, bNm, bNil, bCons, bTup, sAsg, sOwn, sApp, sPar, sPar3, sParO, sFrz, nLst, mOfN, mCon, mVar, mPk, mUn, mOp, mNil, mCons, mTup, mLst, mFn, mAnd, mOr, mNot, mIf, mChn, tVal, tAndM, tOrM, tNotM, outD, o_len, o_eqX, o_neX, o_cmp, o_add, o_sub, o_neg, o_i2, o_ix, o_in, o_gcd, o_tuple, o_list, o_int, o_abs, mCut, pNone, pSome, tupB, intish, boolish, M.run_bind, M.run_ret, Gd.at_0, Gd.at_1, Gd.at_2, Gd.at_3, Gd.at_4, Gd.at_5, M.opt_some, TurnO, g_lworld, g_worldOf, hT0, sd, repr_bb]
      exact ⟨_, _, _, rfl⟩
    rintro _ ⟨c1, c4, c5, rfl⟩
    refine for_run ?_
    simp [fnD, fnW, sNext, sBrk, sCnt, sNever, thenO, sSeq, sIf, sRet, sRetN, sDrop, sRetO, bNm, bNil, bCons, bTup, sAsg, sOwn, sApp, sPar, sPar3, sParO, sFrz, nLst, mOfN, mCon, mVar, mPk, mUn, mOp, mNil, mCons, mTup, mLst, mFn, mAnd, mOr, mNot, mIf, mChn, tVal, tAndM, tOrM, tNotM, outD, o_len, o_eqX, o_neX, o_cmp, o_add, o_sub, o_neg, o_i2, o_ix, o_in, o_gcd, o_tuple, o_list, o_int, o_abs, mCut, pNone, pSome, tupB, intish, boolish, M.run_bind, M.run_ret, Gd.at_0, Gd.at_1, Gd.at_2, Gd.at_3, Gd.at_4, Gd.at_5, M.opt_some, sTs, g_bent, g_maybe, g_odd, pa]
    intro a ha b hb e he
    have sa := pl_smal pa
    have eA : rowD aq = .tuple (aq.map frD) := rfl
    rw [eA] at sa ⊢
    simp only [M.run_bind, M.run_gd, M.run_ret, List.length_map, List.length_cons, List.length_nil]
    refine ⟨by omega, ?_⟩
    refine M.mono _ ?_ (loop_t (R2' t.d (.tuple [rowD wv, rowD wl]) (.tuple (aq.map frD)) L2) (Q := R2' t.d (.tuple [rowD wv, rowD wl]) (.tuple (aq.map frD)) L2) (R := fun _ => False) ⟨_, _, _, rfl⟩ ?_ fun Γ q => q)
    · intro o q
      cases o with
      | nx Γ =>
        obtain ⟨c1, c4, c5, rfl⟩ := q
        exact ⟨_, _, _, _, _, _, _, rfl⟩
      | _ => exact q.elim
    rintro d Γ hd ⟨c1, c4, c5, rfl⟩
    have sd : smal d = true := by
      simp only [List.mem_cons, List.not_mem_nil, or_false] at hd
      rcases hd with rfl | rfl | rfl | rfl | rfl
      · exact sa
      · exact ha
      · exact hb
      · exact he
      · refine tup_smal fun x m => ?_
        rcases List.mem_append.mp m with m | m
        · exact smal_tup sa x m
        · rw [List.mem_singleton.mp m]; rfl
    have n5 : ((r.length : Int) ≤ 1000) := by omega
    have uk2 : unk t.d = (aq.length : Int) := by rw [uk, l3]
    have n6 : ((aq.length : Int) ≤ 1000) := by omega
    have n7 : aq.length ≤ 1000 := by omega
    simp [fnD, fnW, sNext, sBrk, sCnt, sNever, thenO, sSeq, sIf, sRet, sRetN, sDrop, sRetO, bNm, bNil, bCons, bTup, sAsg, sOwn, sApp, sPar, sPar3, sParO, sFrz, nLst, mOfN, mCon, mVar, mPk, mUn, mOp, mNil, mCons, mTup, mLst, mFn, mAnd, mOr, mNot, mIf, mChn, tVal, tAndM, tOrM, tNotM, outD, o_len, o_eqX, o_neX, o_cmp, o_add, o_sub, o_neg, o_i2, o_ix, o_in, o_gcd, o_tuple, o_list, o_int, o_abs, mCut, pNone, pSome, tupB, intish, boolish, M.run_bind, M.run_ret, Gd.at_0, Gd.at_1, Gd.at_2, Gd.at_3, Gd.at_4, Gd.at_5, M.opt_some, TurnO, g_lrow, g_quest, hT0, sd, repr_bb, uk2, n6, n7]
    exact ⟨_, _, _, rfl⟩
  · intro Γ _
    simp [fnD, fnW, sNext, sBrk, sCnt, sNever, thenO, sSeq, sIf, sRet, sRetN, sDrop, sRetO, bNm, bNil, bCons, bTup, sAsg, sOwn, sApp, sPar, sPar3, sParO, sFrz, nLst, mOfN, mCon, mVar, mPk, mUn, mOp, mNil, mCons, mTup, mLst, mFn, mAnd, mOr, mNot, mIf, mChn, tVal, tAndM, tOrM, tNotM, outD, o_len, o_eqX, o_neX, o_cmp, o_add, o_sub, o_neg, o_i2, o_ix, o_in, o_gcd, o_tuple, o_list, o_int, o_abs, mCut, pNone, pSome, tupB, intish, boolish, M.run_bind, M.run_ret, Gd.at_0, Gd.at_1, Gd.at_2, Gd.at_3, Gd.at_4, Gd.at_5, M.opt_some]
    exact h
end K2

set_option Elab.async false
set_option linter.all false
set_option maxRecDepth 100000
set_option maxHeartbeats 4000000
set_option autoImplicit false
namespace K1
open PySem PySem.Spec PyProof.Rows L2 RZ Gd
local macro_rules | `(tactic| wtm_at "ix") => `(tactic| first | exact at_0 | exact at_1 | exact at_2 | exact at_3 | exact at_4 | exact at_5 | exact ix_0 | exact ix_1 | exact ix_2 | exact ix_3)
local macro_rules | `(tactic| wtm_at "st") => `(tactic| first | assumption | exact upd_same | (with_reducible refine' hold_new ?hA ?hB; (case hB => assumption); (case hA => wtm_at "st")))
local macro_rules | `(tactic| wtm_at "rl") => `(tactic| first | assumption | (refine' SqL.of ?hC; (case hC => wtm_at "st")) | (refine' SqT.of ?hC; (case hC => wtm_at "st")))
local macro_rules | `(tactic| wtm_at "rd") => `(tactic| first
  | with_reducible refine w_seq ?_
  | with_reducible refine w_asg ?_
  | with_reducible refine w_ret ?_
  | with_reducible refine w_op ?_
  | with_reducible refine w_cb ?_
  | with_reducible refine w_cons ?_
  | with_reducible refine w_nil ?_
  | with_reducible refine w_c ?_
  | with_reducible refine w_if ?_
  | with_reducible refine w_test ?_
  | with_reducible refine w_un ?_
  | with_reducible refine w_tup ?_
  | with_reducible refine w_lst ?_
  | with_reducible refine w_call ?_
  | with_reducible refine w_and ?_
  | with_reducible refine w_or ?_
  | with_reducible refine w_not ?_
  | with_reducible refine w_ife ?_
  | with_reducible refine w_tB ?_
  | with_reducible refine w_andV ?_
  | with_reducible refine w_orV ?_
  | with_reducible refine w_notV ?_
  | with_reducible refine w_sub ?_
  | with_reducible refine w_gcons ?_
  | with_reducible refine w_gnil ?_
  | with_reducible refine w_next ?_
  | with_reducible refine w_drop ?_
  | with_reducible refine w_retN ?_
  | with_reducible refine w_brk ?_
  | with_reducible refine w_cont ?_
  | with_reducible refine w_bl ?_
  | with_reducible refine w_gt ?_
  | with_reducible refine w_ge ?_
  | with_reducible refine w_lt ?_
  | with_reducible refine w_le ?_
  | with_reducible refine w_subI ?_
  | with_reducible refine w_neg ?_
  | with_reducible refine w_addI ?_
  | with_reducible refine w_int ?_
  | with_reducible refine w_intB ?_
  | with_reducible refine w_abs ?_
  | with_reducible refine w_iteT ?_
  | with_reducible refine w_iteF ?_
  | with_reducible refine w_par ?_
  | with_reducible refine w_par3 ?_
  | with_reducible refine w_sl ?_
  | with_reducible refine w_nop ?_
  | with_reducible refine w_part ?_
  | with_reducible refine w_vint ?_
  | with_reducible refine w_vbl2 ?_
  | with_reducible refine w_vbl3 ?_
  | with_reducible refine w_lc ?_
  | with_reducible refine w_list ?_
  | with_reducible refine w_enum ?_
  | with_reducible refine w_fld ?_
  | with_reducible refine w_mk ?_
  | with_reducible refine w_yes ?_
  | with_reducible refine w_iz ?_
  | with_reducible refine w_var0 ?_
  | with_reducible refine w_var1 ?_
  | with_reducible refine w_var2 ?_
  | with_reducible refine w_var3 ?_
  | with_reducible refine w_var4 ?_
  | with_reducible refine w_var5 ?_
  | with_reducible refine w_var6 ?_
  | with_reducible refine w_var7 ?_
  | with_reducible refine w_var8 ?_
  | with_reducible refine w_var9 ?_
  | with_reducible refine w_var10 ?_
  | with_reducible refine w_var11 ?_
  | with_reducible refine w_var12 ?_
  | with_reducible refine w_var13 ?_
  | with_reducible refine w_var14 ?_
  | with_reducible refine w_var15 ?_
  | with_reducible refine w_nam0 ?_
  | with_reducible refine w_nam1 ?_
  | with_reducible refine w_nam2 ?_
  | with_reducible refine w_nam3 ?_
  | with_reducible refine w_nam4 ?_
  | with_reducible refine w_nam5 ?_
  | with_reducible refine w_nam6 ?_
  | with_reducible refine w_nam7 ?_
  | with_reducible refine w_nam8 ?_
  | with_reducible refine w_nam9 ?_
  | with_reducible refine w_nam10 ?_
  | with_reducible refine w_nam11 ?_
  | with_reducible refine w_nam12 ?_
  | with_reducible refine w_nam13 ?_
  | with_reducible refine w_nam14 ?_
  | with_reducible refine w_nam15 ?_
  | (with_reducible refine' w_eqS ?hs ?_; (case hs => with_unfolding_all rfl))
  | (with_reducible refine' w_neS ?hs ?_; (case hs => with_unfolding_all rfl))
  | (with_reducible refine' w_len ?hs ?_; (case hs => (simp only [List.length_cons, List.length_nil]; omega)))
  | (with_reducible refine' w_slL ?hs ?_; (case hs => wtm_at "rl"))
  | (with_reducible refine' w_mulI ?hs ?_; (case hs => (first | (refine cmul_r ?_; (constructor <;> omega)) | (refine cmul_l ?_; (constructor <;> omega)) | assumption)))
  | (with_reducible refine' w_mod ?hs ?_; (case hs => (first | omega | assumption)))
  | (with_reducible refine' w_div ?hs ?_; (case hs => (first | assumption | (refine cdiv_s ?_ ?_ <;> omega))))
  | (with_reducible refine' w_ixL ?hs ?ht ?_; (case hs => wtm_at "rl"); (case ht => wtm_at "ix"))
  | (with_reducible refine' w_ixT ?hs ?ht ?_; (case hs => wtm_at "rl"); (case ht => wtm_at "ix"))
  | (with_reducible refine' w_set0 ?hs ?_; (case hs => wtm_at "st"))
  | (with_reducible refine' w_set1 ?hs ?_; (case hs => wtm_at "st"))
  | (with_reducible refine' w_set2 ?hs ?_; (case hs => wtm_at "st"))
  | (with_reducible refine' w_lenL ?hs ?_; (case hs => wtm_at "rl"))
  | (with_reducible refine' w_lenT ?hs ?_; (case hs => wtm_at "rl"))
  | (with_reducible refine' w_gtup ?hs ?ht ?_; (case hs => wtm_at "rl"); (case ht => with_unfolding_all rfl))
  | rw [List.set_cons_zero]
  | rw [List.set_cons_succ]
  | rw [Bool.not_true]
  | rw [Bool.not_false])
local macro_rules | `(tactic| wtm_at "go") => `(tactic| repeat wtm_at "rd")
section
variable {P : Program} {w : World} {K : PySem.W.Frag} {mg : Str → Option Value} {base : Heap}
open Dl
local macro_rules | `(tactic| wtm_at "rs") => `(tactic| first
  | with_reducible refine w_seq ?_
  | with_reducible refine w_asg ?_
  | with_reducible refine w_ret ?_
  | with_reducible refine w_op ?_
  | with_reducible refine w_cb ?_
  | with_reducible refine w_cons ?_
  | with_reducible refine w_nil ?_
  | with_reducible refine w_c ?_
  | with_reducible refine w_if ?_
  | with_reducible refine w_test ?_
  | with_reducible refine w_un ?_
  | with_reducible refine w_tup ?_
  | with_reducible refine w_call ?_
  | with_reducible refine w_and ?_
  | with_reducible refine w_or ?_
  | with_reducible refine w_not ?_
  | with_reducible refine w_ife ?_
  | with_reducible refine w_tB ?_
  | with_reducible refine w_andV ?_
  | with_reducible refine w_orV ?_
  | with_reducible refine w_notV ?_
  | with_reducible refine w_sub ?_
  | with_reducible refine w_gcons ?_
  | with_reducible refine w_gnil ?_
  | with_reducible refine w_next ?_
  | with_reducible refine w_drop ?_
  | with_reducible refine w_retN ?_
  | with_reducible refine w_brk ?_
  | with_reducible refine w_cont ?_
  | with_reducible refine w_bl ?_
  | with_reducible refine w_gt ?_
  | with_reducible refine w_ge ?_
  | with_reducible refine w_lt ?_
  | with_reducible refine w_le ?_
  | with_reducible refine w_subI ?_
  | with_reducible refine w_neg ?_
  | with_reducible refine w_addI ?_
  | with_reducible refine w_int ?_
  | with_reducible refine w_intB ?_
  | with_reducible refine w_abs ?_
  | with_reducible refine w_iteT ?_
  | with_reducible refine w_iteF ?_
  | with_reducible refine w_par ?_
  | with_reducible refine w_par3 ?_
  | with_reducible refine w_sl ?_
  | with_reducible refine w_nop ?_
  | with_reducible refine w_part ?_
  | with_reducible refine w_vint ?_
  | with_reducible refine w_vbl2 ?_
  | with_reducible refine w_vbl3 ?_
  | with_reducible refine w_lc ?_
  | with_reducible refine w_list ?_
  | with_reducible refine w_enum ?_
  | with_reducible refine w_fld ?_
  | with_reducible refine w_mk ?_
  | with_reducible refine w_yes ?_
  | with_reducible refine w_iz ?_
  | with_reducible refine w_var0 ?_
  | with_reducible refine w_var1 ?_
  | with_reducible refine w_var2 ?_
  | with_reducible refine w_var3 ?_
  | with_reducible refine w_var4 ?_
  | with_reducible refine w_var5 ?_
  | with_reducible refine w_var6 ?_
  | with_reducible refine w_var7 ?_
  | with_reducible refine w_var8 ?_
  | with_reducible refine w_var9 ?_
  | with_reducible refine w_var10 ?_
  | with_reducible refine w_var11 ?_
  | with_reducible refine w_var12 ?_
  | with_reducible refine w_var13 ?_
  | with_reducible refine w_var14 ?_
  | with_reducible refine w_var15 ?_
  | with_reducible refine w_nam0 ?_
  | with_reducible refine w_nam1 ?_
  | with_reducible refine w_nam2 ?_
  | with_reducible refine w_nam3 ?_
  | with_reducible refine w_nam4 ?_
  | with_reducible refine w_nam5 ?_
  | with_reducible refine w_nam6 ?_
  | with_reducible refine w_nam7 ?_
  | with_reducible refine w_nam8 ?_
  | with_reducible refine w_nam9 ?_
  | with_reducible refine w_nam10 ?_
  | with_reducible refine w_nam11 ?_
  | with_reducible refine w_nam12 ?_
  | with_reducible refine w_nam13 ?_
  | with_reducible refine w_nam14 ?_
  | with_reducible refine w_nam15 ?_
  | (with_reducible refine' w_eqS ?hs ?_; (case hs => with_unfolding_all rfl))
  | (with_reducible refine' w_neS ?hs ?_; (case hs => with_unfolding_all rfl))
  | (with_reducible refine' w_len ?hs ?_; (case hs => (simp only [List.length_cons, List.length_nil]; omega)))
  | (with_reducible refine' w_slL ?hs ?_; (case hs => wtm_at "rl"))
  | (with_reducible refine' w_mulI ?hs ?_; (case hs => (first | (refine cmul_r ?_; (constructor <;> omega)) | (refine cmul_l ?_; (constructor <;> omega)) | assumption)))
  | (with_reducible refine' w_mod ?hs ?_; (case hs => (first | omega | assumption)))
  | (with_reducible refine' w_div ?hs ?_; (case hs => (first | assumption | (refine cdiv_s ?_ ?_ <;> omega))))
  | (with_reducible refine' w_ixL ?hs ?ht ?_; (case hs => wtm_at "rl"); (case ht => wtm_at "ix"))
  | (with_reducible refine' w_ixT ?hs ?ht ?_; (case hs => wtm_at "rl"); (case ht => wtm_at "ix"))
  | (with_reducible refine' w_set0 ?hs ?_; (case hs => wtm_at "st"))
  | (with_reducible refine' w_set1 ?hs ?_; (case hs => wtm_at "st"))
  | (with_reducible refine' w_set2 ?hs ?_; (case hs => wtm_at "st"))
  | (with_reducible refine' w_lenL ?hs ?_; (case hs => wtm_at "rl"))
  | (with_reducible refine' w_lenT ?hs ?_; (case hs => wtm_at "rl"))
  | (with_reducible refine' w_gtup ?hs ?ht ?_; (case hs => wtm_at "rl"); (case ht => with_unfolding_all rfl))
  | rw [List.set_cons_zero]
  | rw [List.set_cons_succ]
  | rw [Bool.not_true]
  | rw [Bool.not_false])
local macro_rules | `(tactic| wtm_at "gs") => `(tactic| repeat wtm_at "rs")

/-- all but the tables stands, the tables are tables -/
structure GrT (T : Addr → Prop) (H H' : Hp) : Prop where
  kp : ∀ b o, ¬ T b → H b = some o → H' b = some o
  tb : ∀ a, T a → GxR.TabG H' a
theorem GrT.no {T : Addr → Prop} {H H' : Hp} (g : GrT T H H') {a : Addr} {o : HO} (e : H' a = some o) (n : ∀ ps, o ≠ .tbl ps) : ¬ T a := fun w => by
  obtain ⟨ps, e2, _⟩ := g.tb a w
  rw [e] at e2
  exact n _ (Option.some.inj e2)
theorem no_tb {T : Addr → Prop} {H : Hp} (tb : ∀ a, T a → GxR.TabG H a) {a : Addr} {o : HO} (e : H a = some o) (n : ∀ ps, o ≠ .tbl ps) : ¬ T a := fun w => by
  obtain ⟨ps, e2, _⟩ := tb a w
  rw [e] at e2
  exact n _ (Option.some.inj e2)
theorem no_tbN {T : Addr → Prop} {H : Hp} (tb : ∀ a, T a → GxR.TabG H a) {a : Addr} (e : H a = none) : ¬ T a := fun w => by
  obtain ⟨ps, e2, _⟩ := tb a w
  rw [e] at e2
  cases e2
theorem GrT.seq {T : Addr → Prop} {H H' : Hp} {a : Addr} {xs : List V} {K : PySem.W.Frag} (tb : ∀ a, T a → GxR.TabG H a) (g : GrT T H H') (h : SqL K H a xs) : SqL K H' a xs := by
  rcases h with (h | ⟨o, h⟩) | h
  · exact .inl (.inl (g.kp _ _ (no_tb tb h fun _ z => by cases z) h))
  · exact .inl (.inr ⟨o, g.kp _ _ (no_tb tb h fun _ z => by cases z) h⟩)
  · exact .inr h
theorem GrT.same {T : Addr → Prop} {H H1 H2 : Hp} (g : GrT T H H1) (s : Same H1 H2) : GrT T H H2 := ⟨fun b o n e => s _ _ (g.kp b o n e), fun a t => tabG_same s (g.tb a t)⟩
def spRightT (T : Addr → Prop) : Sp := fun vs H Q _ => ∃ w, vs = [.ref w] ∧ Wl H w ∧ (∀ a, T a → GxR.TabG H a) ∧ ∀ H', (∀ b o, b ≠ w → ¬ T b → H b = some o → H' b = some o) → (∀ a, T a → GxR.TabG H' a) → Q (.bl true) H'
def spLawT (K : PySem.W.Frag) (T : Addr → Prop) : Sp := fun vs H Q _ => ∃ (a : Addr) (ns : List Int), vs = [.ref a] ∧ SqL K H a (ns.map V.int) ∧ ns.length ≤ 1000000000 ∧ (∀ a, T a → GxR.TabG H a) ∧ ∀ H', Q (.bl true) H'
structure PvT (T : Addr → Prop) (Ac : Nat → List V → Prop) (H1 : Hp) (D : Addr) (i : Nat) (H : Hp) : Prop where
  ex : ∃ acc, H D = some (.lst acc) ∧ acc.length ≤ i ∧ Ac i acc ∧ GrT T H1 H
theorem rep_snocT {α : Type} {a : α} {k : Nat} : List.replicate k a ++ [a] = List.replicate (k + 1) a := List.replicate_succ'.symm
/-- over a range, tables growing -/
theorem c_rngT {g : TG} {tt : TT} {te : TE} {vs : List Nat} {σ : L2.St} {H1 : Hp} {D : Addr} {Qd : Hp → Prop} {lo : Int} {n : Nat} (T : Addr → Prop) (tb : ∀ a, T a → GxR.TabG H1 a) (Ac : Nat → List V → Prop) (hD : H1 D = none) (h0 : Ac 0 [])
    (hs : ∀ (i : Nat) acc H, i < n → H D = some (.lst acc) → acc.length ≤ i → Ac i acc → GrT T H1 H → LcT g tt te vs σ D (PvT T Ac H1 D (i + 1)) (.int (lo + i)) H)
    (hd : ∀ acc H, H D = some (.lst acc) → Ac n acc → GrT T H1 H → Qd H) : LcW (Itr lo n) g tt te vs σ H1 D Qd := by
  have s0 : Same H1 (upd H1 D (.lst [])) := same_put hD (Same.refl _)
  refine ⟨fun i m H => m = n - i ∧ i ≤ n ∧ PvT T Ac H1 D i H, ⟨n, by simp, Nat.zero_le _, ⟨[], upd_same, Nat.le_refl _, h0, ⟨fun b o _ e => s0 b o e, fun a t => tabG_same s0 (tb a t)⟩⟩⟩, ?_⟩
  rintro i m H ⟨rfl, hi, ⟨acc, e, l, ac, s⟩⟩
  by_cases hlt : i < n
  · refine .inr ⟨hlt, PvT T Ac H1 D (i + 1), fun H' p' => ⟨n - (i + 1), by omega, rfl, hlt, p'⟩, ?_⟩
    rintro x _ ⟨rfl, rfl⟩
    exact hs i acc _ hlt e l ac s
  · obtain rfl : i = n := by omega
    exact .inl ⟨Nat.le_refl _, hd acc H e ac s⟩
theorem PvT.put {T : Addr → Prop} {Ac : Nat → List V → Prop} {H1 : Hp} {D : Addr} {i : Nat} {acc : List V} {H H4 : Hp} {y : V} (hD : H1 D = none) (e : H D = some (.lst acc)) (l : acc.length ≤ i) (s : GrT T H1 H) (hi : i ≤ 1000) (k4 : ∀ b o, ¬ T b → H b = some o → H4 b = some o) (t4 : ∀ a, T a → GxR.TabG H4 a) (h : Ac (i + 1) (acc ++ [y])) :
    ∃ acc, H4 D = some (.lst acc) ∧ acc.length < sizeLine ∧ PvT T Ac H1 D (i + 1) (upd H4 D (.lst (acc ++ [y]))) := by
  have nD : ¬ T D := no_tb s.tb e fun _ z => by cases z
  refine ⟨acc, k4 _ _ nD e, Nat.lt_of_le_of_lt (Nat.le_trans l hi) (by decide), ⟨acc ++ [y], upd_same, by rw [List.length_append]; simpa using l, h, ⟨fun b o n e1 => ?_, fun a t => ?_⟩⟩⟩
  · rw [upd_ne (ne_of_none e1 hD)]
    exact k4 _ _ n (s.kp b o n e1)
  · obtain ⟨ps, e1, e2⟩ := t4 a t
    refine ⟨ps, ?_, e2⟩
    rw [upd_ne (fun z => nD (by rw [← z]; exact t))]
    exact e1
theorem cal_law (T : Txt mg) (D : Def1 K mg "law" s_law) {TT : Addr → Prop} (c__law_right : Cal P w K mg base "_law_right" 10 P__law_right (spRightT TT)) (c__law_well : Cal P w K mg base "_law_well" 1 P__law_well (spWell K)) : Cal P w K mg base "law" 11 P_law (spLawT K TT) := by
  have nd := sc_law.nd
  refine D.cal (k := 11-1) sc_law (fun vs H Q E h => ?_) (fun _ _ _ _ _ _ us hl => match us, hl with | [_], _ => rfl) fun f cdv A outer s H vs Q E hG hr h => have hu := hr.units; have hu2 := u150 hr; ⟨_, (pss_one (ps_ret (pe_callB (k_all (K := K) rfl rfl) rfl T.n_all (by decide +kernel) (pa_cons (pe_lc (own := [("_law_lap", 1)]) (by rfl) nd (pi_range1 rfl T.n_range (pa_cons (pe_callB (call_max2 rfl) rfl T.n_max (by decide +kernel) (pa_cons pe_int (pa_cons (pe_callB (call_min2 rfl) rfl T.n_min (by decide +kernel) (pa_cons (pe_callB (k_len (K := K) rfl) rfl T.n_len (by decide +kernel) (pa_cons (pv 0) pa_nil)) (pa_cons pe_int pa_nil))) pa_nil))) pa_nil)) (blkOk_by (own := [("_law_lap", 1)]) (N := N_law) (sc := defScope s_law) (by decide +kernel)) (fun _ _ _ _ _ => (pg_name (i := 1) nd rfl (Or.inl rfl))) (fun _ _ _ _ _ => pts_nil) (fun _ _ _ _ _ => (pe_cal c__law_right hG (hr.mono (by decide)) rfl (pa_cons (pe_cal c__law_well hG (hr.mono (by decide)) rfl (pa_cons (pv 0) (pa_cons (pv 1) pa_nil))) pa_nil)))) pa_nil)))), ?_⟩
  · obtain ⟨a, ns, rfl, _⟩ := h; rfl
  obtain ⟨a, ns, rfl, hs, hn, tb, hQ⟩ := h
  rw [show L2.start N_law [V.ref a] = [some (V.ref a), none] from rfl]
  wtm_at "gs"
  refine w_rng1 ?_
  wtm_at "gs"
  refine ⟨_, _, rfl, ?_⟩
  refine ⟨_, _, rfl, ?_⟩
  generalize hm : (if (if (4 : Int) < ((ns.map V.int).length : Nat) then (4 : Int) else ((ns.map V.int).length : Nat)) > 2 then (if (4 : Int) < ((ns.map V.int).length : Nat) then (4 : Int) else ((ns.map V.int).length : Nat)) else 2) = m
  have m4 : 0 ≤ m ∧ m ≤ 4 := by
    subst hm
    split <;> split <;> omega
  wtm_at "gs"
  refine ⟨m, rfl, by omega, by omega, fun D hD => c_rngT TT tb (fun k acc => acc = List.replicate k (V.bl true)) hD rfl ?_ ?_⟩
  · intro i acc H5 hi eD la ac s
    unfold LcT
    rw [show wipe [some (V.ref a), none] (List.map (fun x => x.snd) [(Str.ofString "_law_lap", 1)]) = [some (V.ref a), none] from rfl]
    wtm_at "gs"
    refine ⟨rfl, ?_⟩
    wtm_at "gs"
    refine ⟨a, ns, _, rfl, s.seq tb hs, by omega, by omega, fun w H6 nw s6 wl => ?_⟩
    wtm_at "gs"
    refine ⟨w, rfl, wl, fun a t => tabG_same s6 (s.tb a t), fun H7 k7 t7 => ?_⟩
    exact PvT.put hD eD la s (by omega) (fun b o n e => k7 b o (ne_of_none e nw) n (s6 _ _ e)) t7 (by rw [ac, rep_snocT])
  · intro acc H5 eD ac s
    wtm_at "gs"
    refine w_all (bs := List.replicate m.toNat true) (by rw [List.map_replicate, ← ac]; exact SqL.of eD) ?_
    rw [show (List.replicate m.toNat true).all id = true by simp [List.all_replicate]]
    exact hQ _

theorem right_w {TT : Addr → Prop} {vs : List V} {H : Hp} {Q : VK} {E : XK} (h : spRightT TT vs H Q E) : spW K TT 0 K2.g_right vs H Q E := by
  obtain ⟨w, rfl, wl, tb, q⟩ := h
  refine ⟨w, (· = w), [], [], rfl, rfl, wl, .nil, ⟨?_, tb⟩, rfl, ?_⟩
  · rintro a rfl
    obtain ⟨a, m, n, e, _⟩ := wl
    exact ⟨_, e⟩
  · show ∀ H' v, Ch (fc K TT (some w) (· = w) H) H H' → Da (· = w) K H' v (.bool true) → Q v H'
    intro H' v k d
    cases d
    exact q H' (fun b o n t e => k.kp b o (fun z => n (Option.some.inj z)) t e) k.tb
theorem tabB_of {base : Heap} {mg : Str → Option Value} {c P : Addr} (h : LamX.TabB base mg c P) : GxR.TabB base mg c P := ⟨h.1, h.2, h.3⟩
theorem defT_of {TT : Addr → Prop} {h : Heap} (X : K.In h) (G : h.Ns mainGlobals mg) {x : Str} {st : Stmt} (g : (He.Fa.glo x).ok K = true) (d : ∃ fd, FunD K x x (defArgs st) (defBody st) (defScope st) [] [] (He.ga K x) fd) (t : TT (He.cT K (x, none)).2) (B : LamX.TabB base mg (He.cT K (x, none)).1 (He.cT K (x, none)).2) (eA : He.fAd K (x, none) = He.ga K x) : DefT TT base K mg x st := by
  obtain ⟨fd, F⟩ := d
  refine ⟨_, fd, F, He.glo_ok X G g, fun c fd' lk hc => ?_⟩
  obtain ⟨oc, od, dV, kV, doc, pm, an, cdv, ct, osl, rfl, lk2, hcd, _⟩ := F.ex
  rw [lk2] at lk
  cases lk
  cases hc
  obtain ⟨cc, e⟩ := He.codeIn_ref hcd
  have e2 : He.codeOf K (x, none) = cc := He.codeOf_eq (by rw [eA]; exact lk2) e
  refine ⟨_, _, t, ?_, tabB_of B⟩
  show cdv = .ref (He.codeOf K (x, none))
  rw [e, e2]
end
end K1

set_option Elab.async false
set_option linter.all false
set_option maxRecDepth 100000
set_option maxHeartbeats 0
set_option autoImplicit false
namespace K1
open PySem PySem.Spec PyProof.Rows L2 RZ Gd
def d_is_whole : He.DefD := ⟨("is_whole", none), "is_whole", "is_whole", defArgs s_is_whole, defBody s_is_whole, defScope s_is_whole, [], []⟩
def d_is_fraction : He.DefD := ⟨("is_fraction", none), "is_fraction", "is_fraction", defArgs s_is_fraction, defBody s_is_fraction, defScope s_is_fraction, [], []⟩
def d_is_row : He.DefD := ⟨("is_row", none), "is_row", "is_row", defArgs s_is_row, defBody s_is_row, defScope s_is_row, [], []⟩
def d_is_index : He.DefD := ⟨("is_index", none), "is_index", "is_index", defArgs s_is_index, defBody s_is_index, defScope s_is_index, [], []⟩
def d_is_trial : He.DefD := ⟨("is_trial", none), "is_trial", "is_trial", defArgs s_is_trial, defBody s_is_trial, defScope s_is_trial, [], []⟩
def d_is_world : He.DefD := ⟨("is_world", none), "is_world", "is_world", defArgs s_is_world, defBody s_is_world, defScope s_is_world, [], []⟩
def d_is_question : He.DefD := ⟨("is_question", none), "is_question", "is_question", defArgs s_is_question, defBody s_is_question, defScope s_is_question, [], []⟩
def d_levels_of : He.DefD := ⟨("levels_of", none), "levels_of", "levels_of", defArgs s_levels_of, defBody s_levels_of, defScope s_levels_of, [], []⟩
def d_check_trial : He.DefD := ⟨("check_trial", none), "check_trial", "check_trial", defArgs s_check_trial, defBody s_check_trial, defScope s_check_trial, [], []⟩
def d_is_world_of : He.DefD := ⟨("is_world_of", none), "is_world_of", "is_world_of", defArgs s_is_world_of, defBody s_is_world_of, defScope s_is_world_of, [], []⟩
def d_is_question_of : He.DefD := ⟨("is_question_of", none), "is_question_of", "is_question_of", defArgs s_is_question_of, defBody s_is_question_of, defScope s_is_question_of, [], []⟩
def d_is_spread : He.DefD := ⟨("is_spread", none), "is_spread", "is_spread", defArgs s_is_spread, defBody s_is_spread, defScope s_is_spread, [], []⟩
def d_is_block : He.DefD := ⟨("is_block", none), "is_block", "is_block", defArgs s_is_block, defBody s_is_block, defScope s_is_block, [], []⟩
def d_count_levels : He.DefD := ⟨("count_levels", none), "count_levels", "count_levels", defArgs s_count_levels, defBody s_count_levels, defScope s_count_levels, [], []⟩
def d__are_plots : He.DefD := ⟨("_are_plots", none), "_are_plots", "_are_plots", defArgs s__are_plots, defBody s__are_plots, defScope s__are_plots, [], []⟩
def d__are_spreads : He.DefD := ⟨("_are_spreads", none), "_are_spreads", "_are_spreads", defArgs s__are_spreads, defBody s__are_spreads, defScope s__are_spreads, [], []⟩
def d__are_blocks : He.DefD := ⟨("_are_blocks", none), "_are_blocks", "_are_blocks", defArgs s__are_blocks, defBody s__are_blocks, defScope s__are_blocks, [], []⟩
def d__law_well : He.DefD := ⟨("_law_well", none), "_law_well", "_law_well", defArgs s__law_well, defBody s__law_well, defScope s__law_well, [], []⟩
def d__law_draw : He.DefD := ⟨("_law_draw", none), "_law_draw", "_law_draw", defArgs s__law_draw, defBody s__law_draw, defScope s__law_draw, [], []⟩
def d__law_one : He.DefD := ⟨("_law_one", none), "_law_one", "_law_one", defArgs s__law_one, defBody s__law_one, defScope s__law_one, [], []⟩
def d__law_lean : He.DefD := ⟨("_law_lean", none), "_law_lean", "_law_lean", defArgs s__law_lean, defBody s__law_lean, defScope s__law_lean, [], []⟩
def d__law_minus : He.DefD := ⟨("_law_minus", none), "_law_minus", "_law_minus", defArgs s__law_minus, defBody s__law_minus, defScope s__law_minus, [], []⟩
def d__law_is_whole : He.DefD := ⟨("_law_is_whole", none), "_law_is_whole", "_law_is_whole", defArgs s__law_is_whole, defBody s__law_is_whole, defScope s__law_is_whole, [], []⟩
def d__law_is_tuple : He.DefD := ⟨("_law_is_tuple", none), "_law_is_tuple", "_law_is_tuple", defArgs s__law_is_tuple, defBody s__law_is_tuple, defScope s__law_is_tuple, [], []⟩
def d__law_is_part : He.DefD := ⟨("_law_is_part", none), "_law_is_part", "_law_is_part", defArgs s__law_is_part, defBody s__law_is_part, defScope s__law_is_part, [], []⟩
def d__law_is_row : He.DefD := ⟨("_law_is_row", none), "_law_is_row", "_law_is_row", defArgs s__law_is_row, defBody s__law_is_row, defScope s__law_is_row, [], []⟩
def d__law_odd : He.DefD := ⟨("_law_odd", none), "_law_odd", "_law_odd", defArgs s__law_odd, defBody s__law_odd, defScope s__law_odd, [], []⟩
def d__law_bent : He.DefD := ⟨("_law_bent", none), "_law_bent", "_law_bent", defArgs s__law_bent, defBody s__law_bent, defScope s__law_bent, [], []⟩
def d__law_maybe : He.DefD := ⟨("_law_maybe", none), "_law_maybe", "_law_maybe", defArgs s__law_maybe, defBody s__law_maybe, defScope s__law_maybe, [], []⟩
def d__law_number : He.DefD := ⟨("_law_number", none), "_law_number", "_law_number", defArgs s__law_number, defBody s__law_number, defScope s__law_number, [], []⟩
def d__law_numbers : He.DefD := ⟨("_law_numbers", none), "_law_numbers", "_law_numbers", defArgs s__law_numbers, defBody s__law_numbers, defScope s__law_numbers, [], []⟩
def d__law_trial : He.DefD := ⟨("_law_trial", none), "_law_trial", "_law_trial", defArgs s__law_trial, defBody s__law_trial, defScope s__law_trial, [], []⟩
def d__law_levels : He.DefD := ⟨("_law_levels", none), "_law_levels", "_law_levels", defArgs s__law_levels, defBody s__law_levels, defScope s__law_levels, [], []⟩
def d__law_world : He.DefD := ⟨("_law_world", none), "_law_world", "_law_world", defArgs s__law_world, defBody s__law_world, defScope s__law_world, [], []⟩
def d__law_is_trial : He.DefD := ⟨("_law_is_trial", none), "_law_is_trial", "_law_is_trial", defArgs s__law_is_trial, defBody s__law_is_trial, defScope s__law_is_trial, [], []⟩
def d__law_is_world : He.DefD := ⟨("_law_is_world", none), "_law_is_world", "_law_is_world", defArgs s__law_is_world, defBody s__law_is_world, defScope s__law_is_world, [], []⟩
def d__law_planted : He.DefD := ⟨("_law_planted", none), "_law_planted", "_law_planted", defArgs s__law_planted, defBody s__law_planted, defScope s__law_planted, [], []⟩
def d__law_right : He.DefD := ⟨("_law_right", none), "_law_right", "_law_right", defArgs s__law_right, defBody s__law_right, defScope s__law_right, [], []⟩
def d_law : He.DefD := ⟨("law", none), "law", "law", defArgs s_law, defBody s_law, defScope s_law, [], []⟩
def fn : List He.DefD := [d_is_whole, d_is_fraction, d_is_row, d_is_index, d_is_trial, d_is_world, d_is_question, d_levels_of, d_check_trial, d_is_world_of, d_is_question_of, d_is_spread, d_is_block, d_count_levels, d__are_plots, d__are_spreads, d__are_blocks, d__law_well, d__law_draw, d__law_one, d__law_lean, d__law_minus, d__law_is_whole, d__law_is_tuple, d__law_is_part, d__law_is_row, d__law_odd, d__law_bent, d__law_maybe, d__law_number, d__law_numbers, d__law_trial, d__law_levels, d__law_world, d__law_is_trial, d__law_is_world, d__law_planted, d__law_right, d_law]
def fa : List He.Fa := [.glo "is_whole", .glo "is_fraction", .glo "is_row", .glo "is_index", .glo "is_trial", .glo "is_world", .glo "is_question", .glo "levels_of", .glo "check_trial", .glo "is_world_of", .glo "is_question_of", .glo "is_spread", .glo "is_block", .glo "count_levels", .glo "_are_plots", .glo "_are_spreads", .glo "_are_blocks", .glo "_law_well", .glo "_law_draw", .glo "_law_one", .glo "_law_lean", .glo "_law_minus", .glo "_law_is_whole", .glo "_law_is_tuple", .glo "_law_is_part", .glo "_law_is_row", .glo "_law_odd", .glo "_law_bent", .glo "_law_maybe", .glo "_law_number", .glo "_law_numbers", .glo "_law_trial", .glo "_law_levels", .glo "_law_world", .glo "_law_is_trial", .glo "_law_is_world", .glo "_law_planted", .glo "_law_right", .glo "law", .free "IndexError", .free "KeyError", .free "RuntimeError", .free "TypeError", .free "ValueError", .free "ZeroDivisionError", .free "abs", .free "all", .free "any", .free "bool", .free "divmod", .free "enumerate", .free "int", .free "isinstance", .free "len", .free "list", .free "max", .free "min", .free "range", .free "repr", .free "tuple", .free "zip", .int "MOST_PLOTS" 10, .int "MOST_UNKNOWNS" 5, .int "GREATEST_BLOCK" 4]
def tf : List He.Defn := [("is_row", none), ("_are_plots", none), ("_are_spreads", none), ("_are_blocks", none)]
def ex (K : PySem.W.Frag) : Bool := decide (PySem.W.nsIn K mainGlobals "gcd" = some (some (.builtin "math.gcd")))
abbrev R : PySem.W.OpenRow := PySem.W.OpenLaw.row PySem.Challenge.rw_trialground_k02_whole_trials_worlds_ques
abbrev hk : PySem.W.Hook := He.hookX 6 fa fn [] tf ex
def ob (s : PySem.W.SharedT) : He.AlX := He.obsX 6 fa fn [] tf ex (HandSHeadRun.getT s)
theorem ob_eq (s : PySem.W.SharedT) : ob s = hk.obs s.abs := He.obsX_eq (HandSHeadRun.getT_eq s)
end K1

set_option Elab.async false
set_option linter.all false
set_option maxRecDepth 100000
set_option maxHeartbeats 0
set_option autoImplicit false
namespace K1
open PySem PySem.Spec PyProof.Rows L2 RZ Gd
def LO : List PySem.Str := [PySem.Str.ofString "TrialError", PySem.Str.ofString "InvalidTrial", PySem.Str.ofString "gcd", PySem.Str.ofString "MOST_PLOTS", PySem.Str.ofString "MOST_UNKNOWNS", PySem.Str.ofString "GREATEST_BLOCK", PySem.Str.ofString "is_whole", PySem.Str.ofString "is_fraction", PySem.Str.ofString "is_row", PySem.Str.ofString "is_index", PySem.Str.ofString "is_trial", PySem.Str.ofString "is_world", PySem.Str.ofString "is_question", PySem.Str.ofString "levels_of", PySem.Str.ofString "check_trial", PySem.Str.ofString "is_world_of", PySem.Str.ofString "is_question_of", PySem.Str.ofString "is_spread", PySem.Str.ofString "is_block", PySem.Str.ofString "count_levels", PySem.Str.ofString "_are_plots", PySem.Str.ofString "_are_spreads", PySem.Str.ofString "_are_blocks", PySem.Str.ofString "_law_well", PySem.Str.ofString "_law_draw", PySem.Str.ofString "_law_one", PySem.Str.ofString "_law_lean", PySem.Str.ofString "_law_minus", PySem.Str.ofString "_law_is_whole", PySem.Str.ofString "_law_is_tuple", PySem.Str.ofString "_law_is_part", PySem.Str.ofString "_law_is_row", PySem.Str.ofString "_law_odd", PySem.Str.ofString "_law_bent", PySem.Str.ofString "_law_maybe", PySem.Str.ofString "_law_number", PySem.Str.ofString "_law_numbers", PySem.Str.ofString "_law_trial", PySem.Str.ofString "_law_levels", PySem.Str.ofString "_law_world", PySem.Str.ofString "_law_is_trial", PySem.Str.ofString "_law_is_world", PySem.Str.ofString "_law_planted", PySem.Str.ofString "_law_right"]
theorem run (w : World) : HandSHeadRun.RunEqI R (PySem.W.view R.prog [0, 49]) hk ob 6000 LO w := by
  unfold HandSHeadRun.RunEqI
  kernel_rfl
end K1

set_option Elab.async false
set_option linter.all false
set_option maxRecDepth 100000
set_option maxHeartbeats 8000000
set_option autoImplicit false
namespace K1
open PySem PySem.Spec PyProof.Rows L2 RZ Gd
/-! the head's facts, put together -/
section
variable {P : Program} {w : World} {K : PySem.W.Frag} {mg : Str → Option Value} {base : Heap}
theorem def1 {h : Heap} (X : K.In h) (G : h.Ns mainGlobals mg) {x : Str} {st : Stmt} (g : (He.Fa.glo x).ok K = true) (d : ∃ fd, FunD K x x (defArgs st) (defBody st) (defScope st) [] [] (He.ga K x) fd) : Def1 K mg x st := by
  obtain ⟨fd, F⟩ := d
  exact ⟨_, fd, F, He.glo_ok X G g⟩
theorem txt1 {h : Heap} (X : K.In h) (G : h.Ns mainGlobals mg) (c : He.SaysD fa fn K) : Txt mg := ⟨He.free_ok X G (c.fact 51 (f := .free "int") rfl), He.free_ok X G (c.fact 53 (f := .free "len") rfl), He.free_ok X G (c.fact 45 (f := .free "abs") rfl), He.free_ok X G (c.fact 49 (f := .free "divmod") rfl), He.free_ok X G (c.fact 57 (f := .free "range") rfl), He.free_ok X G (c.fact 59 (f := .free "tuple") rfl), He.free_ok X G (c.fact 54 (f := .free "list") rfl), He.free_ok X G (c.fact 60 (f := .free "zip") rfl), He.free_ok X G (c.fact 50 (f := .free "enumerate") rfl), He.free_ok X G (c.fact 58 (f := .free "repr") rfl), He.free_ok X G (c.fact 52 (f := .free "isinstance") rfl), He.free_ok X G (c.fact 46 (f := .free "all") rfl), He.free_ok X G (c.fact 47 (f := .free "any") rfl), He.free_ok X G (c.fact 55 (f := .free "max") rfl), He.free_ok X G (c.fact 56 (f := .free "min") rfl), He.free_ok X G (c.fact 48 (f := .free "bool") rfl), He.free_ok X G (c.fact 43 (f := .free "ValueError") rfl), He.free_ok X G (c.fact 42 (f := .free "TypeError") rfl), He.free_ok X G (c.fact 40 (f := .free "KeyError") rfl), He.free_ok X G (c.fact 39 (f := .free "IndexError") rfl), He.free_ok X G (c.fact 44 (f := .free "ZeroDivisionError") rfl), He.free_ok X G (c.fact 41 (f := .free "RuntimeError") rfl)⟩
theorem txt2 {h : Heap} (X : K.In h) (G : h.Ns mainGlobals mg) (c : He.SaysD fa fn K) (m : ex K = true) : K2.Txt K mg := ⟨He.free_ok X G (c.fact 51 (f := .free "int") rfl), He.free_ok X G (c.fact 53 (f := .free "len") rfl), He.free_ok X G (c.fact 45 (f := .free "abs") rfl), He.free_ok X G (c.fact 49 (f := .free "divmod") rfl), He.free_ok X G (c.fact 57 (f := .free "range") rfl), He.free_ok X G (c.fact 59 (f := .free "tuple") rfl), He.free_ok X G (c.fact 54 (f := .free "list") rfl), He.free_ok X G (c.fact 60 (f := .free "zip") rfl), He.free_ok X G (c.fact 58 (f := .free "repr") rfl), He.free_ok X G (c.fact 52 (f := .free "isinstance") rfl), He.free_ok X G (c.fact 46 (f := .free "all") rfl), He.free_ok X G (c.fact 47 (f := .free "any") rfl), He.free_ok X G (c.fact 55 (f := .free "max") rfl), He.free_ok X G (c.fact 56 (f := .free "min") rfl), He.free_ok X G (c.fact 48 (f := .free "bool") rfl), He.int_ok X G (c.fact 61 (f := .int "MOST_PLOTS" 10) rfl), He.int_ok X G (c.fact 62 (f := .int "MOST_UNKNOWNS" 5) rfl), He.int_ok X G (c.fact 63 (f := .int "GREATEST_BLOCK" 4) rfl), PySem.W.mg_of X G (of_decide_eq_true m)⟩
abbrev TT (K : PySem.W.Frag) : Addr → Prop := fun a => ∃ p ∈ tf.map (He.cT K), p.2 = a
theorem m_is_row : (("is_row", none) : He.Defn) ∈ tf := .head _
theorem m__are_plots : (("_are_plots", none) : He.Defn) ∈ tf := .tail _ (.head _)
theorem m__are_spreads : (("_are_spreads", none) : He.Defn) ∈ tf := .tail _ (.tail _ (.head _))
theorem m__are_blocks : (("_are_blocks", none) : He.Defn) ∈ tf := .tail _ (.tail _ (.tail _ (.head _)))
theorem law_cal {h : Heap} (X : K.In h) (G : h.Ns mainGlobals mg) (c : He.SaysD fa fn K) (m : ex K = true) (S : SysM base) (B : ∀ p ∈ tf.map (He.cT K), LamX.TabB base mg p.1 p.2) : Cal P w K mg base "law" 11 P_law (spLawT K (TT K)) := by
  have T1 := txt1 X G c
  have T2 := txt2 X G c m
  have Dis_whole : Def1 K mg "is_whole" K2.s_is_whole := def1 (st := s_is_whole) X G (c.fact 0 (f := .glo "is_whole") rfl) (c.def_ 0 (d := d_is_whole) rfl)
  have Dis_fraction : Def1 K mg "is_fraction" K2.s_is_fraction := def1 (st := s_is_fraction) X G (c.fact 1 (f := .glo "is_fraction") rfl) (c.def_ 1 (d := d_is_fraction) rfl)
  have Dis_row : Dl.DefT (TT K) base K mg "is_row" K2.s_is_row := defT_of (st := s_is_row) X G (c.fact 2 (f := .glo "is_row") rfl) (c.def_ 2 (d := d_is_row) rfl) ⟨_, List.mem_map.mpr ⟨_, m_is_row, rfl⟩, rfl⟩ (B _ (List.mem_map.mpr ⟨_, m_is_row, rfl⟩)) rfl
  have Dis_index : Def1 K mg "is_index" K2.s_is_index := def1 (st := s_is_index) X G (c.fact 3 (f := .glo "is_index") rfl) (c.def_ 3 (d := d_is_index) rfl)
  have Dis_trial : Def1 K mg "is_trial" K2.s_is_trial := def1 (st := s_is_trial) X G (c.fact 4 (f := .glo "is_trial") rfl) (c.def_ 4 (d := d_is_trial) rfl)
  have Dis_world : Def1 K mg "is_world" K2.s_is_world := def1 (st := s_is_world) X G (c.fact 5 (f := .glo "is_world") rfl) (c.def_ 5 (d := d_is_world) rfl)
  have Dis_question : Def1 K mg "is_question" K2.s_is_question := def1 (st := s_is_question) X G (c.fact 6 (f := .glo "is_question") rfl) (c.def_ 6 (d := d_is_question) rfl)
  have Dlevels_of : Def1 K mg "levels_of" K2.s_levels_of := def1 (st := s_levels_of) X G (c.fact 7 (f := .glo "levels_of") rfl) (c.def_ 7 (d := d_levels_of) rfl)
  have Dcheck_trial : Def1 K mg "check_trial" K2.s_check_trial := def1 (st := s_check_trial) X G (c.fact 8 (f := .glo "check_trial") rfl) (c.def_ 8 (d := d_check_trial) rfl)
  have Dis_world_of : Def1 K mg "is_world_of" K2.s_is_world_of := def1 (st := s_is_world_of) X G (c.fact 9 (f := .glo "is_world_of") rfl) (c.def_ 9 (d := d_is_world_of) rfl)
  have Dis_question_of : Def1 K mg "is_question_of" K2.s_is_question_of := def1 (st := s_is_question_of) X G (c.fact 10 (f := .glo "is_question_of") rfl) (c.def_ 10 (d := d_is_question_of) rfl)
  have Dis_spread : Def1 K mg "is_spread" K2.s_is_spread := def1 (st := s_is_spread) X G (c.fact 11 (f := .glo "is_spread") rfl) (c.def_ 11 (d := d_is_spread) rfl)
  have Dis_block : Def1 K mg "is_block" K2.s_is_block := def1 (st := s_is_block) X G (c.fact 12 (f := .glo "is_block") rfl) (c.def_ 12 (d := d_is_block) rfl)
  have Dcount_levels : Def1 K mg "count_levels" K2.s_count_levels := def1 (st := s_count_levels) X G (c.fact 13 (f := .glo "count_levels") rfl) (c.def_ 13 (d := d_count_levels) rfl)
  have D_are_plots : Dl.DefT (TT K) base K mg "_are_plots" K2.s__are_plots := defT_of (st := s__are_plots) X G (c.fact 14 (f := .glo "_are_plots") rfl) (c.def_ 14 (d := d__are_plots) rfl) ⟨_, List.mem_map.mpr ⟨_, m__are_plots, rfl⟩, rfl⟩ (B _ (List.mem_map.mpr ⟨_, m__are_plots, rfl⟩)) rfl
  have D_are_spreads : Dl.DefT (TT K) base K mg "_are_spreads" K2.s__are_spreads := defT_of (st := s__are_spreads) X G (c.fact 15 (f := .glo "_are_spreads") rfl) (c.def_ 15 (d := d__are_spreads) rfl) ⟨_, List.mem_map.mpr ⟨_, m__are_spreads, rfl⟩, rfl⟩ (B _ (List.mem_map.mpr ⟨_, m__are_spreads, rfl⟩)) rfl
  have D_are_blocks : Dl.DefT (TT K) base K mg "_are_blocks" K2.s__are_blocks := defT_of (st := s__are_blocks) X G (c.fact 16 (f := .glo "_are_blocks") rfl) (c.def_ 16 (d := d__are_blocks) rfl) ⟨_, List.mem_map.mpr ⟨_, m__are_blocks, rfl⟩, rfl⟩ (B _ (List.mem_map.mpr ⟨_, m__are_blocks, rfl⟩)) rfl
  have D_law_well : Def1 K mg "_law_well" s__law_well := def1 X G (c.fact 17 (f := .glo "_law_well") rfl) (c.def_ 17 (d := d__law_well) rfl)
  have D_law_draw : Def1 K mg "_law_draw" s__law_draw := def1 X G (c.fact 18 (f := .glo "_law_draw") rfl) (c.def_ 18 (d := d__law_draw) rfl)
  have D_law_one : Def1 K mg "_law_one" s__law_one := def1 X G (c.fact 19 (f := .glo "_law_one") rfl) (c.def_ 19 (d := d__law_one) rfl)
  have D_law_lean : Def1 K mg "_law_lean" s__law_lean := def1 X G (c.fact 20 (f := .glo "_law_lean") rfl) (c.def_ 20 (d := d__law_lean) rfl)
  have D_law_minus : Def1 K mg "_law_minus" s__law_minus := def1 X G (c.fact 21 (f := .glo "_law_minus") rfl) (c.def_ 21 (d := d__law_minus) rfl)
  have D_law_is_whole : Def1 K mg "_law_is_whole" K2.s__law_is_whole := def1 (st := s__law_is_whole) X G (c.fact 22 (f := .glo "_law_is_whole") rfl) (c.def_ 22 (d := d__law_is_whole) rfl)
  have D_law_is_tuple : Def1 K mg "_law_is_tuple" K2.s__law_is_tuple := def1 (st := s__law_is_tuple) X G (c.fact 23 (f := .glo "_law_is_tuple") rfl) (c.def_ 23 (d := d__law_is_tuple) rfl)
  have D_law_is_part : Def1 K mg "_law_is_part" K2.s__law_is_part := def1 (st := s__law_is_part) X G (c.fact 24 (f := .glo "_law_is_part") rfl) (c.def_ 24 (d := d__law_is_part) rfl)
  have D_law_is_row : Def1 K mg "_law_is_row" K2.s__law_is_row := def1 (st := s__law_is_row) X G (c.fact 25 (f := .glo "_law_is_row") rfl) (c.def_ 25 (d := d__law_is_row) rfl)
  have D_law_odd : Def1 K mg "_law_odd" K2.s__law_odd := def1 (st := s__law_odd) X G (c.fact 26 (f := .glo "_law_odd") rfl) (c.def_ 26 (d := d__law_odd) rfl)
  have D_law_bent : Def1 K mg "_law_bent" K2.s__law_bent := def1 (st := s__law_bent) X G (c.fact 27 (f := .glo "_law_bent") rfl) (c.def_ 27 (d := d__law_bent) rfl)
  have D_law_maybe : Def1 K mg "_law_maybe" K2.s__law_maybe := def1 (st := s__law_maybe) X G (c.fact 28 (f := .glo "_law_maybe") rfl) (c.def_ 28 (d := d__law_maybe) rfl)
  have D_law_number : Def1 K mg "_law_number" s__law_number := def1 X G (c.fact 29 (f := .glo "_law_number") rfl) (c.def_ 29 (d := d__law_number) rfl)
  have D_law_numbers : Def1 K mg "_law_numbers" s__law_numbers := def1 X G (c.fact 30 (f := .glo "_law_numbers") rfl) (c.def_ 30 (d := d__law_numbers) rfl)
  have D_law_trial : Def1 K mg "_law_trial" s__law_trial := def1 X G (c.fact 31 (f := .glo "_law_trial") rfl) (c.def_ 31 (d := d__law_trial) rfl)
  have D_law_levels : Def1 K mg "_law_levels" K2.s__law_levels := def1 (st := s__law_levels) X G (c.fact 32 (f := .glo "_law_levels") rfl) (c.def_ 32 (d := d__law_levels) rfl)
  have D_law_world : Def1 K mg "_law_world" K2.s__law_world := def1 (st := s__law_world) X G (c.fact 33 (f := .glo "_law_world") rfl) (c.def_ 33 (d := d__law_world) rfl)
  have D_law_is_trial : Def1 K mg "_law_is_trial" K2.s__law_is_trial := def1 (st := s__law_is_trial) X G (c.fact 34 (f := .glo "_law_is_trial") rfl) (c.def_ 34 (d := d__law_is_trial) rfl)
  have D_law_is_world : Def1 K mg "_law_is_world" K2.s__law_is_world := def1 (st := s__law_is_world) X G (c.fact 35 (f := .glo "_law_is_world") rfl) (c.def_ 35 (d := d__law_is_world) rfl)
  have D_law_planted : Def1 K mg "_law_planted" K2.s__law_planted := def1 (st := s__law_planted) X G (c.fact 36 (f := .glo "_law_planted") rfl) (c.def_ 36 (d := d__law_planted) rfl)
  have D_law_right : Def1 K mg "_law_right" K2.s__law_right := def1 (st := s__law_right) X G (c.fact 37 (f := .glo "_law_right") rfl) (c.def_ 37 (d := d__law_right) rfl)
  have Dlaw : Def1 K mg "law" s_law := def1 X G (c.fact 38 (f := .glo "law") rfl) (c.def_ 38 (d := d_law) rfl)
  have o_draw := cal__law_draw (P := P) (w := w) (base := base) T1 D_law_draw
  have o_well := cal__law_well (P := P) (w := w) (base := base) T1 D_law_well
  have o_one := cal__law_one T1 D_law_one o_draw
  have o_oneD : Cal P w K mg base "_law_one" 2 P__law_one (spOneD K) := o_one.imp fun _ _ _ _ q => one_d q
  have o_lean := cal__law_lean (P := P) (w := w) (base := base) T1 D_law_lean
  have o_minus := cal__law_minus T1 D_law_minus o_lean
  have o_number := cal__law_number T1 D_law_number o_draw o_oneD o_lean
  have o_numbers := cal__law_numbers T1 D_law_numbers o_number
  have o_trial := cal__law_trial T1 D_law_trial o_draw o_one o_numbers o_minus
  have c__law_one := o_one
  have c__law_draw : Cal P w K mg base "_law_draw" 1 P__law_draw (Dl.spW K (TT K) 1 K2.g_draw) := o_draw.imp fun _ _ _ _ q => K2.draw_w q
  have c__law_numbers : Cal P w K mg base "_law_numbers" 4 P__law_numbers (Dl.spW K (TT K) 1 K2.g_numbers) := o_numbers.imp fun _ _ _ _ q => K2.numbers_w q
  have c__law_trial : Cal P w K mg base "_law_trial" 5 P__law_trial (Dl.spW K (TT K) 1 K2.g_trialD) := o_trial.imp fun _ _ _ _ q => K2.trial_w q
  have c__law_lean : Cal P w K mg base "_law_lean" 1 P__law_lean (Dl.spD K (TT K) 2 K2.g_lean) := o_lean.imp fun _ _ _ _ q => K2.lean_d q
  have c__law_is_whole := K2.cal__law_is_whole (P := P) (w := w) (base := base) (T := TT K) T2 D_law_is_whole  K2.eq_lwhole
  have c__law_odd := K2.cal__law_odd (P := P) (w := w) (base := base) (T := TT K) T2 D_law_odd c__law_one K2.eq_odd
  have c__law_bent := K2.cal__law_bent (P := P) (w := w) (base := base) (T := TT K) T2 D_law_bent c__law_draw c__law_is_whole c__law_odd K2.eq_bent
  have c__law_maybe := K2.cal__law_maybe (P := P) (w := w) (base := base) (T := TT K) T2 D_law_maybe c__law_draw c__law_bent c__law_odd K2.eq_maybe
  have c__law_is_tuple := K2.cal__law_is_tuple (P := P) (w := w) (base := base) (T := TT K) T2 D_law_is_tuple  K2.eq_ltup
  have c__law_is_part := K2.cal__law_is_part (P := P) (w := w) (base := base) (T := TT K) T2 D_law_is_part c__law_is_tuple c__law_is_whole c__law_lean K2.eq_lpart
  have c__law_is_row := K2.cal__law_is_row (P := P) (w := w) (base := base) (T := TT K) T2 D_law_is_row c__law_is_tuple c__law_is_part K2.eq_lrow
  have c__law_is_trial := K2.cal__law_is_trial (P := P) (w := w) (base := base) (T := TT K) T2 D_law_is_trial c__law_is_tuple c__law_is_row c__law_is_whole K2.eq_ltrial
  have c__law_levels := K2.cal__law_levels (P := P) (w := w) (base := base) (T := TT K) T2 D_law_levels  K2.eq_llev
  have c__law_world := K2.cal__law_world (P := P) (w := w) (base := base) (T := TT K) T2 D_law_world c__law_numbers c__law_levels K2.eq_worldD
  have c__law_is_world := K2.cal__law_is_world (P := P) (w := w) (base := base) (T := TT K) T2 D_law_is_world c__law_is_row c__law_levels c__law_is_tuple K2.eq_lworld
  have c__law_planted := K2.cal__law_planted (P := P) (w := w) (base := base) (T := TT K) T2 D_law_planted c__law_draw K2.eq_planted
  have c_is_whole := K2.cal_is_whole (P := P) (w := w) (base := base) (T := TT K) T2 Dis_whole  K2.eq_whole
  have c_is_fraction := K2.cal_is_fraction (P := P) (w := w) (base := base) (T := TT K) T2 Dis_fraction c_is_whole K2.eq_frac
  have c_is_row := K2.cal_is_row (P := P) (w := w) (base := base) (T := TT K) T2 Dis_row c_is_fraction K2.eq_row
  have c__are_plots := K2.cal__are_plots (P := P) (w := w) (base := base) (T := TT K) T2 D_are_plots c_is_row K2.eq_plots
  have c_is_spread := K2.cal_is_spread (P := P) (w := w) (base := base) (T := TT K) T2 Dis_spread c_is_fraction K2.eq_spread
  have c__are_spreads := K2.cal__are_spreads (P := P) (w := w) (base := base) (T := TT K) T2 D_are_spreads c_is_spread K2.eq_spreads
  have c_is_index := K2.cal_is_index (P := P) (w := w) (base := base) (T := TT K) T2 Dis_index c_is_whole K2.eq_index
  have c_is_block := K2.cal_is_block (P := P) (w := w) (base := base) (T := TT K) T2 Dis_block c_is_index K2.eq_block
  have c__are_blocks := K2.cal__are_blocks (P := P) (w := w) (base := base) (T := TT K) T2 D_are_blocks c_is_block K2.eq_blocks
  have c_is_trial := K2.cal_is_trial (P := P) (w := w) (base := base) (T := TT K) T2 Dis_trial c__are_plots c__are_spreads c__are_blocks K2.eq_trial
  have k_is_trial := K2.calk_is_trial (P := P) (w := w) (base := base) (T := TT K) T2 Dis_trial c__are_plots c__are_spreads c__are_blocks K2.eq_trial
  have c_check_trial := K2.cal_check_trial (P := P) (w := w) (base := base) (T := TT K) T2 Dcheck_trial c_is_trial K2.eq_check
  have c_is_question_of := K2.cal_is_question_of (P := P) (w := w) (base := base) (T := TT K) T2 Dis_question_of c_is_row K2.eq_quest
  have c_count_levels := K2.cal_count_levels (P := P) (w := w) (base := base) (T := TT K) T2 Dcount_levels  K2.eq_count
  have c_is_world_of := K2.cal_is_world_of (P := P) (w := w) (base := base) (T := TT K) T2 Dis_world_of c_is_question_of c_is_row c_count_levels K2.eq_worldOf
  have c_is_world := K2.cal_is_world (P := P) (w := w) (base := base) (T := TT K) T2 Dis_world c_check_trial c_is_world_of K2.eq_world
  have k_is_world := K2.calk_is_world (P := P) (w := w) (base := base) (T := TT K) T2 Dis_world c_check_trial c_is_world_of K2.eq_world
  have c_is_question := K2.cal_is_question (P := P) (w := w) (base := base) (T := TT K) T2 Dis_question c_check_trial c_is_question_of K2.eq_question
  have k_is_question := K2.calk_is_question (P := P) (w := w) (base := base) (T := TT K) T2 Dis_question c_check_trial c_is_question_of K2.eq_question
  have c_levels_of := K2.cal_levels_of (P := P) (w := w) (base := base) (T := TT K) T2 Dlevels_of c_check_trial c_count_levels K2.eq_levels
  have k_levels_of := K2.calk_levels_of (P := P) (w := w) (base := base) (T := TT K) T2 Dlevels_of c_check_trial c_count_levels K2.eq_levels
  have c__law_right := K2.cal__law_right (P := P) (w := w) (base := base) (T := TT K) T2 S D_law_right c__law_trial c__law_bent c__law_maybe c__law_odd c__law_is_trial c__law_world c__law_numbers c__law_is_world c__law_is_row c__law_planted c_is_trial k_is_trial c_is_world k_is_world c_is_question k_is_question c_levels_of k_levels_of c__law_levels K2.eq_right
  have r : Cal P w K mg base "_law_right" 10 P__law_right (spRightT (TT K)) := c__law_right.imp fun _ _ _ _ q => right_w q
  exact cal_law T1 Dlaw r o_well
end
end K1
open PySem PySem.W PySem.Calls PyProof.Rows
theorem PySem.Challenge.cw_trialground_k02_whole_trials_worlds_ques_holds : PySem.Challenge.rw_trialground_k02_whole_trials_worlds_ques.Holds := by
  w_on; o_law
  refine HandSHeadRun.head_imp (r := K1.R) (q := view K1.R.prog [0, 49]) (H := K1.hk) (ob := K1.ob) (M := 6000) (loose := K1.LO) (d := HandSHeadRun.topDef K1.R.prog 49) (kwd := []) K1.ob_eq
    K1.run (by kernel_rfl) (by kernel_rfl) (by kernel_rfl) (by rfl) (by first | assumption | decide +kernel) (by decide +kernel) ⟨rfl, rfl, rfl, rfl, rfl, by decide +kernel⟩ ?hw ?hc
  case hw => w_witness2
  case hc =>
    refine Gd.walk_g (l := PySem.Challenge.rw_trialground_k02_whole_trials_worlds_ques) (n := 63) (k := 11) (x := "_law_script") (CX := fun _ => L2.CX0) rfl (by decide) (by kernel_rfl) ⟨rfl, by decide, by decide⟩ (by kernel_rfl) ?F (fun _ _ _ _ _ z => z)
    intro w mg fa h Y G hmg0
    obtain ⟨K, KX, c⟩ := Y
    have hmg : mg ("law" : PySem.Str) = some (.ref fa) := by
      have e : (HandSHeadRun.topDef K1.R.prog 49).name = ("law" : PySem.Str) := by kernel_rfl
      rw [← e]
      exact hmg0
    refine ⟨K, KX, K1.tf.map (He.cT K), K1.spLawT K (K1.TT K), ?_, ?_, ?_, fun H a ns hl _ hT hS => ⟨a, ns, rfl, hS, by omega, ?_, fun _ => rfl⟩, fun base _ _ S B => ?_⟩
    · intro p hp
      obtain ⟨q, hq, rfl⟩ := List.mem_map.mp hp
      exact c.empty q hq
    · intro p hp
      obtain ⟨q, hq, rfl⟩ := List.mem_map.mp hp
      exact c.out q hq
    · intro p hp
      obtain ⟨q, hq, rfl⟩ := List.mem_map.mp hp
      exact PySem.W.codeHd_of_K KX (c.hd q hq)
    · rintro b ⟨p, hp, rfl⟩
      exact ⟨_, hT p hp, by simp [TriplesOk]⟩
    obtain ⟨f, fd, F, hm, hk, hb⟩ := K1.law_cal (P := (PySem.Challenge.rw_trialground_k02_whole_trials_worlds_ques).prog) (w := w) KX G c.t.d c.more S B
    have e := hm.symm.trans hmg
    cases e
    exact ⟨fd, F, hb⟩
