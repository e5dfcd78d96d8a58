import PyProof.Rows.All
import Wide.All
import OpenK.AllK
import Wide.FinOn
import HandS.ForMost
import HandS.ForExc
import HandS.Defaults
import HandS.EndTab
import HandS.HeadWalk
import HandS.HeadHook4
import HandS.AnyAll
import HandS.Lambda
import HandS.TupAny
import HandS.TupMul
import HandS.WideBits
import HandS.Wide
import HandS.Zip
import HandS.IsInst
import HandS.Flow
import HandS.Style
import HandS.Gcd
import PyProof.ReprRoads
import HandS.Codes
import HandS.Iter
import HandS.ExcInit
import HandS.ExcOwn
import HandS.ExcValue
import HandS.ExcField
import KE.KExcIs
import PyProof.ReprBulk
import KE.KStateDown
import HandS.Head0
import HandS.Head1
import HandS.Head2
import HandS.HeadEnd
import HandS.HeadHook1
import HandS.HeadHook2
import HandS.HeadHook3
import PySem.Challenge.RW_trialground_k01_errors_each_of_its_own
set_option Elab.async false
set_option linter.all false
set_option maxRecDepth 100000
set_option maxHeartbeats 2000000
/-! Gd: a def's promise kept where no printing is under way (repr may be asked there); its rules; the end of a law. -/
namespace Gd
open PySem PySem.Spec PyProof.Rows L2

/-- nothing is being printed around here -/
def Cl (A : Around) : Prop := A.guards = some []
theorem cl_caller : Cl callerA := rfl
theorem cl_deeper {A : Around} (h : Cl A) (env : Env) : Cl (A.deeper env) := by
  unfold Cl at *
  first
    | exact h
    | (simp [Around.deeper, h]; done)
    | (show (A.deeper env).guards = some []; unfold Around.deeper; simpa using h)
theorem cl_in1 {A : Around} (h : Cl A) : Cl A.in1 := h

/-- a def keeps its promise, wherever nothing is being printed -/
structure FnG (P : Program) (w : World) (K : PySem.W.Frag) (mg : Str → Option Value) (base : Heap) (CX : CXT) (k : Nat) (f : Addr) (fd : FuncData) (ps : List Str) (sp : Sp) : Prop where
  len : ∀ vs H Q E, sp vs H Q E → vs.length = ps.length
  run : ∀ (A : Around) (outer : List Env) (s : Shared) (H : Hp) (args : Args) (us : List Value) (vs : List V) (Q : VK) (E : XK), Cl A → Room k A → Env0 P w K mg base A outer s H → BindsTo s fd args (ps.zip us) → Vals vs us → sp vs H Q E →
    codeAny (model P w) A (.call (.ref f) args) (CR CX outer P w H s Q E) s

section
variable {P : Program} {w : World} {K : PySem.W.Frag} {mg : Str → Option Value} {base : Heap} {CX : CXT} {j k : Nat} {f : Addr} {fd : FuncData} {ps : List Str} {sp sp' : Sp}
theorem FnG.of (F : FnOk P w K mg base CX k f fd ps sp) : FnG P w K mg base CX k f fd ps sp :=
  ⟨F.len, fun A o s H a us vs Q E _ => F.run A o s H a us vs Q E⟩
theorem FnG.up (F : FnG P w K mg base CX j f fd ps sp) (h : j ≤ k) : FnG P w K mg base CX k f fd ps sp :=
  ⟨F.len, fun A o s H a us vs Q E g r => F.run A o s H a us vs Q E g (r.mono h)⟩
theorem FnG.imp (F : FnG P w K mg base CX k f fd ps sp) (h : ∀ vs H Q E, sp' vs H Q E → sp vs H Q E) : FnG P w K mg base CX k f fd ps sp' :=
  ⟨fun vs H Q E q => F.len vs H Q E (h vs H Q E q), fun A o s H a us vs Q E g r e b v q => F.run A o s H a us vs Q E g r e b v (h vs H Q E q)⟩

/-- the rule of a def, by its body -/
theorem FnG.ok {x qual : Str} {params : Arguments} {body : List Stmt} {scope : Scope} {dvs : List V} {kws : List (Str × V)} {N : List Str}
    (F : FunD K x qual params body scope dvs kws f fd) (S : FnScope N ps scope) (len : ∀ vs H Q E, sp vs H Q E → vs.length = ps.length)
    (hb : ∀ (cdv : Value) (A : Around) (outer : List Env) (s : Shared) (H : Hp) (vs : List V) (Q : VK) (E : XK), Cl (A.deeper (envOfC qual scope s.heap.objs.size f cdv)) → Room k (A.deeper (envOfC qual scope s.heap.objs.size f cdv)) → PySem.W.codeIn K cdv qual = true → (∀ c, K.lookup f = some c → ∃ fd', c.data = .func fd' ∧ fd'.code = cdv) → sp vs H Q E →
      ∃ t, PSs (cxOf CX P w K mg base N qual scope f cdv A outer s H E) body t ∧ t { nx := fun _ H' => Q .non H', rt := Q } (start N vs) H) :
    FnG P w K mg base CX (k + 1) f fd ps sp := by
  obtain ⟨oc, od, dV, kV, doc, pm, an, cdv, ct, osl, rfl, lk, hcd, _, _⟩ := F.ex
  refine ⟨len, fun A outer s H args us vs Q E hG hr e0 hbi r hsp => ?_⟩
  have hl := len _ _ _ _ hsp
  have old : ∀ b o, base.get? b = some o → s.heap.get? b = some o := fun b o e => (e0.bs b o e).1
  have KX : K.In s.heap := e0.mod.kin.keeps old
  have params_ok : ∀ y ∈ ps.zip us, scope.names.lookup y.1 = some .local ∨ (scope.names.lookup y.1 = some .cell ∧ ((cellsFrom (s.heap.objs.size + 1) scope.names []).lookup y.1).isSome = true) := by
    rintro ⟨n, v⟩ hy
    exact (S.par n (List.of_mem_zip hy).1).imp id fun q => ⟨q, PySem.W.cellsFrom_some _ _ _ (.inl q)⟩
  refine codeAny_call_function hr.depth (KX _ _ lk) rfl S.co S.gen rfl (PySem.W.codeRec_of KX hcd) (hbi _ _ _ _ ?_)
  refine wpAny_newFunctionEnv_cells S.kind params_ok fun env he s1 x => ?_
  subst he
  refine ⟨(e0.mod.nolimit.keeps old).keeps x.toInCall.keep, codeAny_func ?_⟩
  obtain ⟨t, ht, hq⟩ := hb cdv A outer s H vs Q E (cl_deeper hG _) (hr.deeper _) hcd (fun c hc => by rw [lk] at hc; cases hc; exact ⟨_, rfl, rfl⟩) hsp
  have I := inv_start (CX := CX) (P := P) (w := w) (E := E) S hr.hd e0 hl r x
  refine wpAny_mono (ht.run [] s1 _ H _ I hq) (fun fl s' hs => ?_) fun e s' hs => hs
  cases fl with
  | ret u =>
    obtain ⟨v, σ', H', J, rv, q⟩ := hs
    exact ⟨v, H', J.os, J.bare, J.base, J.hok, rv, q⟩
  | next =>
    obtain ⟨σ', H', J, q⟩ := hs
    exact ⟨.non, H', J.os, J.bare, J.base, J.hok, rfl, q⟩
  | brk => exact (show False from let ⟨_, _, _, q⟩ := hs; q).elim
  | cont => exact (show False from let ⟨_, _, _, q⟩ := hs; q).elim
end

/-! ### calls -/
section
variable {X : Cx} {CX : CXT} {k : Nat} {f : Addr} {fd : FuncData} {ps ks : List Str} {sp : Sp} {dvs : List V} {ds : List Value} {E : XK} {x : Str} {p pos : Pos} {e : Expr} {es : List Expr} {t tk : TA} {kws : List Keyword}
  {g : List Value → List Value → List Value} {gV : List V → List V → List V}
theorem run_g {pins : List (Addr × Obj)} {σ : L2.St} {H : Hp} {s : Shared} {Q : VK} {us vs' : List Value} {zs : List V} {args : Args} (F : FnG X.prog X.w X.K X.mg X.base CX k f fd ps sp) (hG : Cl X.A) (hr : Room k X.A) (hx : Passes CX X E)
    (I : Inv X pins σ H s) (hb : us.length = ps.length → BindsTo s fd args (ps.zip us)) (r : Vals zs us) (h : sp zs H Q E) : codeAny (model X.prog X.w) X.A (.call (.ref f) args) (fun r s' => match r with
      | .ok (.ret u) => EP X pins σ Q u s'
      | .ok _ => False
      | .error e => X.xe e s') s := by
  have hl : us.length = ps.length := by rw [← Paired.length r]; exact F.len _ _ _ _ h
  refine codeAny_mono (F.run X.A X.stack s H args us zs Q E hG hr I.env0 (hb hl) r h) fun r s' hq => ?_
  cases r with
  | error e => exact hx pins σ H s e s' I hq
  | ok fl =>
    cases fl with
    | ret u => exact I.after hq
    | next => exact hq
    | brk => exact hq
    | cont => exact hq
theorem call_g {pins : List (Addr × Obj)} {σ : L2.St} {H : Hp} {s : Shared} {Q : VK} {us : List Value} {zs : List V} {us0 : List Value} {kw : List (Str × Value)} (F : FnG X.prog X.w X.K X.mg X.base CX k f fd ps sp) (hG : Cl X.A) (hr : Room k X.A) (hx : Passes CX X E)
    (I : Inv X pins σ H s) (hb : us.length = ps.length → BindsTo s fd ⟨us0, kw⟩ (ps.zip us)) (r : Vals zs us) (h : sp zs H Q E) : wpAny (model X.prog X.w) X.A (call (.ref f) us0 kw) (EP X pins σ Q) X.xe s := by
  refine wpAny_call (codeAny_mono (run_g (vs' := us0) F hG hr hx I hb r h) fun r s' hq => ?_)
  cases r with
  | error e => exact hq
  | ok fl =>
    cases fl with
    | ret u => exact hq
    | next => exact hq.elim
    | brk => exact hq.elim
    | cont => exact hq.elim
/-- f(e, ..) -/
theorem pe_cg (F : FnG X.prog X.w X.K X.mg X.base CX k f fd ps sp) (hG : Cl X.A) (hr : Room k X.A) (hg : Gl X x) (hm : X.mg x = some (.ref f)) (hk : PySem.W.keepIn X.K (.ref f) = true) (hb : Binds X.K fd ps ds) (hd : Vals dvs ds) (hx : Passes CX X E)
    (ha : PA X (e :: es) t) (hdb : (x == ("__debug__" : Str)) = false := by decide) (he : starEach (e :: es) X.env = (false, eval e X.env) :: starEach es X.env := by rfl) (hpl : (backTo pos (starEach es X.env)).any (·.1) = false := by rfl) :
    PE X (.Call (.Name x p) (e :: es) [] pos) (tCall sp dvs E t) :=
  ⟨fun pins s σ H Q I h => wpAny_Call_Name_kw (ld_glob I hg hm (PySem.W.callWith_K (h₀ := X.base) I.ok.mod.kin hk (thn (ha.run pos pins s σ H _ I h) fun us s1 ⟨vs, H1, I1, r, q⟩ =>
    ⟨I1.kIn, call_g F hG hr hx I1 (hb s1 us I1.kIn) (r.append hd) q⟩) he hpl) hdb)⟩
/-- f() -/
theorem pe_cg0 (F : FnG X.prog X.w X.K X.mg X.base CX k f fd ps sp) (hG : Cl X.A) (hr : Room k X.A) (hg : Gl X x) (hm : X.mg x = some (.ref f)) (hk : PySem.W.keepIn X.K (.ref f) = true) (hb : Binds X.K fd ps ds) (hd : Vals dvs ds) (hx : Passes CX X E)
    (hdb : (x == ("__debug__" : Str)) = false := by decide) : PE X (.Call (.Name x p) [] [] pos) (tCall sp dvs E tNil) :=
  ⟨fun pins s σ H Q I h => wpAny_Call_Name_kw (ld_glob I hg hm (PySem.W.callWith_K0 I.kIn hk (call_g (us0 := []) F hG hr hx I (hb s [] I.kIn) (.append .nil hd) h)) hdb)⟩
end

section
variable {X : Cx} {CX : CXT} {k : Nat} {f : Addr} {fd : FuncData} {ps ks : List Str} {sp : Sp} {E : XK} {x : Str} {p pos : Pos} {e : Expr} {es : List Expr} {t tk : TA} {kws : List Keyword} {n m : Nat}
  {g : {α : Type} → List α → List α → List α}
/-- n values by position, m by name (ks): g puts them in the parameters' order -/
structure KwB (K : PySem.W.Frag) (fd : FuncData) (ps ks : List Str) (n : Nat) (g : {α : Type} → List α → List α → List α) : Prop where
  to : ∀ (s : Shared) (us ws : List Value), us.length = n → ws.length = ks.length → BindsTo s fd ⟨us, ks.zip ws⟩ (ps.zip (g us ws))
  rel : ∀ {vs zs : List V} {us ws : List Value}, Vals vs us → Vals zs ws → vs.length = n → zs.length = ks.length → Vals (g vs zs) (g us ws)
/-- f(e, .., k = v, ..) -/
def tCK (sp : Sp) (n m : Nat) (g : {α : Type} → List α → List α → List α) (E : XK) (t tk : TA) : TE := fun σ H Q => t σ H fun vs H1 => tk σ H1 fun zs H2 => vs.length = n ∧ zs.length = m ∧ sp (g vs zs) H2 Q E
theorem pe_ck0 (F : FnG X.prog X.w X.K X.mg X.base CX k f fd ps sp) (hG : Cl X.A) (hr : Room k X.A) (hg : Gl X x) (hm : X.mg x = some (.ref f)) (hk : PySem.W.keepIn X.K (.ref f) = true) (hb : KwB X.K fd ps ks 0 g) (hx : Passes CX X E) (hkw : PK X kws tk)
    (hall : (backToKw pos (keywordEach kws X.env)).all (·.1.isSome) = true := by rfl) (hks : (backToKw pos (keywordEach kws X.env)).filterMap (·.1) = ks := by rfl) (hdb : (x == ("__debug__" : Str)) = false := by decide)
    (hpl : ((backTo pos (starEach [] X.env)).any (·.1) || (backToKw pos (keywordEach kws X.env)).any (·.1.isNone)) = false := by rfl) :
    PE X (.Call (.Name x p) [] kws pos) (tCK sp 0 ks.length g E tNil tk) := by
  refine ⟨fun pins s σ H Q I h => wpAny_Call_Name_kw (ld_glob I hg hm (PySem.W.callWith_KW0 (h₀ := X.base) I.ok.mod.kin hk hall (thn (hkw.run pos pins s σ H _ I h) fun ws s2 ⟨zs, H2, I2, rz, l1, l2, q2⟩ => ⟨I2.kIn, ?_⟩) hpl) hdb)⟩
  rw [hks]
  have lw : ws.length = ks.length := by rw [← Paired.length rz]; exact l2
  exact call_g (us := g [] ws) (zs := g [] zs) F hG hr hx I2 (fun _ => hb.to s2 [] ws rfl lw) (hb.rel .nil rz rfl l2) q2
end

/-! ### the end of a law -/
/-- what is known of the tables: cs, code objects and their tables -/
theorem law_end {P : Program} {w : World} {K : PySem.W.Frag} {mg mb : Str → Option Value} {CX : CXT} {k : Nat} {fa a : Addr} {cs : List (Addr × Addr)} {x : Str} {sp : Sp} {s₁ : Shared} {vs : List Value} {ns : List Int}
    (KX : K.In s₁.heap) (hns : s₁.heap.Ns mainGlobals mg) (hb : s₁.heap.Ns builtinsNs mb) (hbb : ∀ x : Str, x ≠ "__name__" → mb x = bootBuiltins x) (hlim : s₁.heap.NoLimit) (hg : s₁.gens = #[])
    (hT : ∀ p ∈ cs, s₁.heap.get? p.2 = some { cls := .none, data := .fields #[] }) (nT : ∀ p ∈ cs, K.lookup p.2 = none) (C : ∀ p ∈ cs, PySem.W.CodeHd s₁.heap p.1 p.2)
    (hbm : ∃ (bm : Addr) (ob : Obj), mg "__builtins__" = some (.ref bm) ∧ bm ≠ builtinsNs ∧ s₁.heap.get? bm = some ob ∧ ob.cls = .type "module" ∧ ob.dict = some builtinsNs ∧ ob.data = .plain)
    (ha : s₁.heap.get? a = some { cls := .type "list", data := .seq vs.toArray }) (hi : IntsAre vs ns) (hl : ns.length ≤ sizeLine) (hr : Room k callerA)
    (hsys : ∃ m, s₁.heap.Ns sysModules m) (F : ∀ base : Heap, K.In base → base.Ns mainGlobals mg → (∃ m, base.Ns sysModules m) → (∀ p ∈ cs, LamX.TabB base mg p.1 p.2) → ∃ fd, FnG P w K mg base CX k fa fd [x] sp ∧ Binds K fd [x] [])
    (hsp : ∀ H : Hp, (∀ p ∈ cs, H p.2 = some (.tbl #[])) → SqL K H a (ns.map V.int) → sp [.ref a] H (fun v _ => v = .bl true) fun _ _ _ => False)
    (hCX : ∀ H e s', CX [] H s₁ (fun _ _ _ => False) e s' → False) :
    codeAny (model P w) callerA (.call (.ref fa) ⟨[.ref a], []⟩) (fun r s' => r = .ok (.ret (.bool true)) ∧ OldK s₁.heap s'.heap ∧ s'.os = s₁.os ∧ AllBare s'.gens) s₁ := by
  let T : Addr → Prop := fun b => ∃ p ∈ cs, p.2 = b
  have isT : ∀ b, T b → s₁.heap.get? b = some { cls := .none, data := .fields #[] } := by
    rintro b ⟨p, hp, rfl⟩
    exact hT p hp
  have aT : ¬ T a := fun z => by
    have q := isT a z
    rw [ha] at q
    exact absurd (congrArg Obj.cls (Option.some.inj q)) (by simp)
  have main : ∀ H : Hp, (∀ b, T b → H b = some (.tbl #[])) → (∀ b u, H b = some u → T b ∨ (b = a ∧ K.lookup a = none ∧ u = .frz { cls := .type "list", data := .seq vs.toArray } (.lst (ns.map V.int)))) → SqL K H a (ns.map V.int) →
      codeAny (model P w) callerA (.call (.ref fa) ⟨[.ref a], []⟩) (fun r s' => r = .ok (.ret (.bool true)) ∧ OldK s₁.heap s'.heap ∧ s'.os = s₁.os ∧ AllBare s'.gens) s₁ := by
    intro H hH hO hS
    have hok : HOk P w H s₁.heap := fun b u e => by
      rcases hO b u e with z | ⟨rfl, _, rfl⟩
      · rw [hH b z] at e
        cases e
        exact isT b z
      · exact ⟨ha, by rw [List.length_map]; exact hl, vs, _, vals_ints hi, ha⟩
    have free : ∀ {b : Addr} {o : Obj}, s₁.heap.get? b = some o → o.cls ≠ .type "list" → o.cls ≠ .none → H b = none := fun {b o} e h1 h2 => by
      cases q : H b with
      | none => rfl
      | some u =>
        rcases hO b u q with z | ⟨rfl, _, _⟩
        · rw [isT b z] at e
          cases e
          exact absurd rfl h2
        · rw [ha] at e
          cases e
          exact absurd rfl h1
    have freeD : ∀ {b : Addr} {o : Obj}, s₁.heap.get? b = some o → (∀ ws n, o.data ≠ .seq ws n) → o.data ≠ .fields #[] → H b = none := fun {b o} e h1 h2 => by
      cases q : H b with
      | none => rfl
      | some u =>
        rcases hO b u q with z | ⟨rfl, _, _⟩
        · rw [isT b z] at e
          cases e
          exact absurd rfl h2
        · rw [ha] at e
          cases e
          exact absurd rfl (h1 _ _)
    have ns' : ∀ {b : Addr} {m : Str → Option Value}, s₁.heap.Ns b m → (hidT s₁.heap H).Ns b m := fun {b m} ⟨o, es, ep, e, d, r⟩ => ⟨o, es, ep, hidT_get e (freeD e (fun _ _ z => by rw [d] at z; cases z) fun z => by rw [d] at z; cases z), d, r⟩
    have hKb : K.In (hidT s₁.heap H) := fun b o e => hidT_get (KX b o e) (by
      cases q : H b with
      | none => rfl
      | some u =>
        rcases hO b u q with ⟨p, hp, rfl⟩ | ⟨rfl, z, _⟩
        · rw [nT p hp] at e
          cases e
        · rw [z] at e
          cases e)
    have hM : L2.Mod K mg (hidT s₁.heap H) := ⟨hKb, ns' hns, ⟨mb, ns' hb, hbb⟩, let ⟨mc, h1, h2⟩ := hlim; ⟨mc, ns' h1, h2⟩⟩
    have TB : ∀ p ∈ cs, LamX.TabB (hidT s₁.heap H) mg p.1 p.2 := fun p hp => by
      refine ⟨?_, ?_, ?_⟩
      · obtain ⟨o, us, file, tf, flags, tg, inF, text, tt, e1, r1, r2, r3, r4, r5, r6, r7, r8, hne⟩ := C p hp
        refine ⟨o, us, file, tf, flags, tg, inF, text, tt, hidT_get e1 (freeD e1 (fun _ _ z => by rw [r2] at z; cases z) fun z => ?_), r1, r2, r3, r4, r5, r6, r7, r8, hne⟩
        rw [r2] at z
        injection z with z
        rw [z] at r3
        simp at r3
      · obtain ⟨bm, ob, b1, b2, b3, b4, b5, b6⟩ := hbm
        have nd : ∀ {c : Addr} {oc : Obj}, s₁.heap.get? c = some oc → oc.data ≠ .plain → bm ≠ c := fun {c oc} e hne z => by
          rw [← z, b3] at e
          cases e
          exact hne b6
        refine ⟨bm, ob, b1, b2, ?_, nd (hT p hp) (fun z => by cases z), hidT_get b3 (freeD b3 (fun _ _ z => by rw [b6] at z; cases z) fun z => by rw [b6] at z; cases z), b4, b5, b6⟩
        obtain ⟨o, es, ep, e, hd, _⟩ := hns
        exact nd e fun z => by rw [hd] at z; cases z
      · intro z
        obtain ⟨o, es, ep, e, hd, _⟩ := hns
        rw [z, hT p hp] at e
        cases e
        cases hd
    have e0 : Env0 P w K mg (hidT s₁.heap H) callerA [] s₁ H := ⟨rfl, hM, fun b o e => of_hidT e, Nat.le_of_eq (hidT_size _ _), trivial, fun b hb => absurd (show b ∈ ([] : List Addr) from hb) (by simp), hok, .of_eq hg⟩
    obtain ⟨fd, FF, hbind⟩ := F _ hKb (ns' hns) (let ⟨m, q⟩ := hsys; ⟨m, ns' q⟩) TB
    refine codeAny_mono (FF.run callerA [] s₁ H ⟨[.ref a], []⟩ [.ref a] [.ref a] _ _ cl_caller hr e0 (hbind s₁ [.ref a] KX rfl) (.cons rfl .nil) (hsp H (fun p hp => hH p.2 ⟨p, hp, rfl⟩) hS)) fun r s' h => ?_
    cases r with
    | error e => exact (hCX H e s' h).elim
    | ok fl =>
      cases fl with
      | next => exact False.elim h
      | brk => exact False.elim h
      | cont => exact False.elim h
      | ret u =>
        obtain ⟨v, H', os, bare, un, hok', r', q⟩ := h
        obtain rfl : v = .bl true := q
        obtain rfl : u = Value.bool true := r'
        have key : ∀ b o, ¬ T b → s₁.heap.get? b = some o → s'.heap.get? b = some o := fun b o nb e => by
          cases q : H b with
          | none => exact un.keep b o e q (fun z => absurd (show b ∈ ([] : List Addr) from z) (by simp)) (by simp)
          | some u =>
            rcases hO b u q with z | ⟨rfl, _, rfl⟩
            · exact absurd z nb
            · rw [(hok _ _ q).1] at e
              cases e
              exact (hok' _ _ (un.frzs _ _ _ q)).1
        have grown : ∀ b, T b → ∃ more : Array Value, s'.heap.get? b = some { cls := .none, data := .fields more } := fun b hb => by
          obtain ⟨more, z⟩ := un.tbls b #[] (hH b hb)
          exact ⟨_, hok' b _ z⟩
        refine ⟨rfl, ⟨fun b o e => ?_, fun b o e => ?_⟩, os, bare⟩
        · by_cases hb : T b
          · obtain ⟨p, hp, rfl⟩ := id hb
            obtain ⟨more, hm⟩ := grown _ hb
            rw [hT p hp] at e
            cases e
            exact .inr (.inl ⟨((C p hp).tab (hT p hp)).isCodeTable, rfl, #[], more, rfl, by rw [Array.empty_append]; exact hm⟩)
          · exact .inl (key b o hb e)
        · by_cases hb : T b
          · obtain ⟨more, hm⟩ := grown b hb
            exact ⟨_, hm⟩
          · exact ⟨o, key b o hb e⟩
  classical
  cases hk : K.lookup a with
  | some o =>
    have e := KX a o hk
    rw [ha] at e
    cases e
    refine main (fun b => if T b then some (.tbl #[]) else none) (fun b z => if_pos z) (fun b u e => ?_) (.inr ⟨_, vs.toArray, _, hk, rfl, rfl, rfl, by rw [List.size_toArray, hi.length]; exact hl, by simpa using vals_ints hi⟩)
    by_cases hb : T b
    · exact .inl hb
    · have e' := (if_neg hb).symm.trans e
      cases e'
  | none =>
    refine main (fun b => if T b then some (.tbl #[]) else if b = a then some (.frz { cls := .type "list", data := .seq vs.toArray } (.lst (ns.map V.int))) else none) (fun b z => if_pos z) (fun b u e => ?_)
      (.inl (.inr ⟨{ cls := .type "list", data := .seq vs.toArray }, (if_neg aT).trans (if_pos rfl)⟩))
    by_cases hb : T b
    · exact .inl hb
    · have e1 := (if_neg hb).symm.trans e
      by_cases h2 : b = a
      · have e2 := (if_pos h2).symm.trans e1
        cases e2
        exact .inr ⟨h2, hk, rfl⟩
      · have e2 := (if_neg h2).symm.trans e1
        cases e2
/-- what is known of the law at the head's heap -/
def LawG (l : PySem.W.OpenLaw) (w : World) (K : PySem.W.Frag) (CX : CXT) (k n : Nat) (x : Str) (mg : Str → Option Value) (fa : Addr) (h : Heap) : Prop :=
  ∃ (cs : List (Addr × Addr)) (sp : Sp), (∀ p ∈ cs, h.get? p.2 = some { cls := .none, data := .fields #[] }) ∧ (∀ p ∈ cs, K.lookup p.2 = none) ∧ (∀ p ∈ cs, PySem.W.CodeHd h p.1 p.2) ∧
    (∀ (H : Hp) (a : Addr) (ns : List Int), ns.length ≤ n → (∀ z ∈ ns, Builtin.Int.intBits z ≤ 1048576) → (∀ p ∈ cs, H p.2 = some (.tbl #[])) → SqL K H a (ns.map V.int) → sp [.ref a] H (fun v _ => v = .bl true) fun _ _ _ => False) ∧
    ∀ base : Heap, K.In base → base.Ns mainGlobals mg → (∃ m, base.Ns sysModules m) → (∀ p ∈ cs, LamX.TabB base mg p.1 p.2) → ∃ fd, FnG l.prog w K mg base CX k fa fd [x] sp ∧ Binds K fd [x] []
theorem sys_of {h : Heap} (q : h.NoSeer) : ∃ m, h.Ns sysModules m := by
  have z := q.mods
  obtain ⟨m, a, _⟩ := z
  exact ⟨m, a⟩
theorem walk_g {l : PySem.W.OpenLaw} {n k : Nat} {q : Program} {loose : List Str} {XP : (Str → Option Value) → Heap → Prop} {YP : World → Heap → Prop} {d : DefRec} {CX : World → CXT} {x : Str}
    (hn : l.most = some n) (hn2 : n ≤ sizeLine) (hdf : d.params.defaults = []) (hr : Room k callerA) (hq : importsNone q = true)
    (F : ∀ (w : World) (mg : Str → Option Value) (fa : Addr) (h : Heap), YP w h → h.Ns mainGlobals mg → mg d.name = some (.ref fa) → ∃ K : PySem.W.Frag, K.In h ∧ LawG l w K (CX w) k n x mg fa h)
    (hCX : ∀ (w : World) (H : Hp) (s : Shared) (e : Value) (s' : Shared), CX w [] H s (fun _ _ _ => False) e s' → False) :
    PySem.W.WalkO q loose XP YP l.row.toRowW d [] (fun f vs => PySem.call f vs) := by
  refine Att.attach_callB hn hdf fun w s₀ s₁ mg mb fa o pm cd doc a vs ns G Y ho hd hcd hmg hobj hints hlen hbits hg => ?_
  obtain ⟨K, KX, cs, sp, hT, nT, C, hsp, hF⟩ := F w mg fa _ Y G.T.g hmg
  exact law_end KX G.T.g G.T.b G.T.builtins G.T.nolimit hg hT nT C G.T.bmain hobj hints (Nat.le_trans hlen hn2) hr (sys_of (G.T.seer hq)) hF (fun H hH hS => hsp H a ns hlen hbits hH hS) fun H e s' => hCX w H s₁ e s'
end Gd

set_option Elab.async false
set_option linter.all false
set_option maxRecDepth 100000
set_option maxHeartbeats 2000000
/-! Rp: plain data in the abstract heap, its printing, comparisons; rules of either kind. -/
namespace Gd
open PySem PySem.Spec PyProof.Rows L2

/-! ### data -/
mutual
/-- at the value v there is the datum: none, a bool, an int, a text, a list, a tuple of such, an empty dict -/
inductive Dt (w : Addr) (K : PySem.W.Frag) (H : Hp) : V → PyData → Prop
  | non : Dt w K H .non .none
  | bl (b : Bool) : Dt w K H (.bl b) (.bool b)
  | int (i : Int) : Dt w K H (.int i) (.int i)
  | str (x : Str) : Dt w K H (.str x) (.str x)
  | lst {a : Addr} {xs : List V} {ds : List PyData} (n : a ≠ w) (h : SqL K H a xs) (r : DtL w K H xs ds) : Dt w K H (.ref a) (.list ds)
  | tup {a : Addr} {xs : List V} {ds : List PyData} (h : SqT K H a xs) (r : DtL w K H xs ds) : Dt w K H (.ref a) (.tuple ds)
  | dic {a : Addr} (h : H a = some (.dK [])) : Dt w K H (.ref a) (.dict [])
inductive DtL (w : Addr) (K : PySem.W.Frag) (H : Hp) : List V → List PyData → Prop
  | nil : DtL w K H [] []
  | cons {v : V} {vs : List V} {d : PyData} {ds : List PyData} (h : Dt w K H v d) (r : DtL w K H vs ds) : DtL w K H (v :: vs) (d :: ds)
end
/-- all but the list at w stands as it stood -/
def Kp (w : Addr) (H H' : Hp) : Prop := ∀ b o, b ≠ w → H b = some o → H' b = some o
theorem Kp.refl (w : Addr) (H : Hp) : Kp w H H := fun _ _ _ h => h
theorem Kp.trans {w : Addr} {H H1 H2 : Hp} (a : Kp w H H1) (b : Kp w H1 H2) : Kp w H H2 := fun c o n h => b c o n (a c o n h)
theorem Kp.same {w : Addr} {H H' : Hp} (a : Same H H') : Kp w H H' := fun b o _ h => a b o h
theorem Kp.new {w p : Addr} {H : Hp} {o : HO} (h : H p = none) : Kp w H (upd H p o) := fun b u _ e => by rw [upd_ne (ne_of_none e h)]; exact e
theorem Kp.put {w : Addr} {H : Hp} {o : HO} : Kp w H (upd H w o) := fun b u n e => by rw [upd_ne n]; exact e
theorem same_new {p : Addr} {H : Hp} {o : HO} (h : H p = none) : Same H (upd H p o) := fun b u e => by rw [upd_ne (ne_of_none e h)]; exact e

/-- H' holds what H holds of such things -/
structure Hd (H H' : Hp) : Prop where
  rd : ∀ a u, (∃ xs, u = .lst xs) ∨ (∃ xs, u = .tup xs) → Rd H a u → Rd H' a u
  dk : ∀ a, H a = some (.dK []) → H' a = some (.dK [])
theorem Hd.of {H H' : Hp} (s : Same H H') : Hd H H' := ⟨fun a u _ h => by
  rcases h with h | ⟨o, h⟩
  · exact .inl (s _ _ h)
  · exact .inr ⟨o, s _ _ h⟩, fun a h => s _ _ h⟩
theorem Same.sqT {K : PySem.W.Frag} {H H' : Hp} {a : Addr} {xs : List V} (s : Same H H') (h : SqT K H a xs) : SqT K H' a xs := by
  rcases h with (h | ⟨o, h⟩) | h
  · exact .inl (.inl (s _ _ h))
  · exact .inl (.inr ⟨o, s _ _ h⟩)
  · exact .inr h
mutual
theorem Dt.same {w : Addr} {K : PySem.W.Frag} {H H' : Hp} (s : Same H H') : ∀ {v : V} {d : PyData}, Dt w K H v d → Dt w K H' v d
  | _, _, .non => .non
  | _, _, .bl b => .bl b
  | _, _, .int i => .int i
  | _, _, .str x => .str x
  | _, _, .lst n h r => .lst n (s.seq h) (DtL.same s r)
  | _, _, .tup h r => .tup (Same.sqT s h) (DtL.same s r)
  | _, _, .dic h => .dic (s _ _ h)
theorem DtL.same {w : Addr} {K : PySem.W.Frag} {H H' : Hp} (s : Same H H') : ∀ {vs : List V} {ds : List PyData}, DtL w K H vs ds → DtL w K H' vs ds
  | _, _, .nil => .nil
  | _, _, .cons h r => .cons (Dt.same s h) (DtL.same s r)
end
theorem DtL.length {w : Addr} {K : PySem.W.Frag} {H : Hp} : ∀ {vs : List V} {ds : List PyData}, DtL w K H vs ds → vs.length = ds.length
  | _, _, .nil => rfl
  | _, _, .cons _ r => congrArg Nat.succ (DtL.length r)
theorem DtL.get {w : Addr} {K : PySem.W.Frag} {H : Hp} : ∀ {vs : List V} {ds : List PyData}, DtL w K H vs ds → ∀ {i : Nat} {v : V}, vs[i]? = some v → ∃ d, ds[i]? = some d ∧ Dt w K H v d
  | _, _, .nil, _, _, e => by simp at e
  | _, _, .cons h r, 0, _, e => by simp at e; subst e; exact ⟨_, rfl, h⟩
  | _, _, .cons h r, i + 1, _, e => by simpa using DtL.get r (i := i) (by simpa using e)
theorem DtL.append {w : Addr} {K : PySem.W.Frag} {H : Hp} : ∀ {vs us : List V} {ds es : List PyData}, DtL w K H vs ds → DtL w K H us es → DtL w K H (vs ++ us) (ds ++ es)
  | _, _, _, _, .nil, s => s
  | _, _, _, _, .cons h r, s => .cons h (DtL.append r s)
theorem DtL.rep {w : Addr} {K : PySem.W.Frag} {H : Hp} {v : V} {d : PyData} (h : Dt w K H v d) : ∀ n, DtL w K H (List.replicate n v) (List.replicate n d)
  | 0 => .nil
  | n + 1 => .cons h (DtL.rep h n)

/-- the first fact of a base: where the table of modules stands -/
def SysM (base : Heap) : Prop := ∃ m, base.Ns sysModules m
section
variable {X : Cx} {pins : List (Addr × Obj)} {σ : L2.St} {H : Hp} {s : Shared} {w : Addr}
theorem sys_ne (S : SysM X.base) (I : Inv X pins σ H s) {a : Addr} {o : Obj} (e : s.heap.get? a = some o) (h : ∀ es n, o.data ≠ .dict es n) : sysModules ≠ a := fun z => by
  obtain ⟨m, os, es, ep, e1, e2, _⟩ := S
  have e3 := I.bk _ _ e1
  rw [z, e] at e3
  cases e3
  exact h _ _ e2
mutual
theorem Dt.reads (S : SysM X.base) (I : Inv X pins σ H s) : ∀ (d : PyData) (v : V) (u : Value), Dt w X.K H v d → RelV v u → ∃ as, Reads s.heap u d as ∧ sysModules ∉ as
  | .none, _, _, h, r => by cases h; cases r; exact ⟨_, .none, by simp⟩
  | .bool b, _, _, h, r => by cases h; cases r; exact ⟨_, .bool b, by simp⟩
  | .int i, _, _, h, r => by cases h; obtain ⟨t, rfl⟩ := r; exact ⟨_, .int i t, by simp⟩
  | .str x, _, _, h, r => by cases h; obtain ⟨t, rfl⟩ := r; exact ⟨_, .str x t, by simp⟩
  | .list ds, _, _, h, r => by
    cases h with
    | lst hw hs ha =>
      cases r
      obtain ⟨its, rv, ⟨o, n, ho, hc, _, hd⟩, _⟩ := I.list hs
      obtain ⟨as, hr, hn⟩ := DtL.reads S I ds _ its ha rv
      refine ⟨_, .list ho hc hd hr, fun z => ?_⟩
      rcases List.mem_cons.mp z with z | z
      · exact sys_ne S I ho (fun es n q => by rw [hd] at q; cases q) z
      · exact hn z
  | .tuple ds, _, _, h, r => by
    cases h with
    | tup hs ha =>
      cases r
      obtain ⟨its, rv, ⟨o, ho, hc, n, hd⟩, _⟩ := I.tuple hs
      obtain ⟨as, hr, hn⟩ := DtL.reads S I ds _ its ha rv
      exact ⟨_, .tuple ho hc hd hr, hn⟩
  | .dict kvs, _, _, h, r => by
    cases h with
    | dic h =>
      cases r
      obtain ⟨_, hne, vs, rv, o, es, ep, e1, e2, e3, _, e4, _⟩ := I.hok _ _ h
      cases rv
      have e4' : es = #[] := by
        have z : es.toList = [] := by
          generalize es.toList = l at e4
          cases e4
          rfl
        exact Array.toList_eq_nil_iff.mp z
      subst e4'
      refine ⟨[_] ++ [], .dict (as := []) (bs := []) e1 e2.1 e3 .nil .nil, fun z => ?_⟩
      simp only [List.append_nil, List.mem_cons, List.not_mem_nil, or_false] at z
      rw [← z] at hne
      exact absurd hne (by simp)
theorem DtL.reads (S : SysM X.base) (I : Inv X pins σ H s) : ∀ (ds : List PyData) (vs : List V) (us : List Value), DtL w X.K H vs ds → Vals vs us → ∃ as, ReadsAll s.heap us ds as ∧ sysModules ∉ as
  | [], _, _, h, r => by cases h; cases r; exact ⟨_, .nil, by simp⟩
  | d :: ds, _, _, h, r => by
    cases h with
    | cons h1 h2 =>
      cases r with
      | cons r1 r2 =>
        obtain ⟨as, q1, n1⟩ := Dt.reads S I d _ _ h1 r1
        obtain ⟨bs, q2, n2⟩ := DtL.reads S I ds _ _ h2 r2
        exact ⟨_, .cons q1 q2, fun z => (List.mem_append.mp z).elim n1 n2⟩
end
/-- repr(x), x an object -/
def rRepr (K : PySem.W.Frag) : List V → Hp → VK → Prop := fun xs H Q => ∃ w a d, xs = [.ref a] ∧ Dt w K H (.ref a) d ∧ d.showable = true ∧ d.depth ≤ 100 ∧ d.shown.length ≤ sizeLine ∧ Q (.str d.shown) H
theorem call_repr (S : SysM X.base) (hG : Cl X.A) (hu : X.A.units + 150 < cLine) : CallR X (.builtin "repr") (rRepr X.K) := by
  intro pins s σ H xs us Q I r h
  obtain ⟨w, a, d, rfl, hd, h1, h2, h3, q⟩ := h
  cases r with
  | cons r1 r2 =>
    cases r2
    obtain ⟨as, hr, hn⟩ := Dt.reads S I d _ _ hd r1
    cases r1
    exact repr_of_reads' (A := X.A) hr h1 (fun _ => hn) hG (by omega) (fun _ _ e => e) (fun h' u tk hk => ⟨.str d.shown, H, I.kept hk, ⟨u, rfl⟩, q⟩) h3
end
end Gd

set_option Elab.async false
set_option linter.all false
set_option maxRecDepth 100000
set_option maxHeartbeats 2000000
/-! Ru: operators of either kind, a called def in one word. -/
namespace Gd
open PySem PySem.Spec PyProof.Rows L2
section
variable {X : Cx}
def rAddA (K : PySem.W.Frag) : R2 := fun x y H Q => rI0 (fun i j => .int (i + j)) x y H Q ∨ rCatA K x y H Q ∨ rCat x y H Q
theorem op_addA : OpR X (binaryOp .Add) (rAddA X.K) := op_add.or (op_catA.or op_cat)
def CMulA (i j : Int) : Prop := CMul i j ∨ CMulW i j
theorem op_mulI : OpR X (binaryOp .Mult) (rI CMulA fun i j => .int (i * j)) := by
  intro pins s σ H x y v u Q I rx ry h
  obtain ⟨i, j, rfl, rfl, hc, q⟩ := h
  rcases hc with hc | hc
  · exact op_mul pins s σ H _ _ v u Q I rx ry ⟨i, j, rfl, rfl, hc, q⟩
  · exact op_mulW pins s σ H _ _ v u Q I rx ry ⟨i, j, rfl, rfl, hc, q⟩
def rMulA (K : PySem.W.Frag) : R2 := fun x y H Q => rI CMulA (fun i j => .int (i * j)) x y H Q ∨ rRepT K x y H Q ∨ rRep x y H Q
theorem op_mulA : OpR X (binaryOp .Mult) (rMulA X.K) := op_mulI.or (op_repT.or op_rep)
def rEqA (K : PySem.W.Frag) : R2 := fun x y H Q => rEq x y H Q ∨ rEqD K x y H Q
theorem op_eqA (hu : X.A.units + 64 < cLine) : OpR X (compareOp .Eq) (rEqA X.K) := op_eq.or (op_eqD hu)
def rNeA (K : PySem.W.Frag) : R2 := fun x y H Q => rNe x y H Q ∨ rNeD K x y H Q
theorem op_neA (hu : X.A.units + 64 < cLine) : OpR X (compareOp .NotEq) (rNeA X.K) := op_ne.or (op_neD hu)
abbrev rSub : R2 := rI0 fun i j => .int (i - j)
abbrev rDiv : R2 := rI CDivW fun i j => .int (i / j)
abbrev rMod : R2 := rI (fun _ j => 0 < j) fun i j => .int (i % j)
abbrev rPow : R2 := rI CPow fun i j => .int (i ^ j.toNat)
def rSlS (K : PySem.W.Frag) : V → Option Int → Option Int → Hp → VK → Prop := fun x lo hi H Q => rSlL K x lo hi H Q ∨ rSlA K x lo hi H Q
theorem sl_any : SlR X (rSlS X.K) := sl_list.or sl_tupA
end
/-- a def that may be called: it keeps its promise, its name, its binding -/
def Cal (P : Program) (w : World) (K : PySem.W.Frag) (mg : Str → Option Value) (base : Heap) (x : Str) (k : Nat) (ps : List Str) (sp : Sp) : Prop :=
  ∃ f fd, FnG P w K mg base CX0 k f fd ps sp ∧ mg x = some (.ref f) ∧ PySem.W.keepIn K (.ref f) = true ∧ Binds K fd ps []
/-- a def of the text as it stands behind the top -/
def Def1 (K : PySem.W.Frag) (mg : Str → Option Value) (x : Str) (st : Stmt) : Prop :=
  ∃ f fd, FunD K x x (defArgs st) (defBody st) (defScope st) [] [] f fd ∧ mg x = some (.ref f)
section
variable {X : Cx} {k : Nat} {ps : List Str} {sp : Sp} {x : Str} {p pos : Pos} {e : Expr} {es : List Expr} {t : TA}
theorem pe_cal (C : Cal X.prog X.w X.K X.mg X.base x k ps sp) (hG : Cl X.A) (hr : Room k X.A) (hg : Gl X x) (ha : PA X (e :: es) t) (hdb : (x == ("__debug__" : Str)) = false := by decide) (he : starEach (e :: es) X.env = (false, eval e X.env) :: starEach es X.env := by rfl) (hpl : (backTo pos (starEach es X.env)).any (·.1) = false := by rfl) :
    PE X (.Call (.Name x p) (e :: es) [] pos) (tCall sp [] E0 t) := by
  obtain ⟨f, fd, F, hm, hk, hb⟩ := C
  exact pe_cg F hG hr hg hm hk hb .nil pass0 ha hdb he hpl
end
section
variable {P : Program} {w : World} {K : PySem.W.Frag} {mg : Str → Option Value} {base : Heap} {x : Str} {st : Stmt} {N ps : List Str} {k : Nat} {sp : Sp}
/-- a def of the text may be called -/
theorem Def1.cal (D : Def1 K mg x st) (S : FnScope N ps (defScope st)) (len : ∀ vs H Q E, sp vs H Q E → vs.length = ps.length)
    (hbi : ∀ (kV doc pm : Value) (an : Option Addr) (cdv ct : Value) (us : List Value), us.length = ps.length → bindArgs (PySem.W.fnOf x x (defArgs st) (defBody st) (defScope st) .none kV doc pm an cdv ct) ⟨us, []⟩ = pure (ps.zip us))
    (hb : ∀ (f : Addr) (cdv : Value) (A : Around) (outer : List Env) (s : Shared) (H : Hp) (vs : List V) (Q : VK) (E : XK), Cl (A.deeper (envOfC x (defScope st) s.heap.objs.size f cdv)) → Room k (A.deeper (envOfC x (defScope st) s.heap.objs.size f cdv)) → sp vs H Q E →
      ∃ t, PSs (cxOf CX0 P w K mg base N x (defScope st) f cdv A outer s H E).nox (defBody st) t ∧ t { nx := fun _ H' => Q .non H', rt := Q } (start N vs) H) :
    Cal P w K mg base x (k + 1) ps sp := by
  obtain ⟨f, fd, F, g⟩ := D
  refine ⟨f, fd, FnG.ok F S len (fun cdv A outer s H vs Q E hG hr _ _ h => ?_), g, F.kp, F.bindsN hbi⟩
  obtain ⟨t, h1, h2⟩ := hb f cdv A outer s H vs Q E hG hr h
  exact ⟨t, h1.nox, h2⟩
end
end Gd

set_option Elab.async false
set_option linter.all false
set_option maxRecDepth 100000
set_option maxHeartbeats 4000000
set_option autoImplicit false
/-! Wr: readings, a step at a time. -/
namespace Gd
open PySem PySem.Spec PyProof.Rows L2
/-! ### readings with names -/
def rInt : List V → Hp → VK → Prop := fun xs H Q => (∃ i, xs = [.int i] ∧ Q (.int i) H) ∨ ∃ k, xs = [.bl k] ∧ Q (.int (if k then 1 else 0)) H
def rAbs : List V → Hp → VK → Prop := fun xs H Q => ∃ i, xs = [.int i] ∧ Q (.int (if i < 0 then -i else i)) H
def rLen (K : PySem.W.Frag) : List V → Hp → VK → Prop := fun xs H Q => ∃ p ys, xs = [.ref p] ∧ (SqL K H p ys ∨ SqT K H p ys) ∧ Q (.int ys.length) H
def rDvm : List V → Hp → VK → Prop := fun xs H Q => ∃ i j, xs = [.int i, .int j] ∧ CDivP i j ∧ ∀ p, H p = none → Q (.ref p) (upd H p (.tup [.int (i / j), .int (i % j)]))
def rTup (K : PySem.W.Frag) : List V → Hp → VK → Prop := fun xs H Q => ∃ p ys, xs = [.ref p] ∧ ((SqL K H p ys ∧ ∀ l, H l = none → Q (.ref l) (upd H l (.tup ys))) ∨ (SqT K H p ys ∧ Q (.ref p) H))
def rLst (K : PySem.W.Frag) : List V → Hp → VK → Prop := fun xs H Q => ∃ p ys, xs = [.ref p] ∧ (SqL K H p ys ∨ SqT K H p ys) ∧ ∀ l, H l = none → Q (.ref l) (upd H l (.lst ys))
def rGt : R2 := rI0 fun i j => .bl (decide (j < i))
def rGe : R2 := rI0 fun i j => .bl (decide (j ≤ i))
def rLt : R2 := rI0 fun i j => .bl (decide (i < j))
def rLe : R2 := rI0 fun i j => .bl (decide (i ≤ j))
section
variable {X : Cx}
theorem call_intA : CallR X (.type "int") rInt := call_int1
theorem call_absA : CallR X (.builtin "abs") rAbs := call_abs
theorem call_lenA : CallR X (.builtin "len") (rLen X.K) := call_len_seq
theorem call_dvmA : CallR X (.builtin "divmod") rDvm := call_divmodW
theorem call_tupA : CallR X (.type "tuple") (rTup X.K) := call_tuple_of
theorem call_lstA : CallR X (.type "list") (rLst X.K) := call_list_of
theorem op_gtA : OpR X (compareOp .Gt) rGt := op_gt
theorem op_geA : OpR X (compareOp .GtE) rGe := op_ge
theorem op_ltA : OpR X (compareOp .Lt) rLt := op_lt
theorem op_leA : OpR X (compareOp .LtE) rLe := op_le
end
section
variable {n : L2.St → Hp → Prop} {r : VK} {b c : L2.St → Hp → Prop} {σ : L2.St} {H : Hp} {Q : VK} {t u : TS} {te ta tb : TE} {tt tu : TT} {g : TG} {a v x y : V} {K : PySem.W.Frag}
theorem w_seq (h : t ⟨u ⟨n, r, b, c⟩, r, b, c⟩ σ H) : tSeq t u ⟨n, r, b, c⟩ σ H := h
theorem w_next (h : n σ H) : tNext ⟨n, r, b, c⟩ σ H := h
theorem w_brk (h : b σ H) : tBreak ⟨n, r, b, c⟩ σ H := h
theorem w_cont (h : c σ H) : tCont ⟨n, r, b, c⟩ σ H := h
theorem w_asg (h : te σ H fun x H1 => g x σ H1 n) : tAsg te g ⟨n, r, b, c⟩ σ H := h
theorem w_ret (h : te σ H r) : tRet te ⟨n, r, b, c⟩ σ H := h
theorem w_retN (h : r .non H) : tRetN ⟨n, r, b, c⟩ σ H := h
theorem w_drop (h : te σ H fun _ H1 => n σ H1) : tDrop te ⟨n, r, b, c⟩ σ H := h
theorem w_if (h : tt σ H fun k H1 => if k = true then t ⟨n, r, b, c⟩ σ H1 else u ⟨n, r, b, c⟩ σ H1) : tIfS tt t u ⟨n, r, b, c⟩ σ H := h
theorem w_c (h : Q v H) : tC v σ H Q := h
theorem w_op {q : R2} (h : ta σ H fun x H1 => tb σ H1 fun y H2 => q x y H2 Q) : tOp q ta tb σ H Q := h
theorem w_un {q : V → Hp → VK → Prop} (h : ta σ H fun x H1 => q x H1 Q) : tUn q ta σ H Q := h
theorem w_cb {q : List V → Hp → VK → Prop} {tz : TA} (h : tz σ H fun vs H1 => q vs H1 Q) : tCB q tz σ H Q := h
theorem w_nil {R : List V → Hp → Prop} (h : R [] H) : tNil σ H R := h
theorem w_cons {R : List V → Hp → Prop} {tz : TA} (h : ta σ H fun x H1 => tz σ H1 fun xs H2 => R (x :: xs) H2) : tCons ta tz σ H R := h
theorem w_tup {tz : TA} (h : tz σ H fun xs H1 => xs.length ≤ sizeLine ∧ ∀ p, H1 p = none → Q (.ref p) (upd H1 p (.tup xs))) : tTup tz σ H Q := h
theorem w_lst {tz : TA} (h : tz σ H fun xs H1 => xs.length ≤ sizeLine ∧ ∀ p, H1 p = none → Q (.ref p) (upd H1 p (.lst xs))) : tLst tz σ H Q := h
theorem w_test {R : Bool → Hp → Prop} (h : te σ H fun x H1 => ∃ k, x = .bl k ∧ R k H1) : tTest te σ H R := h
theorem w_tB {R : Bool → Hp → Prop} (h : te σ H fun x H1 => ∃ k, x = .bl k ∧ R k H1) : tB te σ H R := h
theorem w_bl {k : Bool} {R : Bool → Prop} (h : R k) : ∃ k', V.bl k = .bl k' ∧ R k' := ⟨k, rfl, h⟩
theorem w_and {R : Bool → Hp → Prop} (h : tt σ H fun k H1 => if k = true then tu σ H1 R else R false H1) : tAnd tt tu σ H R := h
theorem w_or {R : Bool → Hp → Prop} (h : tt σ H fun k H1 => if k = true then R true H1 else tu σ H1 R) : tOr tt tu σ H R := h
theorem w_not {R : Bool → Hp → Prop} (h : tt σ H fun k H1 => R (!k) H1) : tNot tt σ H R := h
theorem w_ife (h : tt σ H fun k H1 => if k = true then ta σ H1 Q else tb σ H1 Q) : tIf tt ta tb σ H Q := h
theorem w_andV (h : ta σ H fun x H1 => ∃ k, x = .bl k ∧ if k = true then tb σ H1 Q else Q (.bl false) H1) : tAndV ta tb σ H Q := h
theorem w_orV (h : ta σ H fun x H1 => ∃ k, x = .bl k ∧ if k = true then Q (.bl true) H1 else tb σ H1 Q) : tOrV ta tb σ H Q := h
theorem w_notV (h : ta σ H fun x H1 => ∃ k, x = .bl k ∧ Q (.bl (!k)) H1) : tNotV ta σ H Q := h
theorem w_sub {to ti : TE} {s : TSet} {N : L2.St → Hp → Prop} (h : to σ H fun o H1 => ti σ H1 fun i H2 => s o i v H2 fun H3 => N σ H3) : gSub to ti s v σ H N := h
theorem w_gtup {k : Nat} {z : TGs} {N : L2.St → Hp → Prop} {p : Addr} {xs : List V} (h : SqT K H p xs) (l : xs.length = k) (q : z xs σ H N) : gTup K k z (.ref p) σ H N := ⟨p, xs, rfl, h, l, q⟩
theorem w_gnil {N : L2.St → Hp → Prop} (h : N σ H) : gNil [] σ H N := ⟨rfl, h⟩
theorem w_gcons {z : TGs} {vs : List V} {N : L2.St → Hp → Prop} (h : g v σ H fun σ' H' => z vs σ' H' N) : gCons g z (v :: vs) σ H N := ⟨v, vs, rfl, h⟩
theorem w_call {sp : Sp} {E : XK} {tz : TA} (h : tz σ H fun vs H1 => sp (vs ++ []) H1 Q E) : tCall sp [] E tz σ H Q := h
theorem w_forL {tl : TE} {g : TG} {tb : TS} (h : tl σ H fun x H1 => ∃ a, x = .ref a ∧ (∃ xs, SqL K H1 a xs) ∧ ∃ W : Nat → Nat → L2.St → Hp → Prop, (∃ m, W 0 m σ H1) ∧ ∀ i m σ H, W i m σ H →
    ((Itl K a).stop i H ∧ n σ H) ∨ ((Itl K a).go i H ∧ ∃ N : L2.St → Hp → Prop, (∀ σ' H', N σ' H' → ∃ m', m' < m ∧ W (i + 1) m' σ' H') ∧ ∀ x H', (Itl K a).yld i H x H' → g x σ H' fun σ2 H2 => tb ⟨N, r, n, N⟩ σ2 H2)) : tFor (iList K tl) g tb ⟨n, r, b, c⟩ σ H := h
theorem w_forT {tl : TE} {g : TG} {tb : TS} (h : tl σ H fun x H1 => ∃ a, x = .ref a ∧ (∃ xs, SqT K H1 a xs) ∧ ∃ W : Nat → Nat → L2.St → Hp → Prop, (∃ m, W 0 m σ H1) ∧ ∀ i m σ H, W i m σ H →
    ((Itt K a).stop i H ∧ n σ H) ∨ ((Itt K a).go i H ∧ ∃ N : L2.St → Hp → Prop, (∀ σ' H', N σ' H' → ∃ m', m' < m ∧ W (i + 1) m' σ' H') ∧ ∀ x H', (Itt K a).yld i H x H' → g x σ H' fun σ2 H2 => tb ⟨N, r, n, N⟩ σ2 H2)) : tFor (iTup K tl) g tb ⟨n, r, b, c⟩ σ H := h
theorem f_list {K : PySem.W.Frag} {a : Addr} {xs : List V} {g : TG} {tb : TS} (Pv : Nat → L2.St → Hp → Prop) (h0 : Pv 0 σ H) (hl : ∀ i σ H, i ≤ xs.length → Pv i σ H → SqL K H a xs)
    (hs : ∀ i x σ H, xs[i]? = some x → Pv i σ H → g x σ H fun σ2 H2 => tb ⟨Pv (i + 1), r, n, Pv (i + 1)⟩ σ2 H2) (hd : ∀ σ H, Pv xs.length σ H → n σ H) :
    ∃ W : Nat → Nat → L2.St → Hp → Prop, (∃ m, W 0 m σ H) ∧ ∀ i m σ H, W i m σ H →
      ((Itl K a).stop i H ∧ n σ H) ∨ ((Itl K a).go i H ∧ ∃ N : L2.St → Hp → Prop, (∀ σ' H', N σ' H' → ∃ m', m' < m ∧ W (i + 1) m' σ' H') ∧ ∀ x H', (Itl K a).yld i H x H' → g x σ H' fun σ2 H2 => tb ⟨N, r, n, N⟩ σ2 H2) := for_list (D := ⟨n, r, n, n⟩) Pv h0 hl hs hd
theorem f_tup {K : PySem.W.Frag} {a : Addr} {xs : List V} {g : TG} {tb : TS} (Pv : Nat → L2.St → Hp → Prop) (h0 : Pv 0 σ H) (hl : ∀ i σ H, i ≤ xs.length → Pv i σ H → SqT K H a xs)
    (hs : ∀ i x σ H, xs[i]? = some x → Pv i σ H → g x σ H fun σ2 H2 => tb ⟨Pv (i + 1), r, n, Pv (i + 1)⟩ σ2 H2) (hd : ∀ σ H, Pv xs.length σ H → n σ H) :
    ∃ W : Nat → Nat → L2.St → Hp → Prop, (∃ m, W 0 m σ H) ∧ ∀ i m σ H, W i m σ H →
      ((Itt K a).stop i H ∧ n σ H) ∨ ((Itt K a).go i H ∧ ∃ N : L2.St → Hp → Prop, (∀ σ' H', N σ' H' → ∃ m', m' < m ∧ W (i + 1) m' σ' H') ∧ ∀ x H', (Itt K a).yld i H x H' → g x σ H' fun σ2 H2 => tb ⟨N, r, n, N⟩ σ2 H2) := for_tup (D := ⟨n, r, n, n⟩) Pv h0 hl hs hd
theorem w_forR {tz : TA} {g : TG} {tb : TS} (h : tz σ H fun vs H1 => ∃ j : Int, vs = [.int j] ∧ -(2 ^ 62) ≤ j ∧ j < 2 ^ 62 ∧ ∃ W : Nat → Nat → L2.St → Hp → Prop, (∃ m, W 0 m σ H1) ∧ ∀ i m σ H, W i m σ H →
    ((Itr 0 j.toNat).stop i H ∧ n σ H) ∨ ((Itr 0 j.toNat).go i H ∧ ∃ N : L2.St → Hp → Prop, (∀ σ' H', N σ' H' → ∃ m', m' < m ∧ W (i + 1) m' σ' H') ∧ ∀ x H', (Itr 0 j.toNat).yld i H x H' → g x σ H' fun σ2 H2 => tb ⟨N, r, n, N⟩ σ2 H2)) : tFor (iRng1 tz) g tb ⟨n, r, b, c⟩ σ H := h
theorem f_range {lo : Int} {k : Nat} {g : TG} {tb : TS} (Pv : Nat → L2.St → Hp → Prop) (h0 : Pv 0 σ H)
    (hs : ∀ i σ H, i < k → Pv i σ H → g (.int (lo + i)) σ H fun σ2 H2 => tb ⟨Pv (i + 1), r, n, Pv (i + 1)⟩ σ2 H2) (hd : ∀ σ H, Pv k σ H → n σ H) :
    ∃ W : Nat → Nat → L2.St → Hp → Prop, (∃ m, W 0 m σ H) ∧ ∀ i m σ H, W i m σ H →
      ((Itr lo k).stop i H ∧ n σ H) ∨ ((Itr lo k).go i H ∧ ∃ N : L2.St → Hp → Prop, (∀ σ' H', N σ' H' → ∃ m', m' < m ∧ W (i + 1) m' σ' H') ∧ ∀ x H', (Itr lo k).yld i H x H' → g x σ H' fun σ2 H2 => tb ⟨N, r, n, N⟩ σ2 H2) := for_range (D := ⟨n, r, n, n⟩) Pv h0 hs hd
/-- a while by what holds between the turns -/
theorem w_while {tt : TT} {tb : TS} (Pv : L2.St → Hp → Prop) (μ : L2.St → Hp → Nat) (h0 : Pv σ H)
    (hs : ∀ σ H, Pv σ H → tt σ H fun k H1 => if k = true then tb ⟨fun σ' H' => Pv σ' H' ∧ μ σ' H' < μ σ H, r, n, fun σ' H' => Pv σ' H' ∧ μ σ' H' < μ σ H⟩ σ H1 else n σ H1)
    (mono : ∀ σ H Q Q', (∀ b H1, Q b H1 → Q' b H1) → tt σ H Q → tt σ H Q') : tWhile tt tb ⟨n, r, b, c⟩ σ H := while_by (D := ⟨n, r, b, c⟩) Pv μ h0 hs mono
theorem w_par {i j : Nat} {tz : TA} (h : tz σ H fun vs H1 => ∃ u v, vs = [u, v] ∧ n ((σ.set i (some u)).set j (some v)) H1) : tPar i j tz ⟨n, r, b, c⟩ σ H := h
theorem w_par3 {i j l : Nat} {tz : TA} (h : tz σ H fun vs H1 => ∃ u v w, vs = [u, v, w] ∧ n (((σ.set i (some u)).set j (some v)).set l (some w)) H1) : tPar3 i j l tz ⟨n, r, b, c⟩ σ H := h
theorem w_sl {q : V → Option Int → Option Int → Hp → VK → Prop} {tl th : TO} (h : te σ H fun x H1 => tl σ H1 fun l H2 => th σ H2 fun u H3 => q x l u H3 Q) : tSl q te tl th σ H Q := h
theorem w_nop {R : Option Int → Hp → Prop} (h : R none H) : tNoPart σ H R := h
theorem w_part {R : Option Int → Hp → Prop} (h : te σ H fun x H1 => ∃ i, x = .int i ∧ R (some i) H1) : tPart te σ H R := h
theorem w_len {k : Nat} {B : Prop} (h : k ≤ 1000) (q : B) : k ≤ sizeLine ∧ B := ⟨Nat.le_trans h (by decide), q⟩
theorem w_vint {j : Int} {R : Int → Prop} (h : R j) : ∃ i, V.int j = .int i ∧ R i := ⟨j, rfl, h⟩
theorem w_vbl2 {x y : V} {R : V → V → Prop} (h : R x y) : ∃ u v, [x, y] = [u, v] ∧ R u v := ⟨x, y, rfl, h⟩
theorem w_vbl3 {x y z : V} {R : V → V → V → Prop} (h : R x y z) : ∃ u v w, [x, y, z] = [u, v, w] ∧ R u v w := ⟨x, y, z, rfl, h⟩
theorem cutV_mem {xs : List V} {lo hi : Option Int} {x : V} (h : x ∈ cutV xs lo hi) : x ∈ xs := List.mem_of_mem_drop (List.mem_of_mem_take h)
theorem cut_int {ns : List Int} {lo hi : Option Int} {i : Nat} {x : V} (h : (cutV (ns.map V.int) lo hi)[i]? = some x) : ∃ z, x = .int z := by
  obtain ⟨z, _, e⟩ := List.mem_map.mp (cutV_mem (List.mem_of_getElem? h))
  exact ⟨z, e.symm⟩
/-- name.append(e) -/
theorem w_appV {tz : TA} {l : Addr} {xs : List V} {i : Nat} (e : σ[i]? = some (some (.ref l))) (hl : H l = some (.lst xs)) (h : tz σ H fun vs H2 => rAppend (.ref l) vs H2 Q) : tBM K "list" rAppend (tVar i) tz σ H Q :=
  ⟨_, e, .inl ⟨rfl, _, .inl (.inl hl)⟩, h⟩
theorem w_apd {l : Addr} {xs : List V} {y : V} (hl : H l = some (.lst xs)) (z : xs.length < sizeLine) (h : Q .non (upd H l (.lst (xs ++ [y])))) : rAppend (.ref l) [y] H Q := ⟨l, xs, y, rfl, rfl, hl, z, h⟩
/-! values -/
variable {i j : Int} {k : Bool} {p : Addr} {xs ys : List V}
theorem w_gt (h : Q (.bl (decide (j < i))) H) : rGt (.int i) (.int j) H Q := ⟨i, j, rfl, rfl, h⟩
theorem w_ge (h : Q (.bl (decide (j ≤ i))) H) : rGe (.int i) (.int j) H Q := ⟨i, j, rfl, rfl, h⟩
theorem w_lt (h : Q (.bl (decide (i < j))) H) : rLt (.int i) (.int j) H Q := ⟨i, j, rfl, rfl, h⟩
theorem w_le (h : Q (.bl (decide (i ≤ j))) H) : rLe (.int i) (.int j) H Q := ⟨i, j, rfl, rfl, h⟩
theorem w_subI (h : Q (.int (i - j)) H) : rI0 (fun i j => V.int (i - j)) (.int i) (.int j) H Q := ⟨i, j, rfl, rfl, h⟩
theorem w_neg (h : Q (.int (-i)) H) : rU (fun i => V.int (-i)) (.int i) H Q := ⟨i, rfl, h⟩
theorem w_addI (h : Q (.int (i + j)) H) : rAddA K (.int i) (.int j) H Q := .inl ⟨i, j, rfl, rfl, h⟩
theorem w_mulI (z : CMulA i j) (h : Q (.int (i * j)) H) : rMulA K (.int i) (.int j) H Q := .inl ⟨i, j, rfl, rfl, z, h⟩
theorem w_mod (z : 0 < j) (h : Q (.int (i % j)) H) : rI (fun _ j => 0 < j) (fun i j => V.int (i % j)) (.int i) (.int j) H Q := ⟨i, j, rfl, rfl, z, h⟩
theorem w_div (z : CDivW i j) (h : Q (.int (i / j)) H) : rI CDivW (fun i j => V.int (i / j)) (.int i) (.int j) H Q := ⟨i, j, rfl, rfl, z, h⟩
theorem w_pow (z : CPow i j) (h : Q (.int (i ^ j.toNat)) H) : rI CPow (fun i j => V.int (i ^ j.toNat)) (.int i) (.int j) H Q := ⟨i, j, rfl, rfl, z, h⟩
theorem w_eqS (z : scal x y = true) (h : Q (.bl (decide (x = y))) H) : rEqA K x y H Q := .inl ⟨z, h⟩
theorem w_neS (z : scal x y = true) (h : Q (.bl (!decide (x = y))) H) : rNeA K x y H Q := .inl ⟨z, h⟩
theorem w_eqD {d e : PyData} (h1 : Dp K H x d) (h2 : Dp K H y e) (s1 : SeqAt.shaped d = true) (s2 : SeqAt.shaped e = true) (h : Q (.bl (PyData.eqv d e)) H) : rEqA K x y H Q := .inr ⟨d, e, h1, h2, s1, s2, h⟩
theorem w_neD {d e : PyData} (h1 : Dp K H x d) (h2 : Dp K H y e) (s1 : SeqAt.shaped d = true) (s2 : SeqAt.shaped e = true) (h : Q (.bl (!PyData.eqv d e)) H) : rNeA K x y H Q := .inr ⟨d, e, h1, h2, s1, s2, h⟩
theorem w_ixL (h : SqL K H p xs) (e : atI xs i = some v) (q : Q v H) : rIx K (.ref p) (.int i) H Q := .inl ⟨p, xs, i, v, rfl, rfl, h, e, q⟩
theorem w_ixT (h : SqT K H p xs) (e : atI xs i = some v) (q : Q v H) : rIx K (.ref p) (.int i) H Q := .inr (.inl ⟨p, xs, i, v, rfl, rfl, h, e, q⟩)
theorem w_set {m : Nat} {N : Hp → Prop} (h : H p = some (.lst xs)) (e : ixN xs.length i = some m) (q : N (upd H p (.lst (xs.set m v)))) : rSetL (.ref p) (.int i) v H N := ⟨p, xs, i, m, rfl, rfl, h, e, q⟩
theorem hold_new {H : Hp} {q : Addr} {u o : HO} (h : H p = some u) (hn : H q = none) : upd H q o p = some u := by rw [upd_ne (ne_of_none h hn)]; exact h
theorem w_set0 {N : Hp → Prop} (h : H p = some (.lst (x :: xs))) (q : N (upd H p (.lst (v :: xs)))) : rSetL (.ref p) (.int 0) v H N := ⟨p, _, 0, 0, rfl, rfl, h, by unfold ixN; simp, q⟩
theorem w_set1 {N : Hp → Prop} {x1 : V} (h : H p = some (.lst (x :: x1 :: xs))) (q : N (upd H p (.lst (x :: v :: xs)))) : rSetL (.ref p) (.int 1) v H N := ⟨p, _, 1, 1, rfl, rfl, h, by unfold ixN; simp; omega, q⟩
theorem w_set2 {N : Hp → Prop} {x1 x2 : V} (h : H p = some (.lst (x :: x1 :: x2 :: xs))) (q : N (upd H p (.lst (x :: x1 :: v :: xs)))) : rSetL (.ref p) (.int 2) v H N := ⟨p, _, 2, 2, rfl, rfl, h, by unfold ixN; simp; omega, q⟩
theorem w_int (h : Q (.int i) H) : rInt [.int i] H Q := .inl ⟨i, rfl, h⟩
theorem w_intB (h : Q (.int (if k then 1 else 0)) H) : rInt [.bl k] H Q := .inr ⟨k, rfl, h⟩
theorem w_abs (h : Q (.int (if i < 0 then -i else i)) H) : rAbs [.int i] H Q := ⟨i, rfl, h⟩
theorem w_lenL (h : SqL K H p xs) (q : Q (.int xs.length) H) : rLen K [.ref p] H Q := ⟨p, xs, rfl, .inl h, q⟩
theorem w_lenT (h : SqT K H p xs) (q : Q (.int xs.length) H) : rLen K [.ref p] H Q := ⟨p, xs, rfl, .inr h, q⟩
theorem w_dvm (z : CDivP i j) (h : ∀ p, H p = none → Q (.ref p) (upd H p (.tup [.int (i / j), .int (i % j)]))) : rDvm [.int i, .int j] H Q := ⟨i, j, rfl, z, h⟩
theorem w_tupL (h : SqL K H p xs) (q : ∀ l, H l = none → Q (.ref l) (upd H l (.tup xs))) : rTup K [.ref p] H Q := ⟨p, xs, rfl, .inl ⟨h, q⟩⟩
theorem w_ite {A B : Prop} {q : Prop} {_ : Decidable q} (h1 : q → A) (h2 : ¬ q → B) : if decide q = true then A else B := by
  by_cases h : q
  · rw [decide_eq_true h, if_pos rfl]; exact h1 h
  · rw [decide_eq_false h, if_neg Bool.false_ne_true]; exact h2 h
theorem w_iteB {A B : Prop} {k : Bool} (h1 : k = true → A) (h2 : k = false → B) : if k = true then A else B := by
  cases k
  · exact h2 rfl
  · exact h1 rfl
theorem w_iteT {A B : Prop} (h1 : A) : if true = true then A else B := by rw [if_pos rfl]; exact h1
theorem w_iteF {A B : Prop} (h1 : B) : if false = true then A else B := by rw [if_neg Bool.false_ne_true]; exact h1
theorem w_slL {lo hi : Option Int} (h : SqL K H p xs) (q : ∀ l, H l = none → Q (.ref l) (upd H l (.lst (cutV xs lo hi)))) : rSlS K (.ref p) lo hi H Q := .inl ⟨p, xs, rfl, h, q⟩
end
/-! ### slots -/
section
variable {σ : L2.St} {H : Hp} {Q : VK} {N : L2.St → Hp → Prop} {v : V}

theorem w_var0 (h : Q v H) : tVar 0 (some v :: σ) H Q := ⟨v, rfl, h⟩
theorem w_nam0 {a0 : Option V} (h : N (some v :: σ) H) : gName 0 v (a0 :: σ) H N := h
theorem w_var1 {a0 : Option V} (h : Q v H) : tVar 1 (a0 :: some v :: σ) H Q := ⟨v, rfl, h⟩
theorem w_nam1 {a0 a1 : Option V} (h : N (a0 :: some v :: σ) H) : gName 1 v (a0 :: a1 :: σ) H N := h
theorem w_var2 {a0 a1 : Option V} (h : Q v H) : tVar 2 (a0 :: a1 :: some v :: σ) H Q := ⟨v, rfl, h⟩
theorem w_nam2 {a0 a1 a2 : Option V} (h : N (a0 :: a1 :: some v :: σ) H) : gName 2 v (a0 :: a1 :: a2 :: σ) H N := h
theorem w_var3 {a0 a1 a2 : Option V} (h : Q v H) : tVar 3 (a0 :: a1 :: a2 :: some v :: σ) H Q := ⟨v, rfl, h⟩
theorem w_nam3 {a0 a1 a2 a3 : Option V} (h : N (a0 :: a1 :: a2 :: some v :: σ) H) : gName 3 v (a0 :: a1 :: a2 :: a3 :: σ) H N := h
theorem w_var4 {a0 a1 a2 a3 : Option V} (h : Q v H) : tVar 4 (a0 :: a1 :: a2 :: a3 :: some v :: σ) H Q := ⟨v, rfl, h⟩
theorem w_nam4 {a0 a1 a2 a3 a4 : Option V} (h : N (a0 :: a1 :: a2 :: a3 :: some v :: σ) H) : gName 4 v (a0 :: a1 :: a2 :: a3 :: a4 :: σ) H N := h
theorem w_var5 {a0 a1 a2 a3 a4 : Option V} (h : Q v H) : tVar 5 (a0 :: a1 :: a2 :: a3 :: a4 :: some v :: σ) H Q := ⟨v, rfl, h⟩
theorem w_nam5 {a0 a1 a2 a3 a4 a5 : Option V} (h : N (a0 :: a1 :: a2 :: a3 :: a4 :: some v :: σ) H) : gName 5 v (a0 :: a1 :: a2 :: a3 :: a4 :: a5 :: σ) H N := h
theorem w_var6 {a0 a1 a2 a3 a4 a5 : Option V} (h : Q v H) : tVar 6 (a0 :: a1 :: a2 :: a3 :: a4 :: a5 :: some v :: σ) H Q := ⟨v, rfl, h⟩
theorem w_nam6 {a0 a1 a2 a3 a4 a5 a6 : Option V} (h : N (a0 :: a1 :: a2 :: a3 :: a4 :: a5 :: some v :: σ) H) : gName 6 v (a0 :: a1 :: a2 :: a3 :: a4 :: a5 :: a6 :: σ) H N := h
theorem w_var7 {a0 a1 a2 a3 a4 a5 a6 : Option V} (h : Q v H) : tVar 7 (a0 :: a1 :: a2 :: a3 :: a4 :: a5 :: a6 :: some v :: σ) H Q := ⟨v, rfl, h⟩
theorem w_nam7 {a0 a1 a2 a3 a4 a5 a6 a7 : Option V} (h : N (a0 :: a1 :: a2 :: a3 :: a4 :: a5 :: a6 :: some v :: σ) H) : gName 7 v (a0 :: a1 :: a2 :: a3 :: a4 :: a5 :: a6 :: a7 :: σ) H N := h
theorem w_var8 {a0 a1 a2 a3 a4 a5 a6 a7 : Option V} (h : Q v H) : tVar 8 (a0 :: a1 :: a2 :: a3 :: a4 :: a5 :: a6 :: a7 :: some v :: σ) H Q := ⟨v, rfl, h⟩
theorem w_nam8 {a0 a1 a2 a3 a4 a5 a6 a7 a8 : Option V} (h : N (a0 :: a1 :: a2 :: a3 :: a4 :: a5 :: a6 :: a7 :: some v :: σ) H) : gName 8 v (a0 :: a1 :: a2 :: a3 :: a4 :: a5 :: a6 :: a7 :: a8 :: σ) H N := h
theorem w_var9 {a0 a1 a2 a3 a4 a5 a6 a7 a8 : Option V} (h : Q v H) : tVar 9 (a0 :: a1 :: a2 :: a3 :: a4 :: a5 :: a6 :: a7 :: a8 :: some v :: σ) H Q := ⟨v, rfl, h⟩
theorem w_nam9 {a0 a1 a2 a3 a4 a5 a6 a7 a8 a9 : Option V} (h : N (a0 :: a1 :: a2 :: a3 :: a4 :: a5 :: a6 :: a7 :: a8 :: some v :: σ) H) : gName 9 v (a0 :: a1 :: a2 :: a3 :: a4 :: a5 :: a6 :: a7 :: a8 :: a9 :: σ) H N := h
theorem w_var10 {a0 a1 a2 a3 a4 a5 a6 a7 a8 a9 : Option V} (h : Q v H) : tVar 10 (a0 :: a1 :: a2 :: a3 :: a4 :: a5 :: a6 :: a7 :: a8 :: a9 :: some v :: σ) H Q := ⟨v, rfl, h⟩
theorem w_nam10 {a0 a1 a2 a3 a4 a5 a6 a7 a8 a9 a10 : Option V} (h : N (a0 :: a1 :: a2 :: a3 :: a4 :: a5 :: a6 :: a7 :: a8 :: a9 :: some v :: σ) H) : gName 10 v (a0 :: a1 :: a2 :: a3 :: a4 :: a5 :: a6 :: a7 :: a8 :: a9 :: a10 :: σ) H N := h
theorem w_var11 {a0 a1 a2 a3 a4 a5 a6 a7 a8 a9 a10 : Option V} (h : Q v H) : tVar 11 (a0 :: a1 :: a2 :: a3 :: a4 :: a5 :: a6 :: a7 :: a8 :: a9 :: a10 :: some v :: σ) H Q := ⟨v, rfl, h⟩
theorem w_nam11 {a0 a1 a2 a3 a4 a5 a6 a7 a8 a9 a10 a11 : Option V} (h : N (a0 :: a1 :: a2 :: a3 :: a4 :: a5 :: a6 :: a7 :: a8 :: a9 :: a10 :: some v :: σ) H) : gName 11 v (a0 :: a1 :: a2 :: a3 :: a4 :: a5 :: a6 :: a7 :: a8 :: a9 :: a10 :: a11 :: σ) H N := h
theorem w_var12 {a0 a1 a2 a3 a4 a5 a6 a7 a8 a9 a10 a11 : Option V} (h : Q v H) : tVar 12 (a0 :: a1 :: a2 :: a3 :: a4 :: a5 :: a6 :: a7 :: a8 :: a9 :: a10 :: a11 :: some v :: σ) H Q := ⟨v, rfl, h⟩
theorem w_nam12 {a0 a1 a2 a3 a4 a5 a6 a7 a8 a9 a10 a11 a12 : Option V} (h : N (a0 :: a1 :: a2 :: a3 :: a4 :: a5 :: a6 :: a7 :: a8 :: a9 :: a10 :: a11 :: some v :: σ) H) : gName 12 v (a0 :: a1 :: a2 :: a3 :: a4 :: a5 :: a6 :: a7 :: a8 :: a9 :: a10 :: a11 :: a12 :: σ) H N := h
theorem w_var13 {a0 a1 a2 a3 a4 a5 a6 a7 a8 a9 a10 a11 a12 : Option V} (h : Q v H) : tVar 13 (a0 :: a1 :: a2 :: a3 :: a4 :: a5 :: a6 :: a7 :: a8 :: a9 :: a10 :: a11 :: a12 :: some v :: σ) H Q := ⟨v, rfl, h⟩
theorem w_nam13 {a0 a1 a2 a3 a4 a5 a6 a7 a8 a9 a10 a11 a12 a13 : Option V} (h : N (a0 :: a1 :: a2 :: a3 :: a4 :: a5 :: a6 :: a7 :: a8 :: a9 :: a10 :: a11 :: a12 :: some v :: σ) H) : gName 13 v (a0 :: a1 :: a2 :: a3 :: a4 :: a5 :: a6 :: a7 :: a8 :: a9 :: a10 :: a11 :: a12 :: a13 :: σ) H N := h
theorem w_var14 {a0 a1 a2 a3 a4 a5 a6 a7 a8 a9 a10 a11 a12 a13 : Option V} (h : Q v H) : tVar 14 (a0 :: a1 :: a2 :: a3 :: a4 :: a5 :: a6 :: a7 :: a8 :: a9 :: a10 :: a11 :: a12 :: a13 :: some v :: σ) H Q := ⟨v, rfl, h⟩
theorem w_nam14 {a0 a1 a2 a3 a4 a5 a6 a7 a8 a9 a10 a11 a12 a13 a14 : Option V} (h : N (a0 :: a1 :: a2 :: a3 :: a4 :: a5 :: a6 :: a7 :: a8 :: a9 :: a10 :: a11 :: a12 :: a13 :: some v :: σ) H) : gName 14 v (a0 :: a1 :: a2 :: a3 :: a4 :: a5 :: a6 :: a7 :: a8 :: a9 :: a10 :: a11 :: a12 :: a13 :: a14 :: σ) H N := h
theorem w_var15 {a0 a1 a2 a3 a4 a5 a6 a7 a8 a9 a10 a11 a12 a13 a14 : Option V} (h : Q v H) : tVar 15 (a0 :: a1 :: a2 :: a3 :: a4 :: a5 :: a6 :: a7 :: a8 :: a9 :: a10 :: a11 :: a12 :: a13 :: a14 :: some v :: σ) H Q := ⟨v, rfl, h⟩
theorem w_nam15 {a0 a1 a2 a3 a4 a5 a6 a7 a8 a9 a10 a11 a12 a13 a14 a15 : Option V} (h : N (a0 :: a1 :: a2 :: a3 :: a4 :: a5 :: a6 :: a7 :: a8 :: a9 :: a10 :: a11 :: a12 :: a13 :: a14 :: some v :: σ) H) : gName 15 v (a0 :: a1 :: a2 :: a3 :: a4 :: a5 :: a6 :: a7 :: a8 :: a9 :: a10 :: a11 :: a12 :: a13 :: a14 :: a15 :: σ) H N := h
theorem ix_of {n k : Nat} (h : k < n) : ixN n (k : Int) = some k := by
  unfold ixN
  rw [if_pos (by omega), if_pos (by omega)]
  simp
theorem at_of {α : Type} {xs : List α} {k : Nat} {v : α} (h : xs[k]? = some v) : atI xs (k : Int) = some v := by
  unfold atI
  rw [ix_of (List.getElem?_eq_some_iff.mp h).1]
  exact h
theorem at_0 {α : Type} {a0 : α} {l : List α} : atI (a0 :: l) 0 = some a0 := at_of (k := 0) rfl
theorem ix_0 {α : Type} {a0 : α} {l : List α} : ixN (a0 :: l).length 0 = some 0 := ix_of (k := 0) (by simp only [List.length_cons]; omega)
theorem at_1 {α : Type} {a0 a1 : α} {l : List α} : atI (a0 :: a1 :: l) 1 = some a1 := at_of (k := 1) rfl
theorem ix_1 {α : Type} {a0 a1 : α} {l : List α} : ixN (a0 :: a1 :: l).length 1 = some 1 := ix_of (k := 1) (by simp only [List.length_cons]; omega)
theorem at_2 {α : Type} {a0 a1 a2 : α} {l : List α} : atI (a0 :: a1 :: a2 :: l) 2 = some a2 := at_of (k := 2) rfl
theorem ix_2 {α : Type} {a0 a1 a2 : α} {l : List α} : ixN (a0 :: a1 :: a2 :: l).length 2 = some 2 := ix_of (k := 2) (by simp only [List.length_cons]; omega)
theorem at_3 {α : Type} {a0 a1 a2 a3 : α} {l : List α} : atI (a0 :: a1 :: a2 :: a3 :: l) 3 = some a3 := at_of (k := 3) rfl
theorem ix_3 {α : Type} {a0 a1 a2 a3 : α} {l : List α} : ixN (a0 :: a1 :: a2 :: a3 :: l).length 3 = some 3 := ix_of (k := 3) (by simp only [List.length_cons]; omega)
theorem at_4 {α : Type} {a0 a1 a2 a3 a4 : α} {l : List α} : atI (a0 :: a1 :: a2 :: a3 :: a4 :: l) 4 = some a4 := at_of (k := 4) rfl
theorem ix_4 {α : Type} {a0 a1 a2 a3 a4 : α} {l : List α} : ixN (a0 :: a1 :: a2 :: a3 :: a4 :: l).length 4 = some 4 := ix_of (k := 4) (by simp only [List.length_cons]; omega)
theorem at_5 {α : Type} {a0 a1 a2 a3 a4 a5 : α} {l : List α} : atI (a0 :: a1 :: a2 :: a3 :: a4 :: a5 :: l) 5 = some a5 := at_of (k := 5) rfl
theorem ix_5 {α : Type} {a0 a1 a2 a3 a4 a5 : α} {l : List α} : ixN (a0 :: a1 :: a2 :: a3 :: a4 :: a5 :: l).length 5 = some 5 := ix_of (k := 5) (by simp only [List.length_cons]; omega)
theorem at_6 {α : Type} {a0 a1 a2 a3 a4 a5 a6 : α} {l : List α} : atI (a0 :: a1 :: a2 :: a3 :: a4 :: a5 :: a6 :: l) 6 = some a6 := at_of (k := 6) rfl
theorem ix_6 {α : Type} {a0 a1 a2 a3 a4 a5 a6 : α} {l : List α} : ixN (a0 :: a1 :: a2 :: a3 :: a4 :: a5 :: a6 :: l).length 6 = some 6 := ix_of (k := 6) (by simp only [List.length_cons]; omega)
theorem at_7 {α : Type} {a0 a1 a2 a3 a4 a5 a6 a7 : α} {l : List α} : atI (a0 :: a1 :: a2 :: a3 :: a4 :: a5 :: a6 :: a7 :: l) 7 = some a7 := at_of (k := 7) rfl
theorem ix_7 {α : Type} {a0 a1 a2 a3 a4 a5 a6 a7 : α} {l : List α} : ixN (a0 :: a1 :: a2 :: a3 :: a4 :: a5 :: a6 :: a7 :: l).length 7 = some 7 := ix_of (k := 7) (by simp only [List.length_cons]; omega)
end
/-! ### the written part -/
theorem kof {CX : CXT} {P : Program} {w : World} {K : PySem.W.Frag} {mg : Str → Option Value} {base : Heap} {N : List Str} {q : Str} {sc : Scope} {f : Addr} {cd : Value} {A : Around} {outer : List Env} {s : Shared} {H : Hp} {E : XK} {xe : Value → Shared → Prop} :
    ((cxOf CX P w K mg base N q sc f cd A outer s H E).wish xe).K = K := rfl
theorem kof2 {CX : CXT} {P : Program} {w : World} {K : PySem.W.Frag} {mg : Str → Option Value} {base : Heap} {N : List Str} {q : Str} {sc : Scope} {f : Addr} {cd : Value} {A : Around} {outer : List Env} {s : Shared} {H : Hp} {E : XK} :
    (cxOf CX P w K mg base N q sc f cd A outer s H E).K = K := rfl
theorem kofB {X : Cx} {s : Shared} {H : Hp} {sc : Scope} {e : Env} {fp : List Addr} : (X.blk s H sc e fp).K = X.K := rfl
/-! ### sides -/
theorem cmul_l {i j : Int} (h : -(2 ^ 64) < i ∧ i < 2 ^ 64) : CMulA i j := .inl (.inl h)
theorem cmul_r {i j : Int} (h : -(2 ^ 64) < j ∧ j < 2 ^ 64) : CMulA i j := .inl (.inr h)
theorem cdiv_s {i j : Int} (h : 0 < j) (h2 : j < 1073741824) : CDivW i j := ⟨h, Nat.lt_of_lt_of_le (PySem.Flt.log2_lt_of (k := 30) (by decide) (show j.natAbs < 2 ^ 30 by omega)) (by decide)⟩
theorem cdvm_s {i j : Int} (h : 0 < j) (h2 : j < 1073741824) : CDivP i j := ⟨h, PyProof.noPylong_small (by omega)⟩
end Gd

set_option Elab.async false
set_option linter.all false
set_option maxRecDepth 100000
set_option maxHeartbeats 4000000
/-! Wl: the law's wells, and what the drawing defs promise. -/
namespace Gd
open PySem PySem.Spec PyProof.Rows L2
/-- the list of three at w from which numbers are drawn -/
def Wl (H : Hp) (w : Addr) : Prop := ∃ a m n : Int, H w = some (.lst [.int a, .int m, .int n]) ∧ 0 ≤ a ∧ 0 ≤ m ∧ m < 2147483489
/-- what a drawing def leaves -/
def Dr (w : Addr) (H : Hp) (R : Hp → Prop) : Prop := ∀ H', Kp w H H' → Wl H' w → R H'
/-- draw(well, few) -/
def spDraw : Sp := fun vs H Q _ => ∃ (w : Addr) (few : Int), vs = [.ref w, .int few] ∧ 0 < few ∧ few ≤ 1000000000 ∧ Wl H w ∧ ∀ k : Int, 0 ≤ k → k < few → Dr w H fun H' => Q (.int k) H'
end Gd
namespace Gd
open PySem PySem.Spec PyProof.Rows L2
/-- well(script, lap) -/
def spWell (K : PySem.W.Frag) : Sp := fun vs H Q _ => ∃ (a : Addr) (ns : List Int) (lap : Int), vs = [.ref a, .int lap] ∧ SqL K H a (ns.map V.int) ∧ 0 ≤ lap ∧ lap < 1000 ∧ ∀ w H', H w = none → Same H H' → Wl H' w → Q (.ref w) H'
/-- one(well, some), some a tuple or another list -/
def spOne (K : PySem.W.Frag) : Sp := fun vs H Q _ => ∃ (w t : Addr) (xs : List V), vs = [.ref w, .ref t] ∧ (SqT K H t xs ∨ (SqL K H t xs ∧ t ≠ w)) ∧ xs ≠ [] ∧ xs.length ≤ 1000000000 ∧ Wl H w ∧ ∀ v ∈ xs, Dr w H fun H' => Q v H'
/-- lean(top, base): the fraction in lowest terms, base above 0 -/
def leanV (n d : Int) : List V := [.int (n / (Int.gcd n d : Int)), .int (d / (Int.gcd n d : Int))]
def spLean : Sp := fun vs H Q _ => ∃ n d : Int, vs = [.int n, .int d] ∧ 0 < d ∧ d.natAbs < 2 ^ 8000 ∧ ∀ p, H p = none → Q (.ref p) (upd H p (.tup (leanV n d)))
/-- reading ends in the well kept -/
theorem Wl.kp {H H' : Hp} {w v : Addr} (h : Wl H v) (hne : v ≠ w) (k : Kp w H H') : Wl H' v := by
  obtain ⟨a, m, n, e, r⟩ := h
  exact ⟨a, m, n, k _ _ hne e, r⟩
theorem Wl.same {H H' : Hp} {w : Addr} (h : Wl H w) (k : Same H H') : Wl H' w := by
  obtain ⟨a, m, n, e, r⟩ := h
  exact ⟨a, m, n, k _ _ e, r⟩
theorem sqT_ne {K : PySem.W.Frag} {H : Hp} {t w : Addr} {xs ys : List V} (h : H t = some (.tup xs)) (hw : H w = some (.lst ys)) : t ≠ w := fun e => by
  rw [e, hw] at h
  cases h
/-- a tuple stands behind a draw -/
theorem SqT.kp {K : PySem.W.Frag} {H H' : Hp} {t w : Addr} {xs : List V} (h : SqT K H t xs) (hw : Wl H w) (k : Kp w H H') : SqT K H' t xs := by
  obtain ⟨a, m, n, e, _⟩ := hw
  have ne : ∀ o, H t = some o → (∀ z, o ≠ .lst z) → t ≠ w := fun o h1 h2 e1 => by
    rw [e1, e] at h1
    exact h2 _ (Option.some.inj h1).symm
  rcases h with (h | ⟨o, h⟩) | h
  · exact .inl (.inl (k _ _ (ne _ h (by simp)) h))
  · exact .inl (.inr ⟨o, k _ _ (ne _ h (by simp)) h⟩)
  · exact .inr h
theorem SqL.kp {K : PySem.W.Frag} {H H' : Hp} {t w : Addr} {xs : List V} (h : SqL K H t xs) (hn : t ≠ w) (k : Kp w H H') : SqL K H' t xs := by
  rcases h with (h | ⟨o, h⟩) | h
  · exact .inl (.inl (k _ _ hn h))
  · exact .inl (.inr ⟨o, k _ _ hn h⟩)
  · exact .inr h
end Gd
namespace Gd
theorem gcd_abs (n d : Int) : Int.gcd (if n < 0 then -n else n) (if d < 0 then -d else d) = Int.gcd n d := by
  unfold Int.gcd
  congr 1 <;> split <;> simp
theorem gcd_step {x y : Int} (hx : 0 ≤ x) (hy : 0 ≤ y) : Int.gcd y (x % y) = Int.gcd x y := by
  obtain ⟨a, rfl⟩ := Int.eq_ofNat_of_zero_le hx
  obtain ⟨b, rfl⟩ := Int.eq_ofNat_of_zero_le hy
  show Nat.gcd b ((a : Int) % (b : Int)).natAbs = Nat.gcd a b
  rw [← Int.natCast_emod, Int.natAbs_natCast, Nat.gcd_comm b, ← Nat.gcd_rec, Nat.gcd_comm]
theorem gcd_end {x : Int} (hx : 0 ≤ x) : ((Int.gcd x 0 : Nat) : Int) = x := by
  simp [Int.gcd]
  omega
theorem gcd_pos {n d : Int} (h : 0 < d) : (0 : Int) < (Int.gcd n d : Nat) := by
  have := Int.gcd_pos_of_ne_zero_right n (show d ≠ 0 by omega)
  omega
theorem gcd_le {n d : Int} (h : 0 < d) : Int.gcd n d ≤ d.natAbs := Nat.le_of_dvd (by omega) (Nat.gcd_dvd_right _ _)
end Gd
namespace Gd
theorem Wl.apart {H : L2.Hp} {w l : PySem.Addr} (h : Wl H w) (n : H l = none) : w ≠ l := fun e => by
  subst e
  exact h.elim fun _ ⟨_, _, q, _⟩ => by rw [n] at q; cases q
end Gd

set_option Elab.async false
set_option linter.all false
set_option maxRecDepth 100000
set_option maxHeartbeats 4000000
set_option autoImplicit false
/-! Pd: written data, in one word. -/
namespace Gd
open PySem PySem.Spec PyProof.Rows L2
section
variable {w : Addr} {K : PySem.W.Frag} {H H' : Hp}
mutual
theorem Dt.kp (hw : Wl H w) (k : Kp w H H') : ∀ {v : V} {d : PyData}, Dt w K H v d → Dt w K H' v d
  | _, _, .non => .non
  | _, _, .bl b => .bl b
  | _, _, .int i => .int i
  | _, _, .str x => .str x
  | _, _, .lst n h r => .lst n (SqL.kp h n k) (DtL.kp hw k r)
  | _, _, .tup h r => .tup (SqT.kp h hw k) (DtL.kp hw k r)
  | _, _, .dic (a := a) h => .dic (k _ _ (fun e => by
      obtain ⟨_, _, _, e2, _⟩ := hw
      rw [e, e2] at h
      cases h) h)
theorem DtL.kp (hw : Wl H w) (k : Kp w H H') : ∀ {vs : List V} {ds : List PyData}, DtL w K H vs ds → DtL w K H' vs ds
  | _, _, .nil => .nil
  | _, _, .cons h r => .cons (Dt.kp hw k h) (DtL.kp hw k r)
end
theorem DtL.mem : ∀ {vs : List V} {ds : List PyData}, DtL w K H vs ds → ∀ {v : V}, v ∈ vs → ∃ d ∈ ds, Dt w K H v d
  | _, _, .nil, _, e => by cases e
  | _, _, .cons h r, v, e => by
    rcases List.mem_cons.mp e with rfl | e
    · exact ⟨_, List.mem_cons_self .., h⟩
    · obtain ⟨d, m, q⟩ := DtL.mem r e
      exact ⟨d, List.mem_cons_of_mem _ m, q⟩
end
/-- a written datum: what it comes to -/
def tDat (K : PySem.W.Frag) (d : PyData) : TE := fun _ H Q => ∃ w, H w ≠ none ∧ ∀ H' v, Same H H' → Dt w K H' v d → Q v H'
def tDats (K : PySem.W.Frag) (ds : List PyData) : TA := fun _ H Q => ∃ w, H w ≠ none ∧ ∀ H' vs, Same H H' → DtL w K H' vs ds → Q vs H'
section
variable {X : Cx} {e : Expr} {es : List Expr} {t t' : TE} {ta ta' : TA} {d : PyData} {ds : List PyData} {pos : Pos}
theorem pe_weak (h : PE X e t) (f : ∀ σ H Q, t' σ H Q → t σ H Q) : PE X e t' := ⟨fun pins s σ H Q I q => h.run pins s σ H Q I (f σ H Q q)⟩
theorem pa_weak (h : PA X es ta) (f : ∀ σ H Q, ta' σ H Q → ta σ H Q) : PA X es ta' := ⟨fun pos pins s σ H Q I q => h.run pos pins s σ H Q I (f σ H Q q)⟩
theorem pd_int {i j} : PE X (.Constant (.int i) j pos) (tDat X.K (.int i)) := pe_weak pe_int fun _ H _ ⟨_, _, q⟩ => q H _ (Same.refl H) (.int i)
theorem pd_bl {b j} : PE X (.Constant (.bool b) j pos) (tDat X.K (.bool b)) := pe_weak pe_bl fun _ H _ ⟨_, _, q⟩ => q H _ (Same.refl H) (.bl b)
theorem pd_non {j} : PE X (.Constant .none j pos) (tDat X.K .none) := pe_weak pe_non fun _ H _ ⟨_, _, q⟩ => q H _ (Same.refl H) .non
theorem pd_str {x j} : PE X (.Constant (.str x) j pos) (tDat X.K (.str x)) := pe_weak pe_str fun _ H _ ⟨_, _, q⟩ => q H _ (Same.refl H) (.str x)
theorem pd_neg {i j p2} : PE X (.UnaryOp .USub (.Constant (.int i) j p2) pos) (tDat X.K (.int (-i))) := pe_weak (pe_un un_neg pe_int) fun _ H _ ⟨_, _, q⟩ => ⟨i, rfl, q H _ (Same.refl H) (.int (-i))⟩
theorem pd_pow {i k j j2 p2 p3} (h : CPow i k) : PE X (.BinOp (.Constant (.int i) j p2) .Pow (.Constant (.int k) j2 p3) pos) (tDat X.K (.int (i ^ k.toNat))) :=
  pe_weak (pe_op op_pow pe_int pe_int) fun _ H _ ⟨_, _, q⟩ => ⟨i, k, rfl, rfl, h, q H _ (Same.refl H) (.int _)⟩
theorem pds_nil : PA X [] (tDats X.K []) := pa_weak pa_nil fun _ H _ ⟨_, _, q⟩ => q H _ (Same.refl H) .nil
theorem pds_cons (h : PE X e (tDat X.K d)) (r : PA X es (tDats X.K ds)) (hs : starEach (e :: es) X.env = (false, eval e X.env) :: starEach es X.env := by rfl) : PA X (e :: es) (tDats X.K (d :: ds)) :=
  pa_weak (pa_cons h r hs) fun _ H _ ⟨w, n, q⟩ => ⟨w, n, fun H1 v s1 h1 => ⟨w, fun z => n (s1.free z), fun H2 vs s2 h2 => q H2 _ (s1.trans s2) (.cons (Dt.same s2 h1) h2)⟩⟩
theorem pd_tup {x1} (h : PA X es (tDats X.K ds)) (hz : ds.length ≤ 1000 := by decide) : PE X (.Tuple es x1 pos) (tDat X.K (.tuple ds)) :=
  pe_weak (pe_tup h) fun _ H _ ⟨w, n, q⟩ => ⟨w, n, fun H1 vs s1 h1 => ⟨Nat.le_trans (by rw [h1.length]; exact hz) (by decide), fun p hp => q _ _ (s1.trans (same_new hp)) (.tup (SqT.of upd_same) (DtL.same (same_new hp) h1))⟩⟩
theorem pd_lst (h : PA X es (tDats X.K ds)) (hz : ds.length ≤ 1000 := by decide) : PE X (.List es pos) (tDat X.K (.list ds)) :=
  pe_weak (pe_lst h) fun _ H _ ⟨w, n, q⟩ => ⟨w, n, fun H1 vs s1 h1 => ⟨Nat.le_trans (by rw [h1.length]; exact hz) (by decide), fun p hp => q _ _ (s1.trans (same_new hp)) (.lst (fun z => n (s1.free (z ▸ hp))) (SqL.of upd_same) (DtL.same (same_new hp) h1))⟩⟩
theorem pd_dic : PE X (.Dict [] [] pos) (tDat X.K (.dict [])) := by
  refine pe_weak (pe_dnewK) fun σ H Q h => ?_
  obtain ⟨w, n, q⟩ := h
  exact fun p hp => q _ _ (same_new hp) (.dic upd_same)
end
theorem w_dat {K : PySem.W.Frag} {d : PyData} {σ : L2.St} {H : Hp} {Q : VK} {w : Addr} (n : H w ≠ none) (h : ∀ H' v, Same H H' → Dt w K H' v d → Q v H') : tDat K d σ H Q := ⟨w, n, h⟩
theorem Wl.ne {H : Hp} {w : Addr} (h : Wl H w) : H w ≠ none := by
  obtain ⟨a, m, n, e, _⟩ := h
  rw [e]
  simp
/-- one(well, some), some a tuple of data -/
def spOneD (K : PySem.W.Frag) : Sp := fun vs H Q _ => ∃ (w : Addr) (t : V) (ds : List PyData), vs = [.ref w, t] ∧ Dt w K H t (.tuple ds) ∧ ds ≠ [] ∧ ds.length ≤ 1000000 ∧ Wl H w ∧ ∀ d ∈ ds, ∀ H' v, Kp w H H' → Wl H' w → Dt w K H' v d → Q v H'
theorem one_d {K : PySem.W.Frag} {vs : List V} {H : Hp} {Q : VK} {E : XK} (h : spOneD K vs H Q E) : spOne K vs H Q E := by
  obtain ⟨w, t, ds, rfl, hd, n, z, hw, hq⟩ := h
  cases hd with
  | tup hs hr =>
    refine ⟨w, _, _, rfl, .inl hs, fun e => n (by have := hr.length; rw [e] at this; exact List.length_eq_zero_iff.mp this.symm), by rw [hr.length]; omega, hw, fun v hv H' k wl => ?_⟩
    obtain ⟨d, m, q⟩ := hr.mem hv
    exact hq d m H' v k wl (Dt.kp hw k q)
end Gd
namespace Gd
open PySem PySem.Spec PyProof.Rows L2
/-! ### data of tuples alone: they stand whatever lists change -/
mutual
inductive Tt (K : PySem.W.Frag) (H : Hp) : V → PyData → Prop
  | non : Tt K H .non .none
  | bl (b : Bool) : Tt K H (.bl b) (.bool b)
  | int (i : Int) : Tt K H (.int i) (.int i)
  | str (x : Str) : Tt K H (.str x) (.str x)
  | tup {a : Addr} {xs : List V} {ds : List PyData} (h : SqT K H a xs) (r : TtL K H xs ds) : Tt K H (.ref a) (.tuple ds)
inductive TtL (K : PySem.W.Frag) (H : Hp) : List V → List PyData → Prop
  | nil : TtL K H [] []
  | cons {v : V} {vs : List V} {d : PyData} {ds : List PyData} (h : Tt K H v d) (r : TtL K H vs ds) : TtL K H (v :: vs) (d :: ds)
end
/-- tuples stand -/
def TK (H H' : Hp) : Prop := ∀ b o, ((∃ xs, o = .tup xs) ∨ ∃ u v, o = .frz u v) → H b = some o → H' b = some o
theorem TK.refl (H : Hp) : TK H H := fun _ _ _ h => h
theorem TK.trans {H H1 H2 : Hp} (a : TK H H1) (b : TK H1 H2) : TK H H2 := fun c o n h => b c o n (a c o n h)
theorem TK.same {H H' : Hp} (a : Same H H') : TK H H' := fun b o _ h => a b o h
theorem TK.put {H : Hp} {l : Addr} {xs : List V} {o : HO} (h : H l = some (.lst xs)) : TK H (upd H l o) := fun b u n e => by
  rw [upd_ne]
  · exact e
  · rintro rfl
    rw [h] at e
    cases e
    rcases n with ⟨_, n⟩ | ⟨_, _, n⟩ <;> cases n
theorem TK.kp {H H' : Hp} {w : Addr} (hw : Wl H w) (k : Kp w H H') : TK H H' := fun b o n e => k b o (by
  rintro rfl
  obtain ⟨_, _, _, e2, _⟩ := hw
  rw [e2] at e
  cases e
  rcases n with ⟨_, n⟩ | ⟨_, _, n⟩ <;> cases n) e
section
variable {w : Addr} {K : PySem.W.Frag} {H H' : Hp}
theorem SqT.tk {a : Addr} {xs : List V} (k : TK H H') (h : SqT K H a xs) : SqT K H' a xs := by
  rcases h with (h | ⟨o, h⟩) | h
  · exact .inl (.inl (k _ _ (.inl ⟨_, rfl⟩) h))
  · exact .inl (.inr ⟨o, k _ _ (.inr ⟨_, _, rfl⟩) h⟩)
  · exact .inr h
mutual
theorem Tt.tk (k : TK H H') : ∀ {v : V} {d : PyData}, Tt K H v d → Tt K H' v d
  | _, _, .non => .non
  | _, _, .bl b => .bl b
  | _, _, .int i => .int i
  | _, _, .str x => .str x
  | _, _, .tup h r => .tup (SqT.tk k h) (TtL.tk k r)
theorem TtL.tk (k : TK H H') : ∀ {vs : List V} {ds : List PyData}, TtL K H vs ds → TtL K H' vs ds
  | _, _, .nil => .nil
  | _, _, .cons h r => .cons (Tt.tk k h) (TtL.tk k r)
end
mutual
theorem Tt.dt : ∀ {v : V} {d : PyData}, Tt K H v d → Dt w K H v d
  | _, _, .non => .non
  | _, _, .bl b => .bl b
  | _, _, .int i => .int i
  | _, _, .str x => .str x
  | _, _, .tup h r => .tup h (TtL.dt r)
theorem TtL.dt : ∀ {vs : List V} {ds : List PyData}, TtL K H vs ds → DtL w K H vs ds
  | _, _, .nil => .nil
  | _, _, .cons h r => .cons (Tt.dt h) (TtL.dt r)
end
theorem TtL.length : ∀ {vs : List V} {ds : List PyData}, TtL K H vs ds → vs.length = ds.length
  | _, _, .nil => rfl
  | _, _, .cons _ r => congrArg Nat.succ (TtL.length r)
theorem TtL.append : ∀ {vs us : List V} {ds es : List PyData}, TtL K H vs ds → TtL K H us es → TtL K H (vs ++ us) (ds ++ es)
  | _, _, _, _, .nil, s => s
  | _, _, _, _, .cons h r, s => .cons h (TtL.append r s)
theorem TtL.one {v : V} {d : PyData} (h : Tt K H v d) : TtL K H [v] [d] := .cons h .nil
theorem TtL.mem : ∀ {vs : List V} {ds : List PyData}, TtL K H vs ds → ∀ {v : V}, v ∈ vs → ∃ d ∈ ds, Tt K H v d
  | _, _, .nil, _, e => by cases e
  | _, _, .cons h r, v, e => by
    rcases List.mem_cons.mp e with rfl | e
    · exact ⟨_, List.mem_cons_self .., h⟩
    · obtain ⟨d, m, q⟩ := TtL.mem r e
      exact ⟨d, List.mem_cons_of_mem _ m, q⟩
theorem TtL.get : ∀ {vs : List V} {ds : List PyData}, TtL K H vs ds → ∀ {i : Nat} {v : V}, vs[i]? = some v → ∃ d, ds[i]? = some d ∧ Tt K H v d
  | _, _, .nil, _, _, e => by simp at e
  | _, _, .cons h r, 0, _, e => by simp at e; subst e; exact ⟨_, rfl, h⟩
  | _, _, .cons h r, i + 1, _, e => by simpa using TtL.get r (i := i) (by simpa using e)
end
/-! ### fractions, rows -/
def frD (q : Int × Int) : PyData := .tuple [.int q.1, .int q.2]
def rowD (qs : List (Int × Int)) : PyData := .tuple (qs.map frD)
theorem dt_fr {w : Addr} {K : PySem.W.Frag} {H : Hp} {v : V} {q : Int × Int} (h : Dt w K H v (frD q)) : Tt K H v (frD q) := by
  unfold frD at *
  cases h with
  | tup h r =>
    cases r with
    | cons a r =>
      cases r with
      | cons b r =>
        cases r
        cases a
        cases b
        exact .tup h (.cons (.int _) (.cons (.int _) .nil))
theorem tt_fr {K : PySem.W.Frag} {H : Hp} {v : V} {q : Int × Int} (h : Tt K H v (frD q)) : ∃ a, v = .ref a ∧ SqT K H a [.int q.1, .int q.2] := by
  unfold frD at *
  cases h with
  | tup h r =>
    cases r with
    | cons a r =>
      cases r with
      | cons b r =>
        cases r
        cases a
        cases b
        exact ⟨_, rfl, h⟩
theorem tt_row {K : PySem.W.Frag} {H : Hp} {v : V} {qs : List (Int × Int)} (h : Tt K H v (rowD qs)) : ∃ a xs, v = .ref a ∧ SqT K H a xs ∧ TtL K H xs (qs.map frD) := by
  unfold rowD at *
  cases h with
  | tup h r => exact ⟨_, _, rfl, h, r⟩
def NumOk (q : Int × Int) : Prop := 0 < q.2 ∧ Int.gcd q.1 q.2 = 1 ∧ q.1.natAbs ≤ 1000000 ∧ q.2 ≤ 60
instance (q : Int × Int) : Decidable (NumOk q) := by unfold NumOk; infer_instance
def leanF (n d : Int) : Int × Int := (n / (Int.gcd n d : Nat), d / (Int.gcd n d : Nat))
theorem leanF_gcd {n d : Int} (h : 0 < d) : Int.gcd (leanF n d).1 (leanF n d).2 = 1 := by
  have p : 0 < Int.gcd n d := Int.gcd_pos_of_ne_zero_right n (by omega)
  unfold leanF
  exact Int.gcd_ediv_gcd_ediv_gcd p
theorem leanF_pos {n d : Int} (h : 0 < d) : 0 < (leanF n d).2 := by
  have p := gcd_pos (n := n) h
  exact Int.ediv_pos_of_pos_of_dvd h (by omega) (Int.gcd_dvd_right n d)
theorem leanF_n {n d : Int} (h : 0 < d) : (leanF n d).1.natAbs ≤ n.natAbs := by
  unfold leanF
  have p := gcd_pos (n := n) h
  rw [Int.natAbs_ediv_of_dvd (Int.gcd_dvd_left n d)]
  exact Nat.div_le_self _ _
theorem leanF_d {n d : Int} (h : 0 < d) : (leanF n d).2 ≤ d := by
  unfold leanF
  exact Int.ediv_le_self _ (by omega)
def spNumber (K : PySem.W.Frag) : Sp := fun vs H Q _ => ∃ w, vs = [.ref w] ∧ Wl H w ∧ ∀ q, NumOk q → ∀ H' v, Kp w H H' → Wl H' w → Tt K H' v (frD q) → Q v H'
def spNumbers (K : PySem.W.Frag) : Sp := fun vs H Q _ => ∃ (w : Addr) (few : Nat), vs = [.ref w, .int few] ∧ few ≤ 1000 ∧ Wl H w ∧ ∀ qs : List (Int × Int), qs.length = few → (∀ q ∈ qs, NumOk q) → ∀ H' v, Kp w H H' → Wl H' w → Tt K H' v (rowD qs) → Q v H'
def spMinus (K : PySem.W.Frag) : Sp := fun vs H Q _ => ∃ (a b : Addr) (x y : Int × Int), vs = [.ref a, .ref b] ∧ SqT K H a [.int x.1, .int x.2] ∧ SqT K H b [.int y.1, .int y.2] ∧ 0 < x.2 ∧ 0 < y.2 ∧ x.1.natAbs < 2 ^ 4000 ∧ x.2.natAbs < 2 ^ 4000 ∧ y.1.natAbs < 2 ^ 4000 ∧ y.2.natAbs < 2 ^ 4000 ∧
  ∀ p, H p = none → Q (.ref p) (upd H p (.tup [.int (leanF (x.1 * y.2 - y.1 * x.2) (x.2 * y.2)).1, .int (leanF (x.1 * y.2 - y.1 * x.2) (x.2 * y.2)).2]))
end Gd
namespace Gd
open PySem PySem.Spec PyProof.Rows L2
theorem Cal.imp {P : Program} {w : World} {K : PySem.W.Frag} {mg : Str → Option Value} {base : Heap} {x : Str} {k : Nat} {ps : List Str} {sp sp' : Sp} (c : Cal P w K mg base x k ps sp) (h : ∀ vs H Q E, sp' vs H Q E → sp vs H Q E) : Cal P w K mg base x k ps sp' := by
  obtain ⟨f, fd, F, r⟩ := c
  exact ⟨f, fd, F.imp h, r⟩
end Gd
namespace Gd
open PySem PySem.Spec PyProof.Rows L2
/-- a tuple of data and another one -/
theorem w_catD {w : Addr} {K : PySem.W.Frag} {H : Hp} {Q : VK} {x y : V} {ds es : List PyData} (hx : Dt w K H x (.tuple ds)) (hy : Dt w K H y (.tuple es)) (n1 : ds ≠ []) (n2 : es ≠ []) (z : ds.length + es.length ≤ 1000)
    (h : ∀ p xs, H p = none → Dt w K (upd H p (.tup xs)) (.ref p) (.tuple (ds ++ es)) → Q (.ref p) (upd H p (.tup xs))) : rAddA K x y H Q := by
  cases hx with
  | tup hx rx =>
    cases hy with
    | tup hy ry =>
      refine .inr (.inl ⟨_, _, _, _, rfl, rfl, hx, hy, Nat.le_trans (by rw [rx.length, ry.length]; exact z) (by decide), fun e => ?_, fun _ e => ?_, fun _ _ p hp => h p _ hp (.tup (SqT.of upd_same) (DtL.same (same_new hp) (rx.append ry)))⟩)
      · exact absurd (List.length_eq_zero_iff.mp (by rw [← rx.length, e]; rfl)) n1
      · exact absurd (List.length_eq_zero_iff.mp (by rw [← ry.length, e]; rfl)) n2
end Gd

set_option Elab.async false
set_option linter.all false
set_option maxRecDepth 100000
set_option maxHeartbeats 4000000
set_option autoImplicit false
/-! Kv: the rules that name the written part, by its own letter. -/
namespace Gd
open PySem PySem.Spec PyProof.Rows L2 RZ
section
variable {X : Cx} {K : PySem.W.Frag}
theorem k_add (e : X.K = K) : OpR X (binaryOp .Add) (rAddA K) := e ▸ op_addA
theorem k_mul (e : X.K = K) : OpR X (binaryOp .Mult) (rMulA K) := e ▸ op_mulA
theorem k_eq (e : X.K = K) (hu : X.A.units + 64 < cLine) : OpR X (compareOp .Eq) (rEqA K) := e ▸ op_eqA hu
theorem k_ne (e : X.K = K) (hu : X.A.units + 64 < cLine) : OpR X (compareOp .NotEq) (rNeA K) := e ▸ op_neA hu
theorem k_ix (e : X.K = K) : IxR X (rIx K) := e ▸ ix_seq
theorem k_sl (e : X.K = K) : SlR X (rSlS K) := e ▸ sl_any
theorem k_len (e : X.K = K) : CallR X (.builtin "len") (rLen K) := e ▸ call_lenA
theorem k_tupT (e : X.K = K) : CallR X (.type "tuple") (rTup K) := e ▸ call_tupA
theorem k_lstT (e : X.K = K) : CallR X (.type "list") (rLst K) := e ▸ call_lstA
theorem k_isi (e : X.K = K) : CallR X (.builtin "isinstance") (rIsi K) := e ▸ call_isi
theorem k_all (e : X.K = K) (hc : X.calm = true) : CallR X (.builtin "all") (rAll K) := e ▸ cr_all hc
theorem k_any (e : X.K = K) (hc : X.calm = true) : CallR X (.builtin "any") (rAny K) := e ▸ cr_any hc
theorem k_maxL (e : X.K = K) (hc : X.calm = true) : CallR X (.builtin "max") (rMax K) := e ▸ cr_max hc
theorem k_repr (e : X.K = K) (S : SysM X.base) (hG : Cl X.A) (hu : X.A.units + 150 < cLine) : CallR X (.builtin "repr") (rRepr K) := e ▸ call_repr S hG hu
theorem k_gtup {pos : Pos} {es : List Expr} {k : Nat} {t : TGs} {n : Nat} (e : X.K = K) (hc : X.calm = true) (h : PGs X es t)
    (hn : (assignEach es X.env).length = n := by rfl) (hst : (assignEach es X.env).findIdx? (·.1) = none := by rfl) : PG X (.Tuple es k pos) (gTup K n t) := e ▸ pg_tup hc h hn hst
theorem k_list {tg l : Expr} {tl : TE} (e : X.K = K) (hl : PE X l tl) : PI X tg l (iList K tl) := e ▸ pi_list hl
theorem k_tup {tg l : Expr} {tl : TE} (e : X.K = K) (hl : PE X l tl) : PI X tg l (iTup K tl) := e ▸ pi_tup hl
theorem k_enum {e' : Expr} {ta : TA} {p pos tpos : Pos} {elts : List Expr} {kk : Nat} (e : X.K = K) (hg : Gl X "enumerate") (hm : X.mg "enumerate" = none) (ha : PA X [e'] ta) (hs : starEach [e'] X.env = [(false, eval e' X.env)] := by rfl) :
    PI X (.Tuple elts kk tpos) (.Call (.Name "enumerate" p) [e'] [] pos) (iEnum K ta) := e ▸ pi_enum hg hm ha hs
theorem k_zip {e1 e2 : Expr} {ta : TA} {p pos tpos : Pos} {elts : List Expr} {kk : Nat} (e : X.K = K) (hg : Gl X "zip") (hm : X.mg "zip" = none) (ha : PA X [e1, e2] ta)
    (hs : starEach [e1, e2] X.env = (false, eval e1 X.env) :: starEach [e2] X.env := by rfl) (hpl : (backTo pos (starEach [e2] X.env)).any (·.1) = false := by rfl) :
    PI X (.Tuple elts kk tpos) (.Call (.Name "zip" p) [e1, e2] [] pos) (iZipA K ta) := e ▸ pi_zipA hg hm ha hs hpl
theorem k_dat {e' : Expr} {d : PyData} (e : X.K = K) (h : PE X e' (tDat X.K d)) : PE X e' (tDat K d) := e ▸ h
end
end Gd

set_option Elab.async false
set_option linter.all false
set_option maxRecDepth 100000
set_option maxHeartbeats 4000000
set_option autoImplicit false
/-! Tr: drawn trials. -/
namespace Gd
open PySem PySem.Spec PyProof.Rows L2 RZ
/-- the least common multiple of 1 .. 60 -/
def L60 : Nat := 9690712164777231700912800
theorem dvd60 {d : Int} (h : 0 < d) (h2 : d ≤ 60) : d ∣ (L60 : Int) := by
  have key : ∀ k : Nat, k < 61 → 0 < k → L60 % k = 0 := by decide
  obtain ⟨k, rfl⟩ := Int.eq_ofNat_of_zero_le (show 0 ≤ d by omega)
  exact Int.natCast_dvd_natCast.mpr (Nat.dvd_of_mod_eq_zero (key k (by omega) (by omega)))
/-- an entry of a row made in i turns -/
def Ent (i : Nat) (q : Int × Int) : Prop := 0 < q.2 ∧ Int.gcd q.1 q.2 = 1 ∧ q.2 ∣ (L60 : Int) ∧ (q.1.natAbs : Int) ≤ 1000000 * 2 ^ i * q.2
theorem Ent.up {i j : Nat} {q : Int × Int} (h : Ent i q) (l : i ≤ j) : Ent j q := by
  obtain ⟨a, b, c, d⟩ := h
  refine ⟨a, b, c, Int.le_trans d ?_⟩
  have e : (2 : Int) ^ i ≤ 2 ^ j := by
    have := Nat.pow_le_pow_right (n := 2) (by decide) l
    exact_mod_cast this
  have e2 : (1000000 : Int) * 2 ^ i ≤ 1000000 * 2 ^ j := by omega
  exact Int.mul_le_mul_of_nonneg_right e2 (by omega)
theorem NumOk.ent {q : Int × Int} (h : NumOk q) : Ent 0 q := by
  obtain ⟨a, b, c, d⟩ := h
  refine ⟨a, b, dvd60 a d, ?_⟩
  have : (q.1.natAbs : Int) ≤ 1000000 := by omega
  have e : (1000000 : Int) * 1 ≤ 1000000 * q.2 := by omega
  simp
  omega
theorem Ent.lt {i : Nat} {q : Int × Int} (h : Ent i q) (hi : i ≤ 10) : q.1.natAbs < 2 ^ 120 ∧ q.2.natAbs < 2 ^ 120 := by
  obtain ⟨a, b, c, d⟩ := h
  have l : q.2 ≤ (L60 : Int) := Int.le_of_dvd (by decide) c
  have e : (2 : Int) ^ i ≤ 2 ^ 10 := by
    have := Nat.pow_le_pow_right (n := 2) (by decide) hi
    exact_mod_cast this
  have e2 : (1000000 : Int) * 2 ^ i ≤ 1000000 * 2 ^ 10 := by omega
  have e3 : (1000000 : Int) * 2 ^ i * q.2 ≤ 1000000 * 2 ^ 10 * L60 := Int.le_trans (Int.mul_le_mul_of_nonneg_right e2 (by omega)) (Int.mul_le_mul_of_nonneg_left l (by decide))
  have e4 : (1000000 : Int) * 2 ^ 10 * L60 < 2 ^ 120 := by decide
  have e5 : (L60 : Int) < 2 ^ 120 := by decide
  have e6 : ((2 ^ 120 : Nat) : Int) = 2 ^ 120 := by decide
  constructor <;> omega
theorem Ent.minus {i : Nat} {x y : Int × Int} (hx : Ent i x) (hy : Ent i y) : Ent (i + 1) (leanF (x.1 * y.2 - y.1 * x.2) (x.2 * y.2)) := by
  obtain ⟨a1, b1, c1, d1⟩ := hx
  obtain ⟨a2, b2, c2, d2⟩ := hy
  have p : 0 < x.2 * y.2 := Int.mul_pos a1 a2
  generalize hn : x.1 * y.2 - y.1 * x.2 = n
  generalize hd : x.2 * y.2 = d at p
  have g0 := gcd_pos (n := n) p
  have gn : (leanF n d).1 * (Int.gcd n d : Nat) = n := Int.ediv_mul_cancel (Int.gcd_dvd_left n d)
  have gd : (leanF n d).2 * (Int.gcd n d : Nat) = d := Int.ediv_mul_cancel (Int.gcd_dvd_right n d)
  refine ⟨leanF_pos p, leanF_gcd p, ?_, ?_⟩
  · obtain ⟨u, hu⟩ := c1
    obtain ⟨v, hv⟩ := c2
    -- n * L = (x.1 u - y.1 v) d
    have e : n * (L60 : Int) = (x.1 * u - y.1 * v) * d := by
      have e1 : n * (L60 : Int) = x.1 * y.2 * L60 - y.1 * x.2 * L60 := by rw [← hn, Int.sub_mul]
      have e2 : x.1 * y.2 * (L60 : Int) = x.1 * u * (x.2 * y.2) := by rw [hu]; simp only [Int.mul_comm, Int.mul_assoc, Int.mul_left_comm]
      have e3 : y.1 * x.2 * (L60 : Int) = y.1 * v * (x.2 * y.2) := by rw [hv]; simp only [Int.mul_comm, Int.mul_assoc, Int.mul_left_comm]
      rw [e1, e2, e3, hd, ← Int.sub_mul]
    have e' : (leanF n d).1 * (L60 : Int) = (x.1 * u - y.1 * v) * (leanF n d).2 := by
      have q : (leanF n d).1 * (L60 : Int) * (Int.gcd n d : Nat) = (x.1 * u - y.1 * v) * (leanF n d).2 * (Int.gcd n d : Nat) := by
        rw [Int.mul_assoc _ (leanF n d).2, gd, ← e, Int.mul_right_comm, gn]
      exact Int.eq_of_mul_eq_mul_right (by omega) q
    have cop : Int.gcd (leanF n d).2 (leanF n d).1 = 1 := by rw [Int.gcd_comm]; exact leanF_gcd p
    have dv : (leanF n d).2 ∣ (leanF n d).1 * (L60 : Int) := ⟨x.1 * u - y.1 * v, by rw [e', Int.mul_comm]⟩
    have dn : (leanF n d).2.natAbs ∣ (leanF n d).1.natAbs * L60 := by
      have := Int.natAbs_dvd_natAbs.mpr dv
      rwa [Int.natAbs_mul, Int.natAbs_natCast] at this
    have := Nat.Coprime.dvd_of_dvd_mul_left (k := (leanF n d).2.natAbs) cop dn
    exact Int.natAbs_dvd_natAbs.mp (by rwa [Int.natAbs_natCast])
  · have s1 : ((x.1 * y.2).natAbs : Int) ≤ 1000000 * 2 ^ i * d := by
      rw [Int.natAbs_mul]
      push_cast
      have : (y.2.natAbs : Int) = y.2 := by omega
      rw [this, ← hd, ← Int.mul_assoc]
      exact Int.mul_le_mul_of_nonneg_right d1 (by omega)
    have s2 : ((y.1 * x.2).natAbs : Int) ≤ 1000000 * 2 ^ i * d := by
      rw [Int.natAbs_mul]
      push_cast
      have : (x.2.natAbs : Int) = x.2 := by omega
      rw [this, ← hd, Int.mul_comm x.2, ← Int.mul_assoc]
      exact Int.mul_le_mul_of_nonneg_right d2 (by omega)
    have s3 : (n.natAbs : Int) ≤ 1000000 * 2 ^ (i + 1) * d := by
      have t : 1000000 * 2 ^ (i + 1) * d = 1000000 * 2 ^ i * d + 1000000 * 2 ^ i * d := by
        rw [Int.pow_succ]
        have : (1000000 : Int) * (2 ^ i * 2) * d = 2 * (1000000 * 2 ^ i * d) := by simp only [Int.mul_comm, Int.mul_assoc, Int.mul_left_comm]
        omega
      rw [t]
      omega
    have g1 : (n.natAbs : Int) = ((leanF n d).1.natAbs : Int) * (Int.gcd n d : Nat) := by
      have := congrArg Int.natAbs gn
      rw [Int.natAbs_mul, Int.natAbs_natCast] at this
      exact_mod_cast this.symm
    have s4 : ((leanF n d).1.natAbs : Int) * (Int.gcd n d : Nat) ≤ 1000000 * 2 ^ (i + 1) * (leanF n d).2 * (Int.gcd n d : Nat) := by
      rw [← g1, Int.mul_assoc, gd]
      exact s3
    exact Int.le_of_mul_le_mul_right s4 (by omega)
end Gd
namespace Gd
open PySem PySem.Spec PyProof.Rows L2 RZ
open PySem.PyData (canLay0 canLayAll0 depth depthAll)
theorem canAll {α : Type} {f : α → PyData} : ∀ {l : List α}, (∀ a ∈ l, (f a).canLay0 = true) → canLayAll0 (l.map f) = true
  | [], _ => by simp [canLayAll0]
  | a :: l, h => by
    simp only [List.map_cons, canLayAll0, Bool.and_eq_true]
    exact ⟨h a (List.mem_cons_self ..), canAll fun b m => h b (List.mem_cons_of_mem _ m)⟩
theorem depAll {α : Type} {f : α → PyData} {k : Nat} : ∀ {l : List α}, (∀ a ∈ l, (f a).depth ≤ k) → depthAll (l.map f) ≤ k
  | [], _ => by simp [depthAll]
  | a :: l, h => by
    simp only [List.map_cons, depthAll]
    have h1 := h a (List.mem_cons_self ..)
    have h2 := depAll (l := l) fun b m => h b (List.mem_cons_of_mem _ m)
    omega
theorem can_fr (q : Int × Int) : (frD q).canLay0 = true := by simp [frD, canLay0, canLayAll0]
theorem dep_fr (q : Int × Int) : (frD q).depth = 1 := by simp [frD, depth, depthAll]
theorem can_row (qs : List (Int × Int)) : (rowD qs).canLay0 = true := by
  unfold rowD
  simp only [canLay0]
  exact canAll fun a _ => can_fr a
theorem dep_row (qs : List (Int × Int)) : (rowD qs).depth ≤ 2 := by
  unfold rowD
  simp only [depth]
  have := depAll (k := 1) (f := frD) (l := qs) fun a _ => by rw [dep_fr]; omega
  omega
theorem shaped_rows (rows : List (List (Int × Int))) : SeqAt.shaped (.list (rows.map rowD)) = true := by
  unfold SeqAt.shaped
  simp only [canLay0, depth, Bool.and_eq_true, decide_eq_true_eq]
  have := depAll (k := 2) (f := rowD) (l := rows) fun a _ => dep_row a
  exact ⟨canAll fun a _ => can_row a, decide_eq_true (show depthAll (rows.map rowD) + 1 ≤ 64 by omega)⟩
section
variable {K : PySem.W.Frag} {H : Hp}
mutual
theorem Tt.dp : ∀ {v : V} {d : PyData}, Tt K H v d → Dp K H v d
  | _, _, .non => .non
  | _, _, .bl b => .bl b
  | _, _, .int i => .int i
  | _, _, .str x => .str x
  | _, _, .tup h r => .tup h (TtL.dp r)
theorem TtL.dp : ∀ {vs : List V} {ds : List PyData}, TtL K H vs ds → DpAll K H vs ds
  | _, _, .nil => .nil
  | _, _, .cons h r => .cons (Tt.dp h) (TtL.dp r)
end
end
theorem eqv_nil (ds : List PyData) : PyData.eqv (.list ds) (.list []) = decide (ds = []) := by
  cases ds <;> simp [PyData.eqv, PyData.eqvAll]
/-- a drawn trial -/
structure Trl where
  rows : List (List (Int × Int))
  spreads : List (Int × Int)
  blocks : List Int
def Trl.d (t : Trl) : PyData := .tuple [.tuple (t.rows.map rowD), rowD t.spreads, .tuple (t.blocks.map .int)]
def SprOk (q : Int × Int) : Prop := q ∈ [((1, 1) : Int × Int), (2, 1), (1, 2), (1, 3), (5, 2)]
structure Trl.Ok (t : Trl) (most : Nat) : Prop where
  n1 : 1 ≤ t.rows.length
  n2 : t.rows.length ≤ most
  wide : ∃ k, 1 ≤ k ∧ k ≤ 5 ∧ ∀ r ∈ t.rows, r.length = k
  ent : ∀ r ∈ t.rows, ∀ q ∈ r, Ent 10 q
  spl : t.spreads.length = t.rows.length
  spr : ∀ q ∈ t.spreads, SprOk q
  bl : t.blocks = [] ∨ (t.blocks.length = t.rows.length ∧ ∀ b ∈ t.blocks, 0 ≤ b ∧ b ≤ 4)
def spTrial (K : PySem.W.Frag) : Sp := fun vs H Q _ => ∃ (w : Addr) (most : Nat), vs = [.ref w, .int most] ∧ 1 ≤ most ∧ most ≤ 10 ∧ Wl H w ∧ ∀ t : Trl, t.Ok most → ∀ H' v, Kp w H H' → Wl H' w → Tt K H' v t.d → Q v H'
/-! ### a comprehension over zip of two tuples -/
theorem c_zipT {K : PySem.W.Frag} {a b : Addr} {xs ys : List V} {g : TG} {tt : TT} {te : TE} {vs : List Nat} {σ : L2.St} {H1 : Hp} {D : Addr} {Qd : Hp → Prop} (hl : xs.length = ys.length) (Pv : Nat → Hp → Prop) (h0 : Pv 0 (upd H1 D (.lst []))) (hq : ∀ i H, Pv i H → SqT K H a xs ∧ SqT K H b ys)
    (hs : ∀ i x y T H, xs[i]? = some x → ys[i]? = some y → Pv i H → H T = none → g (.ref T) (wipe σ vs) (upd H T (.tup [x, y])) fun σ2 H2 => wipe σ2 vs = wipe σ vs ∧ tt σ2 H2 fun b H3 =>
      if b = true then te σ2 H3 fun y H4 => ∃ acc, H4 D = some (.lst acc) ∧ acc.length < sizeLine ∧ Pv (i + 1) (upd H4 D (.lst (acc ++ [y]))) else Pv (i + 1) H3) (hd : ∀ H, Pv xs.length H → Qd H) :
    ∃ W : Nat → Nat → Hp → Prop, (∃ m, W 0 m (upd H1 D (.lst []))) ∧ ∀ i m H, W i m H →
      ((ItzT K a b).stop i H ∧ Qd H) ∨ ((ItzT K a b).go i H ∧ ∃ Nx : Hp → Prop, (∀ H', Nx H' → ∃ m', m' < m ∧ W (i + 1) m' H') ∧ ∀ x H', (ItzT K a b).yld i H x H' → g x (wipe σ vs) H' fun σ2 H2 => wipe σ2 vs = wipe σ vs ∧ tt σ2 H2 fun b H3 =>
        if b = true then te σ2 H3 fun y H4 => ∃ acc, H4 D = some (.lst acc) ∧ acc.length < sizeLine ∧ Nx (upd H4 D (.lst (acc ++ [y]))) else Nx H3) := by
  refine ⟨fun i m H => m = xs.length - i ∧ i ≤ xs.length ∧ Pv i H, ⟨xs.length, by simp, Nat.zero_le _, h0⟩, ?_⟩
  rintro i m H ⟨rfl, hi, p⟩
  obtain ⟨qa, qb⟩ := hq i H p
  by_cases hlt : i < xs.length
  · have hx : xs[i]? = some xs[i] := List.getElem?_eq_getElem hlt
    have hy : ys[i]? = some (ys[i]'(by omega)) := List.getElem?_eq_getElem (by omega)
    refine .inr ⟨⟨xs, ys, _, _, qa, qb, hx, hy⟩, Pv (i + 1), fun H' p' => ⟨xs.length - (i + 1), by omega, rfl, hlt, p'⟩, ?_⟩
    rintro _ _ ⟨T, x, y, rfl, hT, rfl, fx, fy⟩
    exact hs i x y T H (fx xs qa) (fy ys qb) p hT
  · exact .inl ⟨⟨xs, ys, qa, qb, .inl (by omega)⟩, hd H ((show i = xs.length by omega) ▸ p)⟩
section
variable {n : L2.St → Hp → Prop} {r : VK} {b c : L2.St → Hp → Prop} {σ : L2.St} {H : Hp} {Q : VK} {K : PySem.W.Frag}
theorem w_lc {wi : TI} {g : TG} {tt : TT} {te : TE} {vs : List Nat} (h : wi σ H fun J H1 => ∀ D, H1 D = none → ∃ W : Nat → Nat → Hp → Prop, (∃ m, W 0 m (upd H1 D (.lst []))) ∧ ∀ i m H, W i m H →
      (J.stop i H ∧ Q (.ref D) H) ∨ (J.go i H ∧ ∃ Nx : Hp → Prop, (∀ H', Nx H' → ∃ m', m' < m ∧ W (i + 1) m' H') ∧ ∀ x H', J.yld i H x H' → g x (wipe σ vs) H' fun σ2 H2 => wipe σ2 vs = wipe σ vs ∧ tt σ2 H2 fun b H3 =>
        if b = true then te σ2 H3 fun y H4 => ∃ acc, H4 D = some (.lst acc) ∧ acc.length < sizeLine ∧ Nx (upd H4 D (.lst (acc ++ [y]))) else Nx H3)) : tLc wi g tt te vs σ H Q := h
theorem w_iz {tz : TA} {R : It → Hp → Prop} (h : tz σ H fun vs H1 => ∃ a b xs ys, vs = [.ref a, .ref b] ∧ ((SqL K H1 a xs ∧ SqL K H1 b ys ∧ R (Itz K a b) H1) ∨ (SqT K H1 a xs ∧ SqT K H1 b ys ∧ R (ItzT K a b) H1))) : iZipA K tz σ H R := h
theorem w_yes {R : Bool → Hp → Prop} (h : R true H) : tYes σ H R := h
end
end Gd

namespace Gd
open PySem PySem.Spec PyProof.Rows L2 RZ
theorem w_cut {n : L2.St → Hp → Prop} {r : VK} {b c : L2.St → Hp → Prop} {σ : L2.St} {H : Hp} {t u : TS} (Mid : L2.St → Hp → Prop) (h1 : t ⟨Mid, r, b, c⟩ σ H) (h2 : ∀ σ' H', Mid σ' H' → u ⟨n, r, b, c⟩ σ' H') : C8.tCut t u ⟨n, r, b, c⟩ σ H := ⟨Mid, h1, h2⟩
/-- what stands while a trial is drawn: three lists beside the well -/
structure TI (K : PySem.W.Frag) (w l1 l2 l3 : Addr) (H : Hp) (few i : Nat) (rows : List (List (Int × Int))) (sprs : List (Int × Int)) (blks : List Int) (xr xs : List V) (H' : Hp) : Prop where
  a1 : rows.length = i
  a2 : sprs.length = i
  a3 : blks.length = i
  a4 : ∀ r ∈ rows, r.length = few ∧ ∀ q ∈ r, Ent i q
  a5 : ∀ s ∈ sprs, SprOk s
  a6 : ∀ b ∈ blks, 0 ≤ b ∧ b ≤ 4
  h1 : H' l1 = some (.lst xr)
  t1 : TtL K H' xr (rows.map rowD)
  h2 : H' l2 = some (.lst xs)
  t2 : TtL K H' xs (sprs.map frD)
  h3 : H' l3 = some (.lst (blks.map V.int))
  n1 : w ≠ l1
  n2 : w ≠ l2
  n3 : w ≠ l3
  n12 : l1 ≠ l2
  n13 : l1 ≠ l3
  n23 : l2 ≠ l3
  z1 : H l1 = none
  z2 : H l2 = none
  z3 : H l3 = none
  kp : Kp w H H'
  wl : Wl H' w
section
variable {K : PySem.W.Frag} {w l1 l2 l3 : Addr} {H H' H2 : Hp} {few i : Nat} {rows : List (List (Int × Int))} {sprs : List (Int × Int)} {blks : List Int} {xr xs : List V}
theorem TI.dr (T : TI K w l1 l2 l3 H few i rows sprs blks xr xs H') (k : Kp w H' H2) (wl : Wl H2 w) : TI K w l1 l2 l3 H few i rows sprs blks xr xs H2 :=
  { T with h1 := k _ _ T.n1.symm T.h1, t1 := TtL.tk (TK.kp T.wl k) T.t1, h2 := k _ _ T.n2.symm T.h2, t2 := TtL.tk (TK.kp T.wl k) T.t2, h3 := k _ _ T.n3.symm T.h3, kp := T.kp.trans k, wl := wl }
theorem TI.new (T : TI K w l1 l2 l3 H few i rows sprs blks xr xs H') {p : Addr} {o : HO} (n : H' p = none) : TI K w l1 l2 l3 H few i rows sprs blks xr xs (upd H' p o) := T.dr (Kp.new n) (T.wl.same (same_new n))
/-- a list of its own is written: the rest stands -/
theorem kp_own {o : HO} {l : Addr} (k : Kp w H H') (z : H l = none) : Kp w H (upd H' l o) := fun b u n e => by
  rw [upd_ne (ne_of_none e z)]
  exact k _ _ n e
theorem wl_own {o : HO} {l : Addr} (wl : Wl H' w) (n : w ≠ l) : Wl (upd H' l o) w := by
  obtain ⟨a, m, k, e, r⟩ := wl
  exact ⟨a, m, k, by rw [upd_ne n]; exact e, r⟩
/-- a turn's three items are put behind -/
theorem TI.step (T : TI K w l1 l2 l3 H few i rows sprs blks xr xs H') {r : List (Int × Int)} {s : Int × Int} {b : Int} {vr vs : V} {H3 H5 : Hp} (hr : Tt K H' vr (rowD r)) (lr : r.length = few) (er : ∀ q ∈ r, Ent (i + 1) q)
    (k3 : Kp w (upd H' l1 (.lst (xr ++ [vr]))) H3) (w3 : Wl H3 w) (hs : Tt K H3 vs (frD s)) (os : SprOk s) (k5 : Kp w (upd H3 l2 (.lst (xs ++ [vs]))) H5) (w5 : Wl H5 w) (hb : 0 ≤ b ∧ b ≤ 4) :
    TI K w l1 l2 l3 H few (i + 1) (rows ++ [r]) (sprs ++ [s]) (blks ++ [b]) (xr ++ [vr]) (xs ++ [vs]) (upd H5 l3 (.lst ((blks ++ [b]).map V.int))) := by
  have p1 := TK.put (o := .lst (xr ++ [vr])) T.h1
  have w1 : Wl (upd H' l1 (.lst (xr ++ [vr]))) w := wl_own T.wl T.n1
  have q3 := TK.kp w1 k3
  have e2 : H3 l2 = some (.lst xs) := k3 _ _ T.n2.symm (by rw [upd_ne T.n12.symm]; exact T.h2)
  have p4 := TK.put (o := .lst (xs ++ [vs])) e2
  have w4 : Wl (upd H3 l2 (.lst (xs ++ [vs]))) w := wl_own w3 T.n2
  have q5 := TK.kp w4 k5
  have e3 : H5 l3 = some (.lst (blks.map V.int)) := k5 _ _ T.n3.symm (by
    rw [upd_ne T.n23.symm]
    exact k3 _ _ T.n3.symm (by rw [upd_ne T.n13.symm]; exact T.h3))
  have p6 := TK.put (o := .lst ((blks ++ [b]).map V.int)) e3
  have all : TK H' (upd H5 l3 (.lst ((blks ++ [b]).map V.int))) := (((p1.trans q3).trans p4).trans q5).trans p6
  have tail : TK H3 (upd H5 l3 (.lst ((blks ++ [b]).map V.int))) := (p4.trans q5).trans p6
  refine { T with a1 := by rw [List.length_append, T.a1]; rfl, a2 := by rw [List.length_append, T.a2]; rfl, a3 := by rw [List.length_append, T.a3]; rfl, a4 := fun x hx => ?_, a5 := fun x hx => ?_, a6 := fun x hx => ?_, h1 := ?_, t1 := ?_, h2 := ?_, t2 := ?_, h3 := upd_same, kp := ?_, wl := wl_own w5 T.n3 }
  · rcases List.mem_append.mp hx with h | h
    · exact ⟨(T.a4 x h).1, fun q hq => ((T.a4 x h).2 q hq).up (Nat.le_succ _)⟩
    · rw [List.mem_singleton.mp h]
      exact ⟨lr, er⟩
  · rcases List.mem_append.mp hx with h | h
    · exact T.a5 x h
    · rw [List.mem_singleton.mp h]
      exact os
  · rcases List.mem_append.mp hx with h | h
    · exact T.a6 x h
    · rw [List.mem_singleton.mp h]
      exact hb
  · rw [upd_ne T.n13]
    refine k5 _ _ T.n1.symm ?_
    rw [upd_ne T.n12]
    exact k3 _ _ T.n1.symm upd_same
  · rw [show (rows ++ [r]).map rowD = rows.map rowD ++ [rowD r] from List.map_append]
    exact (TtL.tk all T.t1).append (.one (hr.tk all))
  · rw [upd_ne T.n23]
    exact k5 _ _ T.n2.symm upd_same
  · rw [show (sprs ++ [s]).map frD = sprs.map frD ++ [frD s] from List.map_append]
    exact (TtL.tk all T.t2).append (.one (hs.tk tail))
  · refine kp_own (fun c o n e => k5 _ _ n ?_) T.z3
    rw [upd_ne (ne_of_none e T.z2)]
    refine k3 _ _ n ?_
    rw [upd_ne (ne_of_none e T.z1)]
    exact T.kp _ _ n e
end
end Gd

namespace Gd
open PySem PySem.Spec PyProof.Rows L2 RZ
theorem TtL.nth {K : PySem.W.Frag} {H : Hp} {α : Type} {f : α → PyData} {vs : List V} {l : List α} (h : TtL K H vs (l.map f)) {i : Nat} {v : V} (e : vs[i]? = some v) : ∃ a, l[i]? = some a ∧ Tt K H v (f a) := by
  obtain ⟨d, h1, h2⟩ := h.get e
  rw [List.getElem?_map] at h1
  cases q : l[i]? with
  | none => rw [q] at h1; cases h1
  | some a => rw [q] at h1; cases h1; exact ⟨a, rfl, h2⟩
theorem TtL.memf {K : PySem.W.Frag} {H : Hp} {α : Type} {f : α → PyData} {vs : List V} {l : List α} (h : TtL K H vs (l.map f)) {v : V} (e : v ∈ vs) : ∃ a ∈ l, Tt K H v (f a) := by
  obtain ⟨i, hi⟩ := List.mem_iff_getElem?.mp e
  obtain ⟨a, h1, h2⟩ := h.nth hi
  exact ⟨a, List.mem_of_getElem? h1, h2⟩
theorem TtL.len {K : PySem.W.Frag} {H : Hp} {α : Type} {f : α → PyData} {vs : List V} {l : List α} (h : TtL K H vs (l.map f)) : vs.length = l.length := by
  rw [h.length, List.length_map]
theorem TtL.ints {K : PySem.W.Frag} {H : Hp} : ∀ l : List Int, TtL K H (l.map V.int) (l.map PyData.int)
  | [] => .nil
  | i :: l => .cons (.int i) (TtL.ints l)
end Gd

set_option Elab.async false
set_option linter.all false
set_option maxRecDepth 100000
set_option maxHeartbeats 4000000
set_option autoImplicit false
namespace K1
open PySem PySem.Spec PyProof.Rows L2 RZ Gd
def top (i : Nat) : Stmt := PySem.Challenge.pw_trialground_k01_errors_each_of_its_own.main.body.getD i (.Pass ⟨0, 0, 0, 0⟩)
structure Txt (mg : Str → Option Value) : Prop where
  n_int : mg "int" = none
  n_len : mg "len" = none
  n_abs : mg "abs" = none
  n_divmod : mg "divmod" = none
  n_range : mg "range" = none
  n_tuple : mg "tuple" = none
  n_list : mg "list" = none
  n_zip : mg "zip" = none
  n_enumerate : mg "enumerate" = none
  n_repr : mg "repr" = none
  n_isinstance : mg "isinstance" = none
  n_all : mg "all" = none
  n_any : mg "any" = none
  n_max : mg "max" = none
  n_min : mg "min" = none
  n_bool : mg "bool" = none
  n_ValueError : mg "ValueError" = none
  n_TypeError : mg "TypeError" = none
  n_KeyError : mg "KeyError" = none
  n_IndexError : mg "IndexError" = none
  n_ZeroDivisionError : mg "ZeroDivisionError" = none
  n_RuntimeError : mg "RuntimeError" = none
abbrev s__law_well : Stmt := top 24
def N__law_well : List Str := ["_law_script", "_law_lap", "_law_mixed", "_law_cell", "_law_own"]
def P__law_well : List Str := ["_law_script", "_law_lap"]
theorem sc__law_well : FnScope N__law_well P__law_well (defScope s__law_well) := ⟨rfl, rfl, rfl, by decide +kernel, rfl, by decide +kernel, by decide +kernel⟩
abbrev s__law_draw : Stmt := top 25
def N__law_draw : List Str := ["_law_well_here", "_law_few", "_law_figure", "_law_mixed"]
def P__law_draw : List Str := ["_law_well_here", "_law_few"]
theorem sc__law_draw : FnScope N__law_draw P__law_draw (defScope s__law_draw) := ⟨rfl, rfl, rfl, by decide +kernel, rfl, by decide +kernel, by decide +kernel⟩
abbrev s__law_one : Stmt := top 26
def N__law_one : List Str := ["_law_well_here", "_law_some"]
def P__law_one : List Str := ["_law_well_here", "_law_some"]
theorem sc__law_one : FnScope N__law_one P__law_one (defScope s__law_one) := ⟨rfl, rfl, rfl, by decide +kernel, rfl, by decide +kernel, by decide +kernel⟩
abbrev s__law_lean : Stmt := top 27
def N__law_lean : List Str := ["_law_top", "_law_base", "_law_far", "_law_rest"]
def P__law_lean : List Str := ["_law_top", "_law_base"]
theorem sc__law_lean : FnScope N__law_lean P__law_lean (defScope s__law_lean) := ⟨rfl, rfl, rfl, by decide +kernel, rfl, by decide +kernel, by decide +kernel⟩
abbrev s__law_minus : Stmt := top 28
def N__law_minus : List Str := ["_law_x", "_law_y"]
def P__law_minus : List Str := ["_law_x", "_law_y"]
theorem sc__law_minus : FnScope N__law_minus P__law_minus (defScope s__law_minus) := ⟨rfl, rfl, rfl, by decide +kernel, rfl, by decide +kernel, by decide +kernel⟩
abbrev s__law_odd : Stmt := top 29
def N__law_odd : List Str := ["_law_well_here", "_law_some", "_law_more"]
def P__law_odd : List Str := ["_law_well_here"]
theorem sc__law_odd : FnScope N__law_odd P__law_odd (defScope s__law_odd) := ⟨rfl, rfl, rfl, by decide +kernel, rfl, by decide +kernel, by decide +kernel⟩
abbrev s__law_number : Stmt := top 30
def N__law_number : List Str := ["_law_well_here", "_law_way"]
def P__law_number : List Str := ["_law_well_here"]
theorem sc__law_number : FnScope N__law_number P__law_number (defScope s__law_number) := ⟨rfl, rfl, rfl, by decide +kernel, rfl, by decide +kernel, by decide +kernel⟩
abbrev s__law_numbers : Stmt := top 31
def N__law_numbers : List Str := ["_law_well_here", "_law_few", "_law_found", "_law_turn"]
def P__law_numbers : List Str := ["_law_well_here", "_law_few"]
theorem sc__law_numbers : FnScope N__law_numbers P__law_numbers (defScope s__law_numbers) := ⟨rfl, rfl, rfl, by decide +kernel, rfl, by decide +kernel, by decide +kernel⟩
abbrev s__law_trial : Stmt := top 32
def N__law_trial : List Str := ["_law_well_here", "_law_most", "_law_few", "_law_rows", "_law_spreads", "_law_blocks", "_law_many", "_law_kinds", "_law_turn", "_law_row", "_law_one_here", "_law_two", "_law_x", "_law_y"]
def P__law_trial : List Str := ["_law_well_here", "_law_most"]
theorem sc__law_trial : FnScope N__law_trial P__law_trial (defScope s__law_trial) := ⟨rfl, rfl, rfl, by decide +kernel, rfl, by decide +kernel, by decide +kernel⟩
abbrev s__law_first_ones : Stmt := top 33
def N__law_first_ones : List Str := ["_law_value", "_law_one_here", "_law_two"]
def P__law_first_ones : List Str := ["_law_value"]
theorem sc__law_first_ones : FnScope N__law_first_ones P__law_first_ones (defScope s__law_first_ones) := ⟨rfl, rfl, rfl, by decide +kernel, rfl, by decide +kernel, by decide +kernel⟩
abbrev s__law_second_ones : Stmt := top 34
def N__law_second_ones : List Str := ["_law_value", "_law_one_here", "_law_two"]
def P__law_second_ones : List Str := ["_law_value"]
theorem sc__law_second_ones : FnScope N__law_second_ones P__law_second_ones (defScope s__law_second_ones) := ⟨rfl, rfl, rfl, by decide +kernel, rfl, by decide +kernel, by decide +kernel⟩
abbrev s__law_sorts : Stmt := top 35
def N__law_sorts : List Str := ["_law_e", "_law_some", "_law_at", "_law_is_one"]
def P__law_sorts : List Str := ["_law_e"]
theorem sc__law_sorts : FnScope N__law_sorts P__law_sorts (defScope s__law_sorts) := ⟨rfl, rfl, rfl, by decide +kernel, rfl, by decide +kernel, by decide +kernel⟩
abbrev s__law_is_alone : Stmt := top 36
def N__law_is_alone : List Str := ["_law_e", "_law_at"]
def P__law_is_alone : List Str := ["_law_e", "_law_at"]
theorem sc__law_is_alone : FnScope N__law_is_alone P__law_is_alone (defScope s__law_is_alone) := ⟨rfl, rfl, rfl, by decide +kernel, rfl, by decide +kernel, by decide +kernel⟩
abbrev s__law_is_kept : Stmt := top 37
def N__law_is_kept : List Str := ["_law_value", "_law_some", "_law_one_here", "_law_two", "_law_e", "_law_at"]
def P__law_is_kept : List Str := ["_law_value"]
theorem sc__law_is_kept : FnScope N__law_is_kept P__law_is_kept (defScope s__law_is_kept) := ⟨rfl, rfl, rfl, by decide +kernel, rfl, by decide +kernel, by decide +kernel⟩
abbrev s__law_right : Stmt := top 38
def N__law_right : List Str := ["_law_well_here", "_law_turn"]
def P__law_right : List Str := ["_law_well_here"]
theorem sc__law_right : FnScope N__law_right P__law_right (defScope s__law_right) := ⟨rfl, rfl, rfl, by decide +kernel, rfl, by decide +kernel, by decide +kernel⟩
abbrev s_law : Stmt := top 39
def N_law : List Str := ["_law_script", "_law_lap"]
def P_law : List Str := ["_law_script"]
theorem sc_law : FnScope N_law P_law (defScope s_law) := ⟨rfl, rfl, rfl, by decide +kernel, rfl, by decide +kernel, by decide +kernel⟩
end K1

set_option Elab.async false
set_option linter.all false
set_option maxRecDepth 100000
set_option maxHeartbeats 4000000
set_option autoImplicit false
namespace K1
open PySem PySem.Spec PyProof.Rows L2 RZ Gd
local macro_rules | `(tactic| wtm_at "ix") => `(tactic| first | exact at_0 | exact at_1 | exact at_2 | exact at_3 | exact at_4 | exact at_5 | exact ix_0 | exact ix_1 | exact ix_2 | exact ix_3)
local macro_rules | `(tactic| wtm_at "st") => `(tactic| first | assumption | exact upd_same | (with_reducible refine' hold_new ?hA ?hB; (case hB => assumption); (case hA => wtm_at "st")))
local macro_rules | `(tactic| wtm_at "rl") => `(tactic| first | assumption | (refine' SqL.of ?hC; (case hC => wtm_at "st")) | (refine' SqT.of ?hC; (case hC => wtm_at "st")))
local macro_rules | `(tactic| wtm_at "rd") => `(tactic| first
  | with_reducible refine w_seq ?_
  | with_reducible refine w_asg ?_
  | with_reducible refine w_ret ?_
  | with_reducible refine w_op ?_
  | with_reducible refine w_cb ?_
  | with_reducible refine w_cons ?_
  | with_reducible refine w_nil ?_
  | with_reducible refine w_c ?_
  | with_reducible refine w_if ?_
  | with_reducible refine w_test ?_
  | with_reducible refine w_un ?_
  | with_reducible refine w_tup ?_
  | with_reducible refine w_lst ?_
  | with_reducible refine w_call ?_
  | with_reducible refine w_and ?_
  | with_reducible refine w_or ?_
  | with_reducible refine w_not ?_
  | with_reducible refine w_ife ?_
  | with_reducible refine w_tB ?_
  | with_reducible refine w_andV ?_
  | with_reducible refine w_orV ?_
  | with_reducible refine w_notV ?_
  | with_reducible refine w_sub ?_
  | with_reducible refine w_gcons ?_
  | with_reducible refine w_gnil ?_
  | with_reducible refine w_next ?_
  | with_reducible refine w_drop ?_
  | with_reducible refine w_retN ?_
  | with_reducible refine w_brk ?_
  | with_reducible refine w_cont ?_
  | with_reducible refine w_bl ?_
  | with_reducible refine w_gt ?_
  | with_reducible refine w_ge ?_
  | with_reducible refine w_lt ?_
  | with_reducible refine w_le ?_
  | with_reducible refine w_subI ?_
  | with_reducible refine w_neg ?_
  | with_reducible refine w_addI ?_
  | with_reducible refine w_int ?_
  | with_reducible refine w_intB ?_
  | with_reducible refine w_abs ?_
  | with_reducible refine w_iteT ?_
  | with_reducible refine w_iteF ?_
  | with_reducible refine w_par ?_
  | with_reducible refine w_par3 ?_
  | with_reducible refine w_sl ?_
  | with_reducible refine w_nop ?_
  | with_reducible refine w_part ?_
  | with_reducible refine w_vint ?_
  | with_reducible refine w_vbl2 ?_
  | with_reducible refine w_vbl3 ?_
  | with_reducible refine w_lc ?_
  | with_reducible refine w_yes ?_
  | with_reducible refine w_iz ?_
  | with_reducible refine w_var0 ?_
  | with_reducible refine w_var1 ?_
  | with_reducible refine w_var2 ?_
  | with_reducible refine w_var3 ?_
  | with_reducible refine w_var4 ?_
  | with_reducible refine w_var5 ?_
  | with_reducible refine w_var6 ?_
  | with_reducible refine w_var7 ?_
  | with_reducible refine w_var8 ?_
  | with_reducible refine w_var9 ?_
  | with_reducible refine w_var10 ?_
  | with_reducible refine w_var11 ?_
  | with_reducible refine w_var12 ?_
  | with_reducible refine w_var13 ?_
  | with_reducible refine w_var14 ?_
  | with_reducible refine w_var15 ?_
  | with_reducible refine w_nam0 ?_
  | with_reducible refine w_nam1 ?_
  | with_reducible refine w_nam2 ?_
  | with_reducible refine w_nam3 ?_
  | with_reducible refine w_nam4 ?_
  | with_reducible refine w_nam5 ?_
  | with_reducible refine w_nam6 ?_
  | with_reducible refine w_nam7 ?_
  | with_reducible refine w_nam8 ?_
  | with_reducible refine w_nam9 ?_
  | with_reducible refine w_nam10 ?_
  | with_reducible refine w_nam11 ?_
  | with_reducible refine w_nam12 ?_
  | with_reducible refine w_nam13 ?_
  | with_reducible refine w_nam14 ?_
  | with_reducible refine w_nam15 ?_
  | (with_reducible refine' w_eqS ?hs ?_; (case hs => with_unfolding_all rfl))
  | (with_reducible refine' w_neS ?hs ?_; (case hs => with_unfolding_all rfl))
  | (with_reducible refine' w_len ?hs ?_; (case hs => (simp only [List.length_cons, List.length_nil]; omega)))
  | (with_reducible refine' w_slL ?hs ?_; (case hs => wtm_at "rl"))
  | (with_reducible refine' w_mulI ?hs ?_; (case hs => (first | (refine cmul_r ?_; (constructor <;> omega)) | (refine cmul_l ?_; (constructor <;> omega)) | assumption)))
  | (with_reducible refine' w_mod ?hs ?_; (case hs => (first | omega | assumption)))
  | (with_reducible refine' w_div ?hs ?_; (case hs => (first | assumption | (refine cdiv_s ?_ ?_ <;> omega))))
  | (with_reducible refine' w_ixL ?hs ?ht ?_; (case hs => wtm_at "rl"); (case ht => wtm_at "ix"))
  | (with_reducible refine' w_ixT ?hs ?ht ?_; (case hs => wtm_at "rl"); (case ht => wtm_at "ix"))
  | (with_reducible refine' w_set0 ?hs ?_; (case hs => wtm_at "st"))
  | (with_reducible refine' w_set1 ?hs ?_; (case hs => wtm_at "st"))
  | (with_reducible refine' w_set2 ?hs ?_; (case hs => wtm_at "st"))
  | (with_reducible refine' w_lenL ?hs ?_; (case hs => wtm_at "rl"))
  | (with_reducible refine' w_lenT ?hs ?_; (case hs => wtm_at "rl"))
  | (with_reducible refine' w_gtup ?hs ?ht ?_; (case hs => wtm_at "rl"); (case ht => with_unfolding_all rfl))
  | rw [List.set_cons_zero]
  | rw [List.set_cons_succ])
local macro_rules | `(tactic| wtm_at "go") => `(tactic| repeat wtm_at "rd")
section
variable {P : Program} {w : World} {K : PySem.W.Frag} {mg : Str → Option Value} {base : Heap}
theorem cal__law_draw (T : Txt mg) (D : Def1 K mg "_law_draw" s__law_draw)   : Cal P w K mg base "_law_draw" 1 P__law_draw spDraw := by
  have nd := sc__law_draw.nd
  refine D.cal (k := 1-1) sc__law_draw (fun vs H Q E h => ?_) (fun _ _ _ _ _ _ us hl => match us, hl with | [_, _], _ => rfl) fun f cdv A outer s H vs Q E hG hr h => have hu := hr.units; ⟨_, (pss_cons (ps_if (pt_cmpR op_gtA (pe_ix (k_ix (K := K) rfl) (pv 0) pe_int (fun _ _ => rfl)) pe_int (nomark _)) (pss_cons (ps_asg (pe_callB call_dvmA rfl T.n_divmod (by decide +kernel) (pa_cons (pe_ix (k_ix (K := K) rfl) (pv 0) pe_int (fun _ _ => rfl)) (pa_cons (pv 1) pa_nil))) (k_gtup (K := K) (n := 2) rfl rfl (pgs_cons (pg_sub (pv 0) pe_int set_list) (pgs_cons (pg_name (i := 2) nd rfl (Or.inl rfl)) pgs_nil)))) (pss_one (ps_ret (pv 2)))) pss_nil) (pss_cons (ps_asg (pe_op (k_add (K := K) rfl) (pe_ix (k_ix (K := K) rfl) (pv 0) pe_int (fun _ _ => rfl)) pe_int) (pg_sub (pv 0) pe_int set_list)) (pss_cons (ps_set (i := 3) nd rfl (Or.inl rfl) (pe_op op_mod (pe_callTy call_intA rfl T.n_int (by decide +kernel) (pa_cons (pe_op (k_add (K := K) rfl) (pe_op (k_mul (K := K) rfl) (pe_ix (k_ix (K := K) rfl) (pv 0) pe_int (fun _ _ => rfl)) pe_int) (pe_op (k_mul (K := K) rfl) pe_int (pe_ix (k_ix (K := K) rfl) (pv 0) pe_int (fun _ _ => rfl)))) pa_nil)) pe_int)) (pss_cons (ps_asg (pe_op op_mod (pe_callTy call_intA rfl T.n_int (by decide +kernel) (pa_cons (pe_op (k_add (K := K) rfl) (pe_op (k_mul (K := K) rfl) (pv 3) (pe_op (k_add (K := K) rfl) (pe_op op_mod (pe_callTy call_intA rfl T.n_int (by decide +kernel) (pa_cons (pv 3) pa_nil)) pe_int) pe_int)) (pe_ix (k_ix (K := K) rfl) (pv 0) pe_int (fun _ _ => rfl))) pa_nil)) pe_int) (pg_sub (pv 0) pe_int set_list)) (pss_one (ps_ret (pe_op op_mod (pe_callTy call_intA rfl T.n_int (by decide +kernel) (pa_cons (pe_op op_fdivW (pe_ix (k_ix (K := K) rfl) (pv 0) pe_int (fun _ _ => rfl)) pe_int) pa_nil)) (pv 1)))))))), ?_⟩
  · obtain ⟨w, few, rfl, _⟩ := h; rfl
  obtain ⟨w, few, rfl, h1, h2, ⟨a, m, n, hw, h3, h4, h5⟩, hQ⟩ := h
  rw [show L2.start N__law_draw [V.ref w, V.int few] = [some (V.ref w), some (V.int few), none, none] from rfl]
  wtm_at "go"
  refine w_ite (fun c => ?_) (fun c => ?_)
  · wtm_at "go"
    refine w_dvm (cdvm_s h1 (by omega)) fun p hp => ?_
    wtm_at "go"
    refine hQ (a % few) (Int.emod_nonneg _ (by omega)) (Int.emod_lt_of_pos _ h1) _ ((Kp.new hp).trans Kp.put) ⟨_, _, _, upd_same, Int.ediv_nonneg h3 (by omega), h4, h5⟩
  wtm_at "go"
  refine hQ _ (Int.emod_nonneg _ (by omega)) (Int.emod_lt_of_pos _ h1) _ (Kp.put.trans Kp.put) ⟨_, _, _, upd_same, h3, Int.emod_nonneg _ (by omega), Int.emod_lt_of_pos _ (by omega)⟩
theorem cal__law_well (T : Txt mg) (D : Def1 K mg "_law_well" s__law_well)   : Cal P w K mg base "_law_well" 1 P__law_well (spWell K) := by
  have nd := sc__law_well.nd
  refine D.cal (k := 1-1) sc__law_well (fun vs H Q E h => ?_) (fun _ _ _ _ _ _ us hl => match us, hl with | [_, _], _ => rfl) fun f cdv A outer s H vs Q E hG hr h => have hu := hr.units; ⟨_, (pss_cons (ps_set (i := 2) nd rfl (Or.inl rfl) (pe_op (k_add (K := K) rfl) pe_int (pe_op (k_mul (K := K) rfl) pe_int (pv 1)))) (pss_cons (ps_for PassesOwn.never rfl (k_list (K := K) rfl (pe_slice (k_sl (K := K) rfl) (pv 0) po_none (po_some pe_int))) (pg_name (i := 3) nd rfl (Or.inl rfl)) (pss_one (ps_set (i := 2) nd rfl (Or.inl rfl) (pe_op op_mod (pe_callTy call_intA rfl T.n_int (by decide +kernel) (pa_cons (pe_op (k_add (K := K) rfl) (pe_op (k_add (K := K) rfl) (pe_op (k_mul (K := K) rfl) (pv 2) pe_int) (pe_op (k_mul (K := K) rfl) (pe_op op_mod (pe_callTy call_intA rfl T.n_int (by decide +kernel) (pa_cons (pv 3) pa_nil)) pe_int) pe_int)) pe_int) pa_nil)) pe_int)))) (pss_cons (ps_set (i := 4) nd rfl (Or.inl rfl) (pe_ifExp (pt_cmpR op_ltA (pv 1) (pe_callB (k_len (K := K) rfl) rfl T.n_len (by decide +kernel) (pa_cons (pv 0) pa_nil)) (nomark _)) (pe_callTy call_intA rfl T.n_int (by decide +kernel) (pa_cons (pe_ix (k_ix (K := K) rfl) (pv 0) (pv 1) (fun _ _ => rfl)) pa_nil)) pe_int)) (pss_cons (ps_set (i := 2) nd rfl (Or.inl rfl) (pe_op op_mod (pe_callTy call_intA rfl T.n_int (by decide +kernel) (pa_cons (pe_op (k_add (K := K) rfl) (pe_op (k_add (K := K) rfl) (pe_op (k_mul (K := K) rfl) (pv 2) pe_int) (pe_op (k_mul (K := K) rfl) (pe_op op_mod (pe_callTy call_intA rfl T.n_int (by decide +kernel) (pa_cons (pv 4) pa_nil)) pe_int) pe_int)) pe_int) pa_nil)) pe_int)) (pss_one (ps_ret (pe_lst (pa_cons (pe_ifExp (PW.pt (pw_or (pt_cmpR op_ltA (pv 4) pe_int (nomark _)) (pw_or1 (pt_cmpR op_geA (pv 4) (pe_op op_pow pe_int pe_int) (nomark _))))) (pe_callB call_absA rfl T.n_abs (by decide +kernel) (pa_cons (pv 4) pa_nil)) pe_int) (pa_cons (pv 2) (pa_cons pe_int pa_nil)))))))))), ?_⟩
  · obtain ⟨a, ns, lap, rfl, _⟩ := h; rfl
  obtain ⟨a, ns, lap, rfl, hs, h1, h2, hQ⟩ := h
  rw [show L2.start N__law_well [V.ref a, V.int lap] = [some (V.ref a), some (V.int lap), none, none, none] from rfl]
  wtm_at "go"
  refine w_forL ?_
  wtm_at "go"
  intro l hl
  refine ⟨_, rfl, ⟨_, SqL.of upd_same⟩, f_list (K := K) (xs := cutV (ns.map V.int) none (some 10)) (fun i σ H' => ∃ (m : Int) (v : Option V), σ = [some (.ref a), some (.int lap), some (.int m), v, none] ∧ Same (upd H l (.lst (cutV (ns.map V.int) none (some 10)))) H') ⟨_, _, rfl, Same.refl _⟩ ?_ ?_ ?_⟩
  · rintro i σ H' _ ⟨m, v, rfl, sm⟩
    exact SqL.of (sm _ _ upd_same)
  · rintro i x σ H' hx ⟨m, v, rfl, sm⟩
    obtain ⟨z, rfl⟩ := cut_int hx
    wtm_at "go"
    exact ⟨_, _, rfl, sm⟩
  · rintro σ H' ⟨m, v, rfl, sm⟩
    have sm2 : Same H H' := (same_new hl).trans sm
    have hs2 := sm2.seq hs
    wtm_at "go"
    have done : ∀ (z y : Int), 0 ≤ z → 0 ≤ y → y < 2147483489 → ∀ p, H' p = none → Q (V.ref p) (upd H' p (.lst [.int z, .int y, .int 0])) := fun z y h3 h4 h5 p hp =>
      hQ p _ (sm2.free hp) (sm2.trans (same_new hp)) ⟨_, _, _, upd_same, h3, h4, h5⟩
    refine w_ite (fun c => ?_) (fun c => ?_)
    · wtm_at "go"
      rw [List.length_map] at c
      have e : atI (ns.map V.int) lap = some (V.int (ns[lap.toNat]'(by omega))) := by
        have q := at_of (xs := ns.map V.int) (k := lap.toNat) (v := V.int (ns[lap.toNat]'(by omega))) (by rw [List.getElem?_map, List.getElem?_eq_getElem (by omega)]; rfl)
        rwa [Int.toNat_of_nonneg h1] at q
      refine w_ixL hs2 e ?_
      generalize ns[lap.toNat]'(by omega) = own
      wtm_at "go"
      refine w_ite (fun c => ?_) (fun c => ?_)
      · wtm_at "go"
        exact done _ _ (by split <;> omega) (Int.emod_nonneg _ (by omega)) (Int.emod_lt_of_pos _ (by omega))
      · wtm_at "go"
        refine w_pow ⟨by decide, by decide, by decide⟩ ?_
        wtm_at "go"
        refine w_ite (fun c => ?_) (fun c => ?_)
        · wtm_at "go"
          exact done _ _ (by split <;> omega) (Int.emod_nonneg _ (by omega)) (Int.emod_lt_of_pos _ (by omega))
        · wtm_at "go"
          exact done _ _ (by omega) (Int.emod_nonneg _ (by omega)) (Int.emod_lt_of_pos _ (by omega))
    · wtm_at "go"
      refine w_ite (fun c => ?_) (fun c => ?_)
      · wtm_at "go"
        exact done _ _ (by split <;> omega) (Int.emod_nonneg _ (by omega)) (Int.emod_lt_of_pos _ (by omega))
      · wtm_at "go"
        refine w_pow ⟨by decide, by decide, by decide⟩ ?_
        wtm_at "go"
        refine w_ite (fun c => ?_) (fun c => ?_)
        · wtm_at "go"
          exact done _ _ (by split <;> omega) (Int.emod_nonneg _ (by omega)) (Int.emod_lt_of_pos _ (by omega))
        · wtm_at "go"
          exact done _ _ (by omega) (Int.emod_nonneg _ (by omega)) (Int.emod_lt_of_pos _ (by omega))

theorem cal__law_one (T : Txt mg) (D : Def1 K mg "_law_one" s__law_one) (c__law_draw : Cal P w K mg base "_law_draw" 1 P__law_draw spDraw)  : Cal P w K mg base "_law_one" 2 P__law_one (spOne K) := by
  have nd := sc__law_one.nd
  refine D.cal (k := 2-1) sc__law_one (fun vs H Q E h => ?_) (fun _ _ _ _ _ _ us hl => match us, hl with | [_, _], _ => rfl) fun f cdv A outer s H vs Q E hG hr h => have hu := hr.units; ⟨_, (pss_one (ps_ret (pe_ix (k_ix (K := K) rfl) (pv 1) (pe_cal c__law_draw hG (hr.mono (by decide)) rfl (pa_cons (pv 0) (pa_cons (pe_callB (k_len (K := K) rfl) rfl T.n_len (by decide +kernel) (pa_cons (pv 1) pa_nil)) pa_nil))) (fun _ _ => rfl)))), ?_⟩
  · obtain ⟨w, t, xs, rfl, _⟩ := h; rfl
  obtain ⟨w, t, xs, rfl, hs, h1, h2, hw, hQ⟩ := h
  rw [show L2.start N__law_one [V.ref w, V.ref t] = [some (V.ref w), some (V.ref t)] from rfl]
  wtm_at "go"
  have pos : 0 < xs.length := List.length_pos_iff.mpr h1
  have step : spDraw [V.ref w, V.int xs.length] H (fun y H2 => rIx K (V.ref t) y H2 Q) E0 := by
    refine ⟨w, _, rfl, by omega, by omega, hw, fun k k0 k1 H' kp wl => ?_⟩
    obtain ⟨j, rfl⟩ := Int.eq_ofNat_of_zero_le k0
    have hj : j < xs.length := by omega
    have e : xs[j]? = some xs[j] := List.getElem?_eq_getElem hj
    have m := hQ xs[j] (List.getElem_mem hj) H' kp wl
    rcases hs with hs | ⟨hs, hn⟩
    · exact w_ixT (SqT.kp hs hw kp) (at_of e) m
    · exact w_ixL (SqL.kp hs hn kp) (at_of e) m
  rcases hs with hs | ⟨hs, hn⟩
  · refine w_lenT hs ?_
    wtm_at "go"
    exact step
  · refine w_lenL hs ?_
    wtm_at "go"
    exact step
theorem cal__law_lean (T : Txt mg) (D : Def1 K mg "_law_lean" s__law_lean)   : Cal P w K mg base "_law_lean" 1 P__law_lean spLean := by
  have nd := sc__law_lean.nd
  refine D.cal (k := 1-1) sc__law_lean (fun vs H Q E h => ?_) (fun _ _ _ _ _ _ us hl => match us, hl with | [_, _], _ => rfl) fun f cdv A outer s H vs Q E hG hr h => have hu := hr.units; ⟨_, (pss_cons (ps_par (i := 2) (j := 3) rfl nd rfl rfl (by decide) rfl rfl (pa_cons (pe_callB call_absA rfl T.n_abs (by decide +kernel) (pa_cons (pv 0) pa_nil)) (pa_cons (pe_callB call_absA rfl T.n_abs (by decide +kernel) (pa_cons (pv 1) pa_nil)) pa_nil)) (by rfl)) (pss_cons (ps_while PassesOwn.never (pt_cmpR op_gtA (pv 3) pe_int (nomark _)) (pss_one (ps_par (i := 2) (j := 3) rfl nd rfl rfl (by decide) rfl rfl (pa_cons (pv 3) (pa_cons (pe_op op_mod (pe_callTy call_intA rfl T.n_int (by decide +kernel) (pa_cons (pv 2) pa_nil)) (pv 3)) pa_nil)) (by rfl)))) (pss_cons (ps_set (i := 2) nd rfl (Or.inl rfl) (pe_ifExp (pt_cmpR op_gtA (pv 1) pe_int (nomark _)) (pv 2) (pe_op op_sub pe_int (pv 2)))) (pss_one (ps_ret (pe_tup (pa_cons (pe_op op_fdivW (pv 0) (pv 2)) (pa_cons (pe_op op_fdivW (pv 1) (pv 2)) pa_nil)))))))), ?_⟩
  · obtain ⟨n, d, rfl, _⟩ := h; rfl
  obtain ⟨n, d, rfl, h1, h2, hQ⟩ := h
  rw [show L2.start N__law_lean [V.int n, V.int d] = [some (V.int n), some (V.int d), none, none] from rfl]
  wtm_at "go"
  refine w_while (fun σ H' => ∃ x y : Int, σ = [some (.int n), some (.int d), some (.int x), some (.int y)] ∧ 0 ≤ x ∧ 0 ≤ y ∧ Int.gcd x y = Int.gcd n d ∧ H' = H) (fun σ _ => match σ[3]? with | some (some (V.int y)) => y.toNat | _ => 0) ⟨_, _, rfl, by split <;> omega, by split <;> omega, ?_, rfl⟩ ?_ ?_
  · exact gcd_abs n d
  · rintro σ H' ⟨x, y, rfl, hx, hy, hg, rfl⟩
    wtm_at "go"
    refine w_ite (fun c => ?_) (fun c => ?_)
    · wtm_at "go"
      exact ⟨⟨_, _, rfl, hy, Int.emod_nonneg _ (by omega), (gcd_step hx hy).trans hg, rfl⟩, show (x % y).toNat < y.toNat by have := Int.emod_lt_of_pos x c; have := Int.emod_nonneg x (show y ≠ 0 by omega); omega⟩
    · have y0 : y = 0 := by omega
      subst y0
      have e : x = (Int.gcd n d : Nat) := by rw [← hg]; exact (gcd_end hx).symm
      have z : CDivW n x := ⟨by rw [e]; exact gcd_pos h1, Nat.lt_of_lt_of_le (PySem.Flt.log2_lt_of (k := 8000) (by decide) (Nat.lt_of_le_of_lt (by rw [e, Int.natAbs_natCast]; exact gcd_le h1) h2)) (by decide)⟩
      wtm_at "go"
      have z2 : CDivW d x := z
      refine w_ite (fun c2 => ?_) (fun c2 => absurd h1 c2)
      wtm_at "go"
      rw [e]
      exact hQ
  · rintro σ H' A B f ⟨v, e, i, j, h1, h2, k, h3, h4⟩
    exact ⟨v, e, i, j, h1, h2, k, h3, f _ _ h4⟩
end
end K1

set_option Elab.async false
set_option linter.all false
set_option maxRecDepth 100000
set_option maxHeartbeats 4000000
set_option autoImplicit false
namespace K1
open PySem PySem.Spec PyProof.Rows L2 RZ Gd
local macro_rules | `(tactic| wtm_at "ix") => `(tactic| first | exact at_0 | exact at_1 | exact at_2 | exact at_3 | exact at_4 | exact at_5 | exact ix_0 | exact ix_1 | exact ix_2 | exact ix_3)
local macro_rules | `(tactic| wtm_at "st") => `(tactic| first | assumption | exact upd_same | (with_reducible refine' hold_new ?hA ?hB; (case hB => assumption); (case hA => wtm_at "st")))
local macro_rules | `(tactic| wtm_at "rl") => `(tactic| first | assumption | (refine' SqL.of ?hC; (case hC => wtm_at "st")) | (refine' SqT.of ?hC; (case hC => wtm_at "st")))
local macro_rules | `(tactic| wtm_at "rd") => `(tactic| first
  | with_reducible refine w_seq ?_
  | with_reducible refine w_asg ?_
  | with_reducible refine w_ret ?_
  | with_reducible refine w_op ?_
  | with_reducible refine w_cb ?_
  | with_reducible refine w_cons ?_
  | with_reducible refine w_nil ?_
  | with_reducible refine w_c ?_
  | with_reducible refine w_if ?_
  | with_reducible refine w_test ?_
  | with_reducible refine w_un ?_
  | with_reducible refine w_tup ?_
  | with_reducible refine w_lst ?_
  | with_reducible refine w_call ?_
  | with_reducible refine w_and ?_
  | with_reducible refine w_or ?_
  | with_reducible refine w_not ?_
  | with_reducible refine w_ife ?_
  | with_reducible refine w_tB ?_
  | with_reducible refine w_andV ?_
  | with_reducible refine w_orV ?_
  | with_reducible refine w_notV ?_
  | with_reducible refine w_sub ?_
  | with_reducible refine w_gcons ?_
  | with_reducible refine w_gnil ?_
  | with_reducible refine w_next ?_
  | with_reducible refine w_drop ?_
  | with_reducible refine w_retN ?_
  | with_reducible refine w_brk ?_
  | with_reducible refine w_cont ?_
  | with_reducible refine w_bl ?_
  | with_reducible refine w_gt ?_
  | with_reducible refine w_ge ?_
  | with_reducible refine w_lt ?_
  | with_reducible refine w_le ?_
  | with_reducible refine w_subI ?_
  | with_reducible refine w_neg ?_
  | with_reducible refine w_addI ?_
  | with_reducible refine w_int ?_
  | with_reducible refine w_intB ?_
  | with_reducible refine w_abs ?_
  | with_reducible refine w_iteT ?_
  | with_reducible refine w_iteF ?_
  | with_reducible refine w_par ?_
  | with_reducible refine w_par3 ?_
  | with_reducible refine w_sl ?_
  | with_reducible refine w_nop ?_
  | with_reducible refine w_part ?_
  | with_reducible refine w_vint ?_
  | with_reducible refine w_vbl2 ?_
  | with_reducible refine w_vbl3 ?_
  | with_reducible refine w_lc ?_
  | with_reducible refine w_yes ?_
  | with_reducible refine w_iz ?_
  | with_reducible refine w_var0 ?_
  | with_reducible refine w_var1 ?_
  | with_reducible refine w_var2 ?_
  | with_reducible refine w_var3 ?_
  | with_reducible refine w_var4 ?_
  | with_reducible refine w_var5 ?_
  | with_reducible refine w_var6 ?_
  | with_reducible refine w_var7 ?_
  | with_reducible refine w_var8 ?_
  | with_reducible refine w_var9 ?_
  | with_reducible refine w_var10 ?_
  | with_reducible refine w_var11 ?_
  | with_reducible refine w_var12 ?_
  | with_reducible refine w_var13 ?_
  | with_reducible refine w_var14 ?_
  | with_reducible refine w_var15 ?_
  | with_reducible refine w_nam0 ?_
  | with_reducible refine w_nam1 ?_
  | with_reducible refine w_nam2 ?_
  | with_reducible refine w_nam3 ?_
  | with_reducible refine w_nam4 ?_
  | with_reducible refine w_nam5 ?_
  | with_reducible refine w_nam6 ?_
  | with_reducible refine w_nam7 ?_
  | with_reducible refine w_nam8 ?_
  | with_reducible refine w_nam9 ?_
  | with_reducible refine w_nam10 ?_
  | with_reducible refine w_nam11 ?_
  | with_reducible refine w_nam12 ?_
  | with_reducible refine w_nam13 ?_
  | with_reducible refine w_nam14 ?_
  | with_reducible refine w_nam15 ?_
  | (with_reducible refine' w_eqS ?hs ?_; (case hs => with_unfolding_all rfl))
  | (with_reducible refine' w_neS ?hs ?_; (case hs => with_unfolding_all rfl))
  | (with_reducible refine' w_len ?hs ?_; (case hs => (simp only [List.length_cons, List.length_nil]; omega)))
  | (with_reducible refine' w_slL ?hs ?_; (case hs => wtm_at "rl"))
  | (with_reducible refine' w_mulI ?hs ?_; (case hs => (first | (refine cmul_r ?_; (constructor <;> omega)) | (refine cmul_l ?_; (constructor <;> omega)) | assumption)))
  | (with_reducible refine' w_mod ?hs ?_; (case hs => (first | omega | assumption)))
  | (with_reducible refine' w_div ?hs ?_; (case hs => (first | assumption | (refine cdiv_s ?_ ?_ <;> omega))))
  | (with_reducible refine' w_ixL ?hs ?ht ?_; (case hs => wtm_at "rl"); (case ht => wtm_at "ix"))
  | (with_reducible refine' w_ixT ?hs ?ht ?_; (case hs => wtm_at "rl"); (case ht => wtm_at "ix"))
  | (with_reducible refine' w_set0 ?hs ?_; (case hs => wtm_at "st"))
  | (with_reducible refine' w_set1 ?hs ?_; (case hs => wtm_at "st"))
  | (with_reducible refine' w_set2 ?hs ?_; (case hs => wtm_at "st"))
  | (with_reducible refine' w_lenL ?hs ?_; (case hs => wtm_at "rl"))
  | (with_reducible refine' w_lenT ?hs ?_; (case hs => wtm_at "rl"))
  | (with_reducible refine' w_gtup ?hs ?ht ?_; (case hs => wtm_at "rl"); (case ht => with_unfolding_all rfl))
  | rw [List.set_cons_zero]
  | rw [List.set_cons_succ])
local macro_rules | `(tactic| wtm_at "go") => `(tactic| repeat wtm_at "rd")
section
variable {P : Program} {w : World} {K : PySem.W.Frag} {mg : Str → Option Value} {base : Heap}
theorem cal__law_minus (T : Txt mg) (D : Def1 K mg "_law_minus" s__law_minus) (c__law_lean : Cal P w K mg base "_law_lean" 1 P__law_lean spLean)  : Cal P w K mg base "_law_minus" 2 P__law_minus (spMinus K) := by
  have nd := sc__law_minus.nd
  refine D.cal (k := 2-1) sc__law_minus (fun vs H Q E h => ?_) (fun _ _ _ _ _ _ us hl => match us, hl with | [_, _], _ => rfl) fun f cdv A outer s H vs Q E hG hr h => have hu := hr.units; ⟨_, (pss_one (ps_ret (pe_cal c__law_lean hG (hr.mono (by decide)) rfl (pa_cons (pe_op op_sub (pe_op (k_mul (K := K) rfl) (pe_ix (k_ix (K := K) rfl) (pv 0) pe_int (fun _ _ => rfl)) (pe_ix (k_ix (K := K) rfl) (pv 1) pe_int (fun _ _ => rfl))) (pe_op (k_mul (K := K) rfl) (pe_ix (k_ix (K := K) rfl) (pv 1) pe_int (fun _ _ => rfl)) (pe_ix (k_ix (K := K) rfl) (pv 0) pe_int (fun _ _ => rfl)))) (pa_cons (pe_op (k_mul (K := K) rfl) (pe_ix (k_ix (K := K) rfl) (pv 0) pe_int (fun _ _ => rfl)) (pe_ix (k_ix (K := K) rfl) (pv 1) pe_int (fun _ _ => rfl))) pa_nil))))), ?_⟩
  · obtain ⟨a, b, x, y, rfl, _⟩ := h; rfl
  obtain ⟨a, b, x, y, rfl, ha, hb, h1, h2, h3, h4, h5, h6, hQ⟩ := h
  rw [show L2.start N__law_minus [V.ref a, V.ref b] = [some (V.ref a), some (V.ref b)] from rfl]
  have m1 : CMulA x.1 y.2 := .inr (wide_mul h3 h6 (by decide) (by decide) (by decide))
  have m2 : CMulA y.1 x.2 := .inr (wide_mul h5 h4 (by decide) (by decide) (by decide))
  have m3 : CMulA x.2 y.2 := .inr (wide_mul h4 h6 (by decide) (by decide) (by decide))
  wtm_at "go"
  exact ⟨_, _, rfl, Int.mul_pos h1 h2, wide_lt h4 h6, hQ⟩
theorem cal__law_number (T : Txt mg) (D : Def1 K mg "_law_number" s__law_number) (c__law_draw : Cal P w K mg base "_law_draw" 1 P__law_draw spDraw) (c__law_one : Cal P w K mg base "_law_one" 2 P__law_one (spOneD K)) (c__law_lean : Cal P w K mg base "_law_lean" 1 P__law_lean spLean)  : Cal P w K mg base "_law_number" 3 P__law_number (spNumber K) := by
  have nd := sc__law_number.nd
  refine D.cal (k := 3-1) sc__law_number (fun vs H Q E h => ?_) (fun _ _ _ _ _ _ us hl => match us, hl with | [_], _ => rfl) fun f cdv A outer s H vs Q E hG hr h => have hu := hr.units; ⟨_, (pss_cons (ps_set (i := 1) nd rfl (Or.inl rfl) (pe_cal c__law_draw hG (hr.mono (by decide)) rfl (pa_cons (pv 0) (pa_cons pe_int pa_nil)))) (pss_cons (ps_if (pt_cmpR op_ltA (pv 1) pe_int (nomark _)) (pss_one (ps_ret (pe_cal c__law_one hG (hr.mono (by decide)) rfl (pa_cons (pv 0) (pa_cons (k_dat (K := K) rfl (pd_tup (pds_cons (pd_tup (pds_cons pd_int (pds_cons pd_int pds_nil))) (pds_cons (pd_tup (pds_cons pd_int (pds_cons pd_int pds_nil))) (pds_cons (pd_tup (pds_cons pd_int (pds_cons pd_int pds_nil))) (pds_cons (pd_tup (pds_cons pd_int (pds_cons pd_int pds_nil))) (pds_cons (pd_tup (pds_cons pd_int (pds_cons pd_int pds_nil))) (pds_cons (pd_tup (pds_cons pd_neg (pds_cons pd_int pds_nil))) (pds_cons (pd_tup (pds_cons pd_int (pds_cons pd_int pds_nil))) (pds_cons (pd_tup (pds_cons pd_neg (pds_cons pd_int pds_nil))) (pds_cons (pd_tup (pds_cons pd_int (pds_cons pd_int pds_nil))) (pds_cons (pd_tup (pds_cons pd_neg (pds_cons pd_int pds_nil))) pds_nil)))))))))))) pa_nil))))) pss_nil) (pss_one (ps_ret (pe_cal c__law_lean hG (hr.mono (by decide)) rfl (pa_cons (pe_op op_sub (pe_cal c__law_draw hG (hr.mono (by decide)) rfl (pa_cons (pv 0) (pa_cons pe_int pa_nil))) pe_int) (pa_cons (pe_op (k_add (K := K) rfl) pe_int (pe_cal c__law_draw hG (hr.mono (by decide)) rfl (pa_cons (pv 0) (pa_cons pe_int pa_nil)))) pa_nil))))))), ?_⟩
  · obtain ⟨w, rfl, _⟩ := h; rfl
  obtain ⟨w, rfl, hw, hQ⟩ := h
  rw [show L2.start N__law_number [V.ref w] = [some (V.ref w), none] from rfl]
  wtm_at "go"
  refine ⟨w, 16, rfl, by omega, by omega, hw, fun k k0 k1 H1 kp1 w1 => ?_⟩
  wtm_at "go"
  refine w_ite (fun c => ?_) (fun c => ?_)
  · wtm_at "go"
    refine w_dat w1.ne fun H2 v s2 d2 => ?_
    wtm_at "go"
    refine ⟨w, v, _, rfl, d2, by simp, by simp, w1.same s2, fun d hd H3 u kp3 w3 hu => ?_⟩
    have key : ∃ q, d = frD q ∧ NumOk q := by
      simp only [List.mem_cons, List.not_mem_nil, or_false] at hd
      rcases hd with rfl | rfl | rfl | rfl | rfl | rfl | rfl | rfl | rfl | rfl
      all_goals first | exact ⟨(0, 1), rfl, by decide⟩ | exact ⟨(1, 1), rfl, by decide⟩ | exact ⟨(-1, 1), rfl, by decide⟩ | exact ⟨(2, 1), rfl, by decide⟩ | exact ⟨(-2, 1), rfl, by decide⟩ | exact ⟨(1, 2), rfl, by decide⟩ | exact ⟨(-1, 3), rfl, by decide⟩
    obtain ⟨q, rfl, hq⟩ := key
    exact hQ q hq H3 u ((kp1.trans (Kp.same s2)).trans kp3) w3 (dt_fr hu)
  · wtm_at "go"
    refine ⟨w, _, rfl, by omega, by omega, w1, fun k2 a0 a1 H2 kp2 w2 => ?_⟩
    wtm_at "go"
    refine ⟨w, _, rfl, by omega, by omega, w2, fun k3 b0 b1 H3 kp3 w3 => ?_⟩
    wtm_at "go"
    refine ⟨_, _, rfl, by omega, Nat.lt_of_lt_of_le (show (1 + k3).natAbs < 2 ^ 10 by omega) (Nat.pow_le_pow_right (by decide) (by decide)), fun p hp => ?_⟩
    have d0 : 0 < 1 + k3 := by omega
    have z1 := leanF_n (n := k2 - 1000000) d0
    have z2 := leanF_d (n := k2 - 1000000) d0
    exact hQ (leanF (k2 - 1000000) (1 + k3)) ⟨leanF_pos d0, leanF_gcd d0, by omega, by omega⟩ _ _ (((kp1.trans kp2).trans kp3).trans (Kp.new hp)) (w3.same (same_new hp)) (.tup (SqT.of upd_same) (.cons (.int _) (.cons (.int _) .nil)))
theorem cal__law_numbers (T : Txt mg) (D : Def1 K mg "_law_numbers" s__law_numbers) (c__law_number : Cal P w K mg base "_law_number" 3 P__law_number (spNumber K))  : Cal P w K mg base "_law_numbers" 4 P__law_numbers (spNumbers K) := by
  have nd := sc__law_numbers.nd
  refine D.cal (k := 4-1) sc__law_numbers (fun vs H Q E h => ?_) (fun _ _ _ _ _ _ us hl => match us, hl with | [_, _], _ => rfl) fun f cdv A outer s H vs Q E hG hr h => have hu := hr.units; ⟨_, (pss_cons (ps_set (i := 2) nd rfl (Or.inl rfl) (pe_lst pa_nil)) (pss_cons (ps_for PassesOwn.never rfl (pi_range1 rfl T.n_range (pa_cons (pv 1) pa_nil)) (pg_name (i := 3) nd rfl (Or.inl rfl)) (pss_one (ps_expr (pe_bm PySem.F.plainAttrs_list PySem.F.slot_list_append PySem.F.type_list_append mt_append (pv 2) (pa_cons (pe_cal c__law_number hG (hr.mono (by decide)) rfl (pa_cons (pv 0) pa_nil)) pa_nil))))) (pss_one (ps_ret (pe_callTy (k_tupT (K := K) rfl) rfl T.n_tuple (by decide +kernel) (pa_cons (pv 2) pa_nil)))))), ?_⟩
  · obtain ⟨w, few, rfl, _⟩ := h; rfl
  obtain ⟨w, few, rfl, h1, hw, hQ⟩ := h
  rw [show L2.start N__law_numbers [V.ref w, V.int few] = [some (V.ref w), some (V.int few), none, none] from rfl]
  wtm_at "go"
  intro l hl
  wtm_at "go"
  refine w_forR ?_
  wtm_at "go"
  have wl0 : w ≠ l := hw.apart hl
  refine ⟨few, rfl, by omega, by omega, f_range (lo := 0) (k := (few : Int).toNat) (fun i σ H' => ∃ (v : Option V) (qs : List (Int × Int)) (xs : List V), σ = [some (.ref w), some (.int few), some (.ref l), v] ∧ qs.length = i ∧ (∀ q ∈ qs, NumOk q) ∧ H' l = some (.lst xs) ∧ TtL K H' xs (qs.map frD) ∧ Kp w H H' ∧ Wl H' w)
    ⟨_, [], [], rfl, rfl, by simp, upd_same, .nil, Kp.new hl, hw.same (same_new hl)⟩ ?_ ?_⟩
  · rintro i σ H1 hi ⟨v, qs, xs, rfl, hq, ok, hl1, tt, kp, wl⟩
    wtm_at "go"
    refine w_appV rfl hl1 ?_
    wtm_at "go"
    refine ⟨w, rfl, wl, fun q nq H2 y kp2 w2 ty => ?_⟩
    wtm_at "go"
    have hl2 := kp2 l _ wl0.symm hl1
    have tt2 := TtL.tk (TK.kp wl kp2) tt
    refine w_apd hl2 (Nat.lt_of_le_of_lt (by rw [tt.length, List.length_map, hq]; omega) (show 1000 < sizeLine by decide)) ?_
    have tk := TK.put (o := .lst (xs ++ [y])) hl2
    refine ⟨_, qs ++ [q], _, rfl, by rw [List.length_append, hq]; rfl, fun z hz => (List.mem_append.mp hz).elim (ok z) fun h => by rw [List.mem_singleton.mp h]; exact nq, upd_same, ?_, fun b o n e => ?_, ?_⟩
    · rw [List.map_append]
      exact (TtL.tk tk tt2).append (.one (ty.tk tk))
    · rw [upd_ne (ne_of_none e hl)]
      exact kp2 _ _ n (kp _ _ n e)
    · obtain ⟨a, m, n, e, r⟩ := w2
      exact ⟨a, m, n, by rw [upd_ne wl0]; exact e, r⟩
  · rintro σ H1 ⟨v, qs, xs, rfl, hq, ok, hl1, tt, kp, wl⟩
    wtm_at "go"
    refine w_tupL (SqL.of hl1) fun p hp => ?_
    exact hQ qs (by rw [hq]; omega) ok _ _ (kp.trans (Kp.new hp)) (wl.same (same_new hp)) (.tup (SqT.of upd_same) (TtL.tk (TK.same (same_new hp)) tt))
end
end K1

set_option Elab.async false
set_option linter.all false
set_option maxRecDepth 100000
set_option maxHeartbeats 4000000
set_option autoImplicit false
namespace K1
open PySem PySem.Spec PyProof.Rows L2 RZ Gd
local macro_rules | `(tactic| wtm_at "ix") => `(tactic| first | exact at_0 | exact at_1 | exact at_2 | exact at_3 | exact at_4 | exact at_5 | exact ix_0 | exact ix_1 | exact ix_2 | exact ix_3)
local macro_rules | `(tactic| wtm_at "st") => `(tactic| first | assumption | exact upd_same | (with_reducible refine' hold_new ?hA ?hB; (case hB => assumption); (case hA => wtm_at "st")))
local macro_rules | `(tactic| wtm_at "rl") => `(tactic| first | assumption | (refine' SqL.of ?hC; (case hC => wtm_at "st")) | (refine' SqT.of ?hC; (case hC => wtm_at "st")))
local macro_rules | `(tactic| wtm_at "rd") => `(tactic| first
  | with_reducible refine w_seq ?_
  | with_reducible refine w_asg ?_
  | with_reducible refine w_ret ?_
  | with_reducible refine w_op ?_
  | with_reducible refine w_cb ?_
  | with_reducible refine w_cons ?_
  | with_reducible refine w_nil ?_
  | with_reducible refine w_c ?_
  | with_reducible refine w_if ?_
  | with_reducible refine w_test ?_
  | with_reducible refine w_un ?_
  | with_reducible refine w_tup ?_
  | with_reducible refine w_lst ?_
  | with_reducible refine w_call ?_
  | with_reducible refine w_and ?_
  | with_reducible refine w_or ?_
  | with_reducible refine w_not ?_
  | with_reducible refine w_ife ?_
  | with_reducible refine w_tB ?_
  | with_reducible refine w_andV ?_
  | with_reducible refine w_orV ?_
  | with_reducible refine w_notV ?_
  | with_reducible refine w_sub ?_
  | with_reducible refine w_gcons ?_
  | with_reducible refine w_gnil ?_
  | with_reducible refine w_next ?_
  | with_reducible refine w_drop ?_
  | with_reducible refine w_retN ?_
  | with_reducible refine w_brk ?_
  | with_reducible refine w_cont ?_
  | with_reducible refine w_bl ?_
  | with_reducible refine w_gt ?_
  | with_reducible refine w_ge ?_
  | with_reducible refine w_lt ?_
  | with_reducible refine w_le ?_
  | with_reducible refine w_subI ?_
  | with_reducible refine w_neg ?_
  | with_reducible refine w_addI ?_
  | with_reducible refine w_int ?_
  | with_reducible refine w_intB ?_
  | with_reducible refine w_abs ?_
  | with_reducible refine w_iteT ?_
  | with_reducible refine w_iteF ?_
  | with_reducible refine w_par ?_
  | with_reducible refine w_par3 ?_
  | with_reducible refine w_sl ?_
  | with_reducible refine w_nop ?_
  | with_reducible refine w_part ?_
  | with_reducible refine w_vint ?_
  | with_reducible refine w_vbl2 ?_
  | with_reducible refine w_vbl3 ?_
  | with_reducible refine w_lc ?_
  | with_reducible refine w_yes ?_
  | with_reducible refine w_iz ?_
  | with_reducible refine w_var0 ?_
  | with_reducible refine w_var1 ?_
  | with_reducible refine w_var2 ?_
  | with_reducible refine w_var3 ?_
  | with_reducible refine w_var4 ?_
  | with_reducible refine w_var5 ?_
  | with_reducible refine w_var6 ?_
  | with_reducible refine w_var7 ?_
  | with_reducible refine w_var8 ?_
  | with_reducible refine w_var9 ?_
  | with_reducible refine w_var10 ?_
  | with_reducible refine w_var11 ?_
  | with_reducible refine w_var12 ?_
  | with_reducible refine w_var13 ?_
  | with_reducible refine w_var14 ?_
  | with_reducible refine w_var15 ?_
  | with_reducible refine w_nam0 ?_
  | with_reducible refine w_nam1 ?_
  | with_reducible refine w_nam2 ?_
  | with_reducible refine w_nam3 ?_
  | with_reducible refine w_nam4 ?_
  | with_reducible refine w_nam5 ?_
  | with_reducible refine w_nam6 ?_
  | with_reducible refine w_nam7 ?_
  | with_reducible refine w_nam8 ?_
  | with_reducible refine w_nam9 ?_
  | with_reducible refine w_nam10 ?_
  | with_reducible refine w_nam11 ?_
  | with_reducible refine w_nam12 ?_
  | with_reducible refine w_nam13 ?_
  | with_reducible refine w_nam14 ?_
  | with_reducible refine w_nam15 ?_
  | (with_reducible refine' w_eqS ?hs ?_; (case hs => with_unfolding_all rfl))
  | (with_reducible refine' w_neS ?hs ?_; (case hs => with_unfolding_all rfl))
  | (with_reducible refine' w_len ?hs ?_; (case hs => (simp only [List.length_cons, List.length_nil]; omega)))
  | (with_reducible refine' w_slL ?hs ?_; (case hs => wtm_at "rl"))
  | (with_reducible refine' w_mulI ?hs ?_; (case hs => (first | (refine cmul_r ?_; (constructor <;> omega)) | (refine cmul_l ?_; (constructor <;> omega)) | assumption)))
  | (with_reducible refine' w_mod ?hs ?_; (case hs => (first | omega | assumption)))
  | (with_reducible refine' w_div ?hs ?_; (case hs => (first | assumption | (refine cdiv_s ?_ ?_ <;> omega))))
  | (with_reducible refine' w_ixL ?hs ?ht ?_; (case hs => wtm_at "rl"); (case ht => wtm_at "ix"))
  | (with_reducible refine' w_ixT ?hs ?ht ?_; (case hs => wtm_at "rl"); (case ht => wtm_at "ix"))
  | (with_reducible refine' w_set0 ?hs ?_; (case hs => wtm_at "st"))
  | (with_reducible refine' w_set1 ?hs ?_; (case hs => wtm_at "st"))
  | (with_reducible refine' w_set2 ?hs ?_; (case hs => wtm_at "st"))
  | (with_reducible refine' w_lenL ?hs ?_; (case hs => wtm_at "rl"))
  | (with_reducible refine' w_lenT ?hs ?_; (case hs => wtm_at "rl"))
  | (with_reducible refine' w_gtup ?hs ?ht ?_; (case hs => wtm_at "rl"); (case ht => with_unfolding_all rfl))
  | rw [List.set_cons_zero]
  | rw [List.set_cons_succ])
local macro_rules | `(tactic| wtm_at "go") => `(tactic| repeat wtm_at "rd")
section
variable {P : Program} {w : World} {K : PySem.W.Frag} {mg : Str → Option Value} {base : Heap}
def oddL : List PyData := [.none, .bool true, .bool false, .int 0, .int 1, .int 2, .int (-1), .int 7, .int 5, .str "", .str "a", .str "shifts", .tuple [], .tuple [.int 0], .tuple [.int 1], frD (0, 1), frD (1, 0), frD (0, 0), frD (1, 2),
  frD (1, 1), frD (3, -2), .tuple [.bool true, .int 1], .tuple [.int 0, .bool true], .tuple [frD (0, 1)], .tuple [frD (1, 1)], .tuple [frD (0, 1), frD (1, 2)], .tuple [.tuple [frD (0, 1)]], frD (2, 4),
  .tuple [frD (0, 1), frD (0, 1)], .list [], .list [.int 1], .list [frD (0, 1)], .dict [], .tuple [.none], .tuple [.tuple []], .int (10 ^ 20), .tuple [.int 0, .int 1, .int 2], .tuple [.tuple [frD (1, 1)], .tuple []]]
def spOdd (K : PySem.W.Frag) : Sp := fun vs H Q _ => ∃ w, vs = [.ref w] ∧ Wl H w ∧ ∀ d ∈ oddL, ∀ H' v, Kp w H H' → Wl H' w → Dt w K H' v d → Q v H'
theorem cal__law_odd (T : Txt mg) (D : Def1 K mg "_law_odd" s__law_odd) (c__law_one : Cal P w K mg base "_law_one" 2 P__law_one (spOneD K))  : Cal P w K mg base "_law_odd" 3 P__law_odd (spOdd K) := by
  have nd := sc__law_odd.nd
  refine D.cal (k := 3-1) sc__law_odd (fun vs H Q E h => ?_) (fun _ _ _ _ _ _ us hl => match us, hl with | [_], _ => rfl) fun f cdv A outer s H vs Q E hG hr h => have hu := hr.units; ⟨_, (pss_cons (ps_set (i := 1) nd rfl (Or.inl rfl) (k_dat (K := K) rfl (pd_tup (pds_cons pd_non (pds_cons pd_bl (pds_cons pd_bl (pds_cons pd_int (pds_cons pd_int (pds_cons pd_int (pds_cons pd_neg (pds_cons pd_int (pds_cons pd_int (pds_cons pd_str (pds_cons pd_str (pds_cons pd_str (pds_cons (pd_tup pds_nil) (pds_cons (pd_tup (pds_cons pd_int pds_nil)) (pds_cons (pd_tup (pds_cons pd_int pds_nil)) (pds_cons (pd_tup (pds_cons pd_int (pds_cons pd_int pds_nil))) (pds_cons (pd_tup (pds_cons pd_int (pds_cons pd_int pds_nil))) (pds_cons (pd_tup (pds_cons pd_int (pds_cons pd_int pds_nil))) (pds_cons (pd_tup (pds_cons pd_int (pds_cons pd_int pds_nil))) pds_nil)))))))))))))))))))))) (pss_cons (ps_set (i := 2) nd rfl (Or.inl rfl) (k_dat (K := K) rfl (pd_tup (pds_cons (pd_tup (pds_cons pd_int (pds_cons pd_int pds_nil))) (pds_cons (pd_tup (pds_cons pd_int (pds_cons pd_neg pds_nil))) (pds_cons (pd_tup (pds_cons pd_bl (pds_cons pd_int pds_nil))) (pds_cons (pd_tup (pds_cons pd_int (pds_cons pd_bl pds_nil))) (pds_cons (pd_tup (pds_cons (pd_tup (pds_cons pd_int (pds_cons pd_int pds_nil))) pds_nil)) (pds_cons (pd_tup (pds_cons (pd_tup (pds_cons pd_int (pds_cons pd_int pds_nil))) pds_nil)) (pds_cons (pd_tup (pds_cons (pd_tup (pds_cons pd_int (pds_cons pd_int pds_nil))) (pds_cons (pd_tup (pds_cons pd_int (pds_cons pd_int pds_nil))) pds_nil))) (pds_cons (pd_tup (pds_cons (pd_tup (pds_cons (pd_tup (pds_cons pd_int (pds_cons pd_int pds_nil))) pds_nil)) pds_nil)) (pds_cons (pd_tup (pds_cons pd_int (pds_cons pd_int pds_nil))) pds_nil)))))))))))) (pss_cons (ps_set (i := 2) nd rfl (Or.inl rfl) (pe_op (k_add (K := K) rfl) (pv 2) (k_dat (K := K) rfl (pd_tup (pds_cons (pd_tup (pds_cons (pd_tup (pds_cons pd_int (pds_cons pd_int pds_nil))) (pds_cons (pd_tup (pds_cons pd_int (pds_cons pd_int pds_nil))) pds_nil))) (pds_cons (pd_lst pds_nil) (pds_cons (pd_lst (pds_cons pd_int pds_nil)) (pds_cons (pd_lst (pds_cons (pd_tup (pds_cons pd_int (pds_cons pd_int pds_nil))) pds_nil)) (pds_cons pd_dic (pds_cons (pd_tup (pds_cons pd_non pds_nil)) (pds_cons (pd_tup (pds_cons (pd_tup pds_nil) pds_nil)) (pds_cons (pd_pow (by unfold CPow; decide)) (pds_cons (pd_tup (pds_cons pd_int (pds_cons pd_int (pds_cons pd_int pds_nil)))) (pds_cons (pd_tup (pds_cons (pd_tup (pds_cons (pd_tup (pds_cons pd_int (pds_cons pd_int pds_nil))) pds_nil)) (pds_cons (pd_tup pds_nil) pds_nil))) pds_nil)))))))))))))) (pss_one (ps_ret (pe_cal c__law_one hG (hr.mono (by decide)) rfl (pa_cons (pv 0) (pa_cons (pe_op (k_add (K := K) rfl) (pv 1) (pv 2)) pa_nil)))))))), ?_⟩
  · obtain ⟨w, rfl, _⟩ := h; rfl
  obtain ⟨w, rfl, hw, hQ⟩ := h
  rw [show L2.start N__law_odd [V.ref w] = [some (V.ref w), none, none] from rfl]
  wtm_at "go"
  refine w_dat hw.ne fun H1 v1 s1 d1 => ?_
  wtm_at "go"
  refine w_dat (hw.same s1).ne fun H2 v2 s2 d2 => ?_
  wtm_at "go"
  refine w_dat ((hw.same s1).same s2).ne fun H3 v3 s3 d3 => ?_
  wtm_at "go"
  refine w_catD (Dt.same s3 d2) d3 (by decide) (by decide) (by decide) fun p q1 hp d4 => ?_
  wtm_at "go"
  refine w_catD (Dt.same (same_new hp) (Dt.same s3 (Dt.same s2 d1))) d4 (by decide) (by decide) (by decide) fun p2 q2 hp2 d5 => ?_
  wtm_at "go"
  have sm := (((s1.trans s2).trans s3).trans (same_new (o := .tup q1) hp)).trans (same_new (o := .tup q2) hp2)
  refine ⟨w, _, _, rfl, d5, by simp, by simp, hw.same sm, fun d hd H' v k wl dv => hQ d hd H' v ((Kp.same sm).trans k) wl dv⟩
end
end K1

set_option Elab.async false
set_option linter.all false
set_option maxRecDepth 100000
set_option maxHeartbeats 4000000
set_option autoImplicit false
namespace K1
open PySem PySem.Spec PyProof.Rows L2 RZ Gd
local macro_rules | `(tactic| wtm_at "ix") => `(tactic| first | exact at_0 | exact at_1 | exact at_2 | exact at_3 | exact at_4 | exact at_5 | exact ix_0 | exact ix_1 | exact ix_2 | exact ix_3)
local macro_rules | `(tactic| wtm_at "st") => `(tactic| first | assumption | exact upd_same | (with_reducible refine' hold_new ?hA ?hB; (case hB => assumption); (case hA => wtm_at "st")))
local macro_rules | `(tactic| wtm_at "rl") => `(tactic| first | assumption | (refine' SqL.of ?hC; (case hC => wtm_at "st")) | (refine' SqT.of ?hC; (case hC => wtm_at "st")))
local macro_rules | `(tactic| wtm_at "rd") => `(tactic| first
  | with_reducible refine w_seq ?_
  | with_reducible refine w_asg ?_
  | with_reducible refine w_ret ?_
  | with_reducible refine w_op ?_
  | with_reducible refine w_cb ?_
  | with_reducible refine w_cons ?_
  | with_reducible refine w_nil ?_
  | with_reducible refine w_c ?_
  | with_reducible refine w_if ?_
  | with_reducible refine w_test ?_
  | with_reducible refine w_un ?_
  | with_reducible refine w_tup ?_
  | with_reducible refine w_lst ?_
  | with_reducible refine w_call ?_
  | with_reducible refine w_and ?_
  | with_reducible refine w_or ?_
  | with_reducible refine w_not ?_
  | with_reducible refine w_ife ?_
  | with_reducible refine w_tB ?_
  | with_reducible refine w_andV ?_
  | with_reducible refine w_orV ?_
  | with_reducible refine w_notV ?_
  | with_reducible refine w_sub ?_
  | with_reducible refine w_gcons ?_
  | with_reducible refine w_gnil ?_
  | with_reducible refine w_next ?_
  | with_reducible refine w_drop ?_
  | with_reducible refine w_retN ?_
  | with_reducible refine w_brk ?_
  | with_reducible refine w_cont ?_
  | with_reducible refine w_bl ?_
  | with_reducible refine w_gt ?_
  | with_reducible refine w_ge ?_
  | with_reducible refine w_lt ?_
  | with_reducible refine w_le ?_
  | with_reducible refine w_subI ?_
  | with_reducible refine w_neg ?_
  | with_reducible refine w_addI ?_
  | with_reducible refine w_int ?_
  | with_reducible refine w_intB ?_
  | with_reducible refine w_abs ?_
  | with_reducible refine w_iteT ?_
  | with_reducible refine w_iteF ?_
  | with_reducible refine w_par ?_
  | with_reducible refine w_par3 ?_
  | with_reducible refine w_sl ?_
  | with_reducible refine w_nop ?_
  | with_reducible refine w_part ?_
  | with_reducible refine w_vint ?_
  | with_reducible refine w_vbl2 ?_
  | with_reducible refine w_vbl3 ?_
  | with_reducible refine w_lc ?_
  | with_reducible refine w_yes ?_
  | with_reducible refine w_iz ?_
  | with_reducible refine w_var0 ?_
  | with_reducible refine w_var1 ?_
  | with_reducible refine w_var2 ?_
  | with_reducible refine w_var3 ?_
  | with_reducible refine w_var4 ?_
  | with_reducible refine w_var5 ?_
  | with_reducible refine w_var6 ?_
  | with_reducible refine w_var7 ?_
  | with_reducible refine w_var8 ?_
  | with_reducible refine w_var9 ?_
  | with_reducible refine w_var10 ?_
  | with_reducible refine w_var11 ?_
  | with_reducible refine w_var12 ?_
  | with_reducible refine w_var13 ?_
  | with_reducible refine w_var14 ?_
  | with_reducible refine w_var15 ?_
  | with_reducible refine w_nam0 ?_
  | with_reducible refine w_nam1 ?_
  | with_reducible refine w_nam2 ?_
  | with_reducible refine w_nam3 ?_
  | with_reducible refine w_nam4 ?_
  | with_reducible refine w_nam5 ?_
  | with_reducible refine w_nam6 ?_
  | with_reducible refine w_nam7 ?_
  | with_reducible refine w_nam8 ?_
  | with_reducible refine w_nam9 ?_
  | with_reducible refine w_nam10 ?_
  | with_reducible refine w_nam11 ?_
  | with_reducible refine w_nam12 ?_
  | with_reducible refine w_nam13 ?_
  | with_reducible refine w_nam14 ?_
  | with_reducible refine w_nam15 ?_
  | (with_reducible refine' w_eqS ?hs ?_; (case hs => with_unfolding_all rfl))
  | (with_reducible refine' w_neS ?hs ?_; (case hs => with_unfolding_all rfl))
  | (with_reducible refine' w_len ?hs ?_; (case hs => (simp only [List.length_cons, List.length_nil]; omega)))
  | (with_reducible refine' w_slL ?hs ?_; (case hs => wtm_at "rl"))
  | (with_reducible refine' w_mulI ?hs ?_; (case hs => (first | (refine cmul_r ?_; (constructor <;> omega)) | (refine cmul_l ?_; (constructor <;> omega)) | assumption)))
  | (with_reducible refine' w_mod ?hs ?_; (case hs => (first | omega | assumption)))
  | (with_reducible refine' w_div ?hs ?_; (case hs => (first | assumption | (refine cdiv_s ?_ ?_ <;> omega))))
  | (with_reducible refine' w_ixL ?hs ?ht ?_; (case hs => wtm_at "rl"); (case ht => wtm_at "ix"))
  | (with_reducible refine' w_ixT ?hs ?ht ?_; (case hs => wtm_at "rl"); (case ht => wtm_at "ix"))
  | (with_reducible refine' w_set0 ?hs ?_; (case hs => wtm_at "st"))
  | (with_reducible refine' w_set1 ?hs ?_; (case hs => wtm_at "st"))
  | (with_reducible refine' w_set2 ?hs ?_; (case hs => wtm_at "st"))
  | (with_reducible refine' w_lenL ?hs ?_; (case hs => wtm_at "rl"))
  | (with_reducible refine' w_lenT ?hs ?_; (case hs => wtm_at "rl"))
  | (with_reducible refine' w_gtup ?hs ?ht ?_; (case hs => wtm_at "rl"); (case ht => with_unfolding_all rfl))
  | rw [List.set_cons_zero]
  | rw [List.set_cons_succ])
local macro_rules | `(tactic| wtm_at "go") => `(tactic| repeat wtm_at "rd")
section
variable {P : Program} {w : World} {K : PySem.W.Frag} {mg : Str → Option Value} {base : Heap}
theorem cal__law_trial (T : Txt mg) (D : Def1 K mg "_law_trial" s__law_trial) (c__law_draw : Cal P w K mg base "_law_draw" 1 P__law_draw spDraw) (c__law_one : Cal P w K mg base "_law_one" 2 P__law_one (spOne K)) (c__law_numbers : Cal P w K mg base "_law_numbers" 4 P__law_numbers (spNumbers K)) (c__law_minus : Cal P w K mg base "_law_minus" 2 P__law_minus (spMinus K))  : Cal P w K mg base "_law_trial" 5 P__law_trial (spTrial K) := by
  have nd := sc__law_trial.nd
  refine D.cal (k := 5-1) sc__law_trial (fun vs H Q E h => ?_) (fun _ _ _ _ _ _ us hl => match us, hl with | [_, _], _ => rfl) fun f cdv A outer s H vs Q E hG hr h => have hu := hr.units; ⟨_, (pss_cons (ps_asg (pe_tup (pa_cons (pe_op (k_add (K := K) rfl) pe_int (pe_cal c__law_draw hG (hr.mono (by decide)) rfl (pa_cons (pv 0) (pa_cons pe_int pa_nil)))) (pa_cons (pe_lst pa_nil) (pa_cons (pe_lst pa_nil) (pa_cons (pe_lst pa_nil) pa_nil))))) (k_gtup (K := K) (n := 4) rfl rfl (pgs_cons (pg_name (i := 2) nd rfl (Or.inl rfl)) (pgs_cons (pg_name (i := 3) nd rfl (Or.inl rfl)) (pgs_cons (pg_name (i := 4) nd rfl (Or.inl rfl)) (pgs_cons (pg_name (i := 5) nd rfl (Or.inl rfl)) pgs_nil)))))) (pss_cons (ps_par (i := 6) (j := 7) rfl nd rfl rfl (by decide) rfl rfl (pa_cons (pe_op (k_add (K := K) rfl) pe_int (pe_cal c__law_draw hG (hr.mono (by decide)) rfl (pa_cons (pv 0) (pa_cons (pv 1) pa_nil)))) (pa_cons (pe_cal c__law_one hG (hr.mono (by decide)) rfl (pa_cons (pv 0) (pa_cons (k_dat (K := K) rfl (pd_tup (pds_cons pd_int (pds_cons pd_int (pds_cons pd_int (pds_cons pd_int (pds_cons pd_int (pds_cons pd_int (pds_cons pd_int pds_nil))))))))) pa_nil))) pa_nil)) (by rfl)) (pss_cons (ps_for PassesOwn.never rfl (pi_range1 rfl T.n_range (pa_cons (pv 6) pa_nil)) (pg_name (i := 8) nd rfl (Or.inl rfl)) (pss_cons (ps_set (i := 9) nd rfl (Or.inl rfl) (pe_cal c__law_numbers hG (hr.mono (by decide)) rfl (pa_cons (pv 0) (pa_cons (pv 2) pa_nil)))) (C8.pss_cut (ps_if (PW.pt (pw_and (pt_cmpR (k_ne (K := K) rfl hu) (pv 3) (pe_lst pa_nil) (nomark _)) (pw_and1 (pt_cmpR (k_eq (K := K) rfl hu) (pe_cal c__law_draw hG (hr.mono (by decide)) rfl (pa_cons (pv 0) (pa_cons pe_int pa_nil))) pe_int (nomark _))))) (pss_one (ps_set (i := 9) nd rfl (Or.inl rfl) (pe_ix (k_ix (K := K) rfl) (pv 3) (pe_cal c__law_draw hG (hr.mono (by decide)) rfl (pa_cons (pv 0) (pa_cons (pe_callB (k_len (K := K) rfl) rfl T.n_len (by decide +kernel) (pa_cons (pv 3) pa_nil)) pa_nil))) (fun _ _ => rfl)))) pss_nil) (C8.pss_cut (ps_if (PW.pt (pw_and (pt_cmpR op_gtA (pe_callB (k_len (K := K) rfl) rfl T.n_len (by decide +kernel) (pa_cons (pv 3) pa_nil)) pe_int (nomark _)) (pw_and1 (pt_cmpR (k_eq (K := K) rfl hu) (pe_cal c__law_draw hG (hr.mono (by decide)) rfl (pa_cons (pv 0) (pa_cons pe_int pa_nil))) pe_int (nomark _))))) (pss_cons (ps_par (i := 10) (j := 11) rfl nd rfl rfl (by decide) rfl rfl (pa_cons (pe_cal c__law_one hG (hr.mono (by decide)) rfl (pa_cons (pv 0) (pa_cons (pv 3) pa_nil))) (pa_cons (pe_cal c__law_one hG (hr.mono (by decide)) rfl (pa_cons (pv 0) (pa_cons (pv 3) pa_nil))) pa_nil)) (by rfl)) (pss_one (ps_set (i := 9) nd rfl (Or.inl rfl) (pe_callTy (k_tupT (K := K) rfl) rfl T.n_tuple (by decide +kernel) (pa_cons (pe_lc (own := [("_law_x", 12), ("_law_y", 13)]) (by rfl) nd (k_zip (K := K) rfl rfl T.n_zip (pa_cons (pv 10) (pa_cons (pv 11) pa_nil))) (blkOk_by (own := [("_law_x", 12), ("_law_y", 13)]) (N := N__law_trial) (sc := defScope s__law_trial) (by decide +kernel)) (fun _ _ _ _ _ => (k_gtup (K := K) (n := 2) rfl rfl (pgs_cons (pg_name (i := 12) nd rfl (Or.inl rfl)) (pgs_cons (pg_name (i := 13) nd rfl (Or.inl rfl)) pgs_nil)))) (fun _ _ _ _ _ => pts_nil) (fun _ _ _ _ _ => (pe_cal c__law_minus hG (hr.mono (by decide)) rfl (pa_cons (pv 12) (pa_cons (pv 13) pa_nil))))) pa_nil))))) pss_nil) (pss_cons (ps_expr (pe_bm PySem.F.plainAttrs_list PySem.F.slot_list_append PySem.F.type_list_append mt_append (pv 3) (pa_cons (pv 9) pa_nil))) (pss_cons (ps_expr (pe_bm PySem.F.plainAttrs_list PySem.F.slot_list_append PySem.F.type_list_append mt_append (pv 4) (pa_cons (pe_cal c__law_one hG (hr.mono (by decide)) rfl (pa_cons (pv 0) (pa_cons (k_dat (K := K) rfl (pd_tup (pds_cons (pd_tup (pds_cons pd_int (pds_cons pd_int pds_nil))) (pds_cons (pd_tup (pds_cons pd_int (pds_cons pd_int pds_nil))) (pds_cons (pd_tup (pds_cons pd_int (pds_cons pd_int pds_nil))) (pds_cons (pd_tup (pds_cons pd_int (pds_cons pd_int pds_nil))) (pds_cons (pd_tup (pds_cons pd_int (pds_cons pd_int pds_nil))) (pds_cons (pd_tup (pds_cons pd_int (pds_cons pd_int pds_nil))) (pds_cons (pd_tup (pds_cons pd_int (pds_cons pd_int pds_nil))) pds_nil))))))))) pa_nil))) pa_nil))) (pss_one (ps_expr (pe_bm PySem.F.plainAttrs_list PySem.F.slot_list_append PySem.F.type_list_append mt_append (pv 5) (pa_cons (pe_ifExp (pt_cmpR op_gtA (pv 7) pe_int (nomark _)) (pe_cal c__law_draw hG (hr.mono (by decide)) rfl (pa_cons (pv 0) (pa_cons (pv 7) pa_nil))) pe_int) pa_nil)))))))))) (pss_one (ps_ret (pe_tup (pa_cons (pe_callTy (k_tupT (K := K) rfl) rfl T.n_tuple (by decide +kernel) (pa_cons (pv 3) pa_nil)) (pa_cons (pe_callTy (k_tupT (K := K) rfl) rfl T.n_tuple (by decide +kernel) (pa_cons (pv 4) pa_nil)) (pa_cons (pe_ifExp (pt_cmpR op_gtA (pv 7) pe_int (nomark _)) (pe_callTy (k_tupT (K := K) rfl) rfl T.n_tuple (by decide +kernel) (pa_cons (pv 5) pa_nil)) (pe_tup pa_nil)) pa_nil))))))))), ?_⟩
  · obtain ⟨w, most, rfl, _⟩ := h; rfl
  obtain ⟨w, most, rfl, m1, m2, hw, hQ⟩ := h
  rw [show L2.start N__law_trial [V.ref w, V.int most] = [some (V.ref w), some (V.int most), none, none, none, none, none, none, none, none, none, none, none, none] from rfl]
  wtm_at "go"
  refine ⟨w, 5, rfl, by omega, by omega, hw, fun k0 a0 a1 H1 kp1 w1 => ?_⟩
  wtm_at "go"
  intro l1 z1
  wtm_at "go"
  intro l2 z2
  wtm_at "go"
  intro l3 z3
  wtm_at "go"
  intro p4 z4
  wtm_at "go"
  have wA := (((w1.same (same_new (o := .lst []) z1)).same (same_new (o := .lst []) z2)).same (same_new (o := .lst []) z3)).same (same_new (o := .tup [V.int (1 + k0), V.ref l1, V.ref l2, V.ref l3]) z4)
  refine ⟨w, most, rfl, by omega, by omega, wA, fun k1 c0 c1 H2 kp2 w2 => ?_⟩
  wtm_at "go"
  refine w_dat w2.ne fun H3 v3 s3 d3 => ?_
  wtm_at "go"
  refine one_d ⟨w, _, _, rfl, d3, by simp, by simp, w2.same s3, fun d hd H4 v4 kp4 w4 dv => ?_⟩
  have key : ∃ kz : Int, d = .int kz ∧ 0 ≤ kz ∧ kz ≤ 5 := by
    simp only [List.mem_cons, List.not_mem_nil, or_false] at hd
    rcases hd with rfl | rfl | rfl | rfl | rfl | rfl | rfl
    all_goals exact ⟨_, rfl, by decide, by decide⟩
  obtain ⟨kz, rfl, kz0, kz5⟩ := key
  cases dv
  wtm_at "go"
  refine w_forR ?_
  wtm_at "go"
  have f21 : H1 l2 = none ∧ l2 ≠ l1 := ⟨(same_new (o := .lst []) z1).free z2, fun e => by rw [e, upd_same] at z2; cases z2⟩
  have f3 : H1 l3 = none ∧ l3 ≠ l1 ∧ l3 ≠ l2 := by
    refine ⟨((same_new (o := .lst []) z1).trans (same_new (o := .lst []) z2)).free z3, fun e => ?_, fun e => ?_⟩
    · rw [e] at z3
      have q := hold_new (o := .lst []) (upd_same (H := H1) (a := l1) (o := .lst [])) z2
      rw [q] at z3
      cases z3
    · rw [e, upd_same] at z3
      cases z3
  have T0 : TI K w l1 l2 l3 H1 (1 + k0).toNat 0 [] [] [] [] [] H4 := by
    have k4 : Kp w (upd (upd (upd (upd H1 l1 (.lst [])) l2 (.lst [])) l3 (.lst [])) p4 (.tup [V.int (1 + k0), V.ref l1, V.ref l2, V.ref l3])) H4 := (kp2.trans (Kp.same s3)).trans kp4
    have e3 := hold_new (o := .tup [V.int (1 + k0), V.ref l1, V.ref l2, V.ref l3]) (upd_same (H := upd (upd H1 l1 (.lst [])) l2 (.lst [])) (a := l3) (o := .lst [])) z4
    have e2 := hold_new (o := .tup [V.int (1 + k0), V.ref l1, V.ref l2, V.ref l3]) (hold_new (o := .lst []) (upd_same (H := upd H1 l1 (.lst [])) (a := l2) (o := .lst [])) z3) z4
    have e1 := hold_new (o := .tup [V.int (1 + k0), V.ref l1, V.ref l2, V.ref l3]) (hold_new (o := .lst []) (hold_new (o := .lst []) (upd_same (H := H1) (a := l1) (o := .lst [])) z2) z3) z4
    have n1 : w ≠ l1 := w1.apart z1
    have n2 : w ≠ l2 := w1.apart f21.1
    have n3 : w ≠ l3 := w1.apart f3.1
    exact { a1 := rfl, a2 := rfl, a3 := rfl, a4 := by simp, a5 := by simp, a6 := by simp, h1 := k4 _ _ n1.symm e1, t1 := .nil, h2 := k4 _ _ n2.symm e2, t2 := .nil, h3 := k4 _ _ n3.symm e3, n1 := n1, n2 := n2, n3 := n3, n12 := f21.2.symm, n13 := f3.2.1.symm, n23 := f3.2.2.symm, z1 := z1, z2 := f21.1, z3 := f3.1, kp := (Kp.same ((((same_new z1).trans (same_new z2)).trans (same_new z3)).trans (same_new z4))).trans k4, wl := w4 }
  refine ⟨1 + k1, rfl, by omega, by omega, f_range (lo := 0) (k := (1 + k1).toNat) (fun i σ H' => ∃ (u8 u9 u10 u11 u12 u13 : Option V) (rows : List (List (Int × Int))) (sprs : List (Int × Int)) (blks : List Int) (xr xs : List V),
      σ = [some (V.ref w), some (V.int most), some (V.int (1 + k0)), some (V.ref l1), some (V.ref l2), some (V.ref l3), some (V.int (1 + k1)), some (V.int kz), u8, u9, u10, u11, u12, u13] ∧ TI K w l1 l2 l3 H1 (1 + k0).toNat i rows sprs blks xr xs H') ⟨_, _, _, _, _, _, [], [], [], [], [], rfl, T0⟩ ?_ ?_⟩
  · rintro i σ H' hi ⟨u8, u9, u10, u11, u12, u13, rows, sprs, blks, xr, xs, rfl, TT⟩
    wtm_at "go"
    refine ⟨w, (1 + k0).toNat, by rw [Int.toNat_of_nonneg (by omega)]; rfl, by omega, TT.wl, fun qs lq oq H6 v6 kp6 w6 d6 => ?_⟩
    have T6 := TT.dr kp6 w6
    have er : ∀ q ∈ qs, Ent (i + 1) q := fun q hq => (oq q hq).ent.up (by omega)
    wtm_at "go"
    refine w_cut (fun σ' H7 => ∃ (v : V) (r : List (Int × Int)), σ' = [some (V.ref w), some (V.int most), some (V.int (1 + k0)), some (V.ref l1), some (V.ref l2), some (V.ref l3), some (V.int (1 + k1)), some (V.int kz), some (.int (0 + i)), some v, u10, u11, u12, u13] ∧ Tt K H7 v (rowD r) ∧ r.length = (1 + k0).toNat ∧ (∀ q ∈ r, Ent (i + 1) q) ∧ TI K w l1 l2 l3 H1 (1 + k0).toNat i rows sprs blks xr xs H7) ?_ ?_
    · have e0 := T6.h1
      wtm_at "go"
      intro pe ze
      wtm_at "go"
      have T6b := T6.new (o := .lst []) ze
      have d6b := d6.tk (TK.same (same_new (o := .lst []) ze))
      refine w_neD (d := .list (rows.map rowD)) (e := .list []) (.lst (SqL.of T6b.h1) T6b.t1.dp) (.lst (SqL.of upd_same) .nil) (shaped_rows rows) (shaped_rows []) ?_
      rw [eqv_nil]
      wtm_at "go"
      refine w_iteB (fun c => ?_) (fun c => ?_)
      · wtm_at "go"
        refine ⟨w, 4, rfl, by omega, by omega, T6b.wl, fun k2 b0 b1 H7 kp7 w7 => ?_⟩
        have T7 := T6b.dr kp7 w7
        wtm_at "go"
        refine w_ite (fun c2 => ?_) (fun c2 => ?_)
        · have e0 := T7.h1
          wtm_at "go"
          have ne : 0 < xr.length := by
            rw [T7.t1.len]
            refine List.length_pos_iff.mpr fun z => ?_
            rw [z] at c
            simp at c
          refine ⟨w, _, rfl, by omega, by rw [T7.t1.len, T7.a1]; omega, T7.wl, fun k3 e1 e2 H8 kp8 w8 => ?_⟩
          have T8 := T7.dr kp8 w8
          obtain ⟨j, rfl⟩ := Int.eq_ofNat_of_zero_le e1
          have ej : xr[j]? = some (xr[j]'(by omega)) := List.getElem?_eq_getElem _
          obtain ⟨r, hr, hv⟩ := T8.t1.nth ej
          have q := T8.a4 r (List.mem_of_getElem? hr)
          refine w_ixL (SqL.of T8.h1) (at_of ej) ?_
          wtm_at "go"
          exact ⟨_, r, rfl, hv, q.1, fun x hx => (q.2 x hx).up (by omega), T8⟩
        · wtm_at "go"
          exact ⟨_, qs, rfl, d6b.tk (TK.kp T6b.wl kp7), by omega, er, T7⟩
      · wtm_at "go"
        exact ⟨_, qs, rfl, d6b, by omega, er, T6b⟩
    · rintro σ' H7 ⟨v, r, rfl, dv, lr, er7, T7⟩
      wtm_at "go"
      refine w_cut (fun σ' H8 => ∃ (v : V) (r : List (Int × Int)) (u10 u11 : Option V), σ' = [some (V.ref w), some (V.int most), some (V.int (1 + k0)), some (V.ref l1), some (V.ref l2), some (V.ref l3), some (V.int (1 + k1)), some (V.int kz), some (.int (0 + i)), some v, u10, u11, u12, u13] ∧ Tt K H8 v (rowD r) ∧ r.length = (1 + k0).toNat ∧ (∀ q ∈ r, Ent (i + 1) q) ∧ TI K w l1 l2 l3 H1 (1 + k0).toNat i rows sprs blks xr xs H8) ?_ ?_
      · have e0 := T7.h1
        wtm_at "go"
        refine w_ite (fun c => ?_) (fun c => ?_)
        · wtm_at "go"
          refine ⟨w, 6, rfl, by omega, by omega, T7.wl, fun k2 b0 b1 H8 kp8 w8 => ?_⟩
          have T8 := T7.dr kp8 w8
          wtm_at "go"
          refine w_ite (fun c2 => ?_) (fun c2 => ?_)
          · wtm_at "go"
            have ne : xr ≠ [] := fun z => by rw [z] at c; simp at c
            refine ⟨w, l1, xr, rfl, .inr ⟨SqL.of T8.h1, T8.n1.symm⟩, ne, by rw [T8.t1.len, T8.a1]; omega, T8.wl, fun va ma H9 kp9 w9 => ?_⟩
            have T9 := T8.dr kp9 w9
            obtain ⟨ra, hra, ta⟩ := T9.t1.memf ma
            wtm_at "go"
            refine ⟨w, l1, xr, rfl, .inr ⟨SqL.of T9.h1, T9.n1.symm⟩, ne, by rw [T9.t1.len, T9.a1]; omega, T9.wl, fun vb mb H10 kp10 w10 => ?_⟩
            have TA := T9.dr kp10 w10
            obtain ⟨rb, hrb, tb⟩ := TA.t1.memf mb
            have ta := ta.tk (TK.kp T9.wl kp10)
            have qa := TA.a4 ra hra
            have qb := TA.a4 rb hrb
            obtain ⟨aa, xa, rfl, sa, ra'⟩ := tt_row ta
            obtain ⟨ab, xb', rfl, sb, rb'⟩ := tt_row tb
            wtm_at "go"
            refine ⟨aa, ab, xa, xb', rfl, .inr ⟨sa, sb, fun D hD => ?_⟩⟩
            refine c_zipT (K := K) (xs := xa) (ys := xb') (by rw [ra'.len, rb'.len, qa.1, qb.1]) (fun j H' => ∃ (acc : List V) (qs : List (Int × Int)), H' D = some (.lst acc) ∧ TtL K H' acc (qs.map frD) ∧ qs.length = j ∧ (∀ q ∈ qs, Ent (i + 1) q) ∧ TI K w l1 l2 l3 H1 (1 + k0).toNat i rows sprs blks xr xs H' ∧ Same H10 H') ⟨[], [], upd_same, .nil, rfl, by simp, TA.new hD, same_new hD⟩ ?_ ?_ ?_
            · rintro j H' ⟨_, _, _, _, _, _, _, sm⟩
              exact ⟨Same.sqT sm sa, Same.sqT sm sb⟩
            · rintro j x y Tz H' hx hy ⟨acc, qs, hacc, tacc, lq', eq', TI', sm⟩ hT
              have sm2 := sm.trans (same_new (o := .tup [x, y]) hT)
              obtain ⟨qx, hqx, tx⟩ := (ra'.tk (TK.same sm2)).nth hx
              obtain ⟨qy, hqy, ty⟩ := (rb'.tk (TK.same sm2)).nth hy
              have ex := qa.2 qx (List.mem_of_getElem? hqx)
              have ey := qb.2 qy (List.mem_of_getElem? hqy)
              obtain ⟨ax, rfl, sx⟩ := tt_fr tx
              obtain ⟨ay, rfl, sy⟩ := tt_fr ty
              have ix : i ≤ 10 := by omega
              have bx := ex.lt ix
              have by' := ey.lt ix
              rw [show wipe [some (V.ref w), some (V.int most), some (V.int (1 + k0)), some (V.ref l1), some (V.ref l2), some (V.ref l3), some (V.int (1 + k1)), some (V.int kz), some (V.int (0 + i)), some v, some (V.ref aa), some (V.ref ab), u12, u13] (List.map (fun x => x.snd) [(Str.ofString "_law_x", 12), (Str.ofString "_law_y", 13)]) = [some (V.ref w), some (V.int most), some (V.int (1 + k0)), some (V.ref l1), some (V.ref l2), some (V.ref l3), some (V.int (1 + k1)), some (V.int kz), some (V.int (0 + i)), some v, some (V.ref aa), some (V.ref ab), none, none] from rfl]
              wtm_at "go"
              refine ⟨rfl, ?_⟩
              wtm_at "go"
              have up : (2 : Nat) ^ 120 ≤ 2 ^ 4000 := Nat.pow_le_pow_right (by decide) (by decide)
              refine ⟨ax, ay, qx, qy, rfl, sx, sy, ex.1, ey.1, Nat.lt_of_lt_of_le bx.1 up, Nat.lt_of_lt_of_le bx.2 up, Nat.lt_of_lt_of_le by'.1 up, Nat.lt_of_lt_of_le by'.2 up, fun p hp => ?_⟩
              have sm3 := (same_new (o := .tup [V.ref ax, V.ref ay]) hT).trans (same_new (o := .tup [V.int (leanF (qx.1 * qy.2 - qy.1 * qx.2) (qx.2 * qy.2)).1, V.int (leanF (qx.1 * qy.2 - qy.1 * qx.2) (qx.2 * qy.2)).2]) hp)
              have hD2 := sm3 _ _ hacc
              have tk4 := TK.put (o := .lst (acc ++ [V.ref p])) hD2
              have nD : ∀ b o, H10 b = some o → b ≠ D := fun b o e => ne_of_none e hD
              refine ⟨acc, hD2, ?_, acc ++ [V.ref p], qs ++ [leanF (qx.1 * qy.2 - qy.1 * qx.2) (qx.2 * qy.2)], upd_same, ?_, ?_, ?_, ?_, ?_⟩
              · rw [tacc.len, lq']
                have hj : j < xa.length := (List.getElem?_eq_some_iff.mp hx).1
                rw [ra'.len, qa.1] at hj
                exact Nat.lt_of_lt_of_le (show j < 1000 by omega) (by decide)
              · rw [List.map_append]
                exact (TtL.tk tk4 (TtL.tk (TK.same sm3) tacc)).append (.one (.tup (SqT.tk tk4 (SqT.of upd_same)) (.cons (.int _) (.cons (.int _) .nil))))
              · rw [List.length_append, lq']
                rfl
              · intro q hq
                rcases List.mem_append.mp hq with h | h
                · exact eq' q h
                · rw [List.mem_singleton.mp h]
                  exact ex.minus ey
              · have TB := (TI'.new (o := .tup [V.ref ax, V.ref ay]) hT).new (o := .tup [V.int (leanF (qx.1 * qy.2 - qy.1 * qx.2) (qx.2 * qy.2)).1, V.int (leanF (qx.1 * qy.2 - qy.1 * qx.2) (qx.2 * qy.2)).2]) hp
                have nw : w ≠ D := TA.wl.apart hD
                have n1 : l1 ≠ D := nD _ _ TA.h1
                have n2 : l2 ≠ D := nD _ _ TA.h2
                have n3 : l3 ≠ D := nD _ _ TA.h3
                have g1 : (upd _ D (.lst (acc ++ [V.ref p]))) l1 = _ := (upd_ne n1).trans TB.h1
                have g2 : (upd _ D (.lst (acc ++ [V.ref p]))) l2 = _ := (upd_ne n2).trans TB.h2
                have g3 : (upd _ D (.lst (acc ++ [V.ref p]))) l3 = _ := (upd_ne n3).trans TB.h3
                have gk : ∀ b o, b ≠ w → H1 b = some o → (upd _ D (.lst (acc ++ [V.ref p]))) b = some o := fun b o n e => (upd_ne (nD _ _ (TA.kp b o n e))).trans (TB.kp b o n e)
                exact { TB with h1 := g1, t1 := TtL.tk tk4 TB.t1, h2 := g2, t2 := TtL.tk tk4 TB.t2, h3 := g3, kp := gk, wl := wl_own TB.wl nw }
              · intro b o e
                rw [upd_ne (nD _ _ e)]
                exact sm3 _ _ (sm _ _ e)
            · rintro H' ⟨acc, qs, hacc, tacc, lq', eq', TI', sm⟩
              wtm_at "go"
              refine w_tupL (SqL.of hacc) fun p hp => ?_
              wtm_at "go"
              refine ⟨_, qs, _, _, rfl, .tup (SqT.of upd_same) (TtL.tk (TK.same (same_new hp)) tacc), by rw [lq', ra'.len]; exact qa.1, eq', TI'.new hp⟩
          · wtm_at "go"
            exact ⟨_, _, _, _, rfl, dv.tk (TK.kp T7.wl kp8), lr, er7, T8⟩
        · wtm_at "go"
          exact ⟨_, _, _, _, rfl, dv, lr, er7, T7⟩
      · rintro σ' H8 ⟨v8, r8, u10, u11, rfl, dv8, lr8, er8, T8⟩
        wtm_at "go"
        refine w_appV rfl T8.h1 ?_
        wtm_at "go"
        have lim : (i : Int) < 10 := by omega
        have big : (1000 : Nat) < sizeLine := by decide
        refine w_apd T8.h1 (Nat.lt_of_le_of_lt (by rw [T8.t1.len, T8.a1]; omega) big) ?_
        wtm_at "go"
        have w9 : Wl (upd H8 l1 (.lst (xr ++ [v8]))) w := wl_own T8.wl T8.n1
        have e2 : (upd H8 l1 (.lst (xr ++ [v8]))) l2 = some (.lst xs) := (upd_ne T8.n12.symm).trans T8.h2
        have e3 : (upd H8 l1 (.lst (xr ++ [v8]))) l3 = some (.lst (blks.map V.int)) := (upd_ne T8.n13.symm).trans T8.h3
        refine w_appV rfl e2 ?_
        wtm_at "go"
        refine w_dat w9.ne fun H9 v9 s9 d9 => ?_
        wtm_at "go"
        refine one_d ⟨w, _, _, rfl, d9, by simp, by simp, w9.same s9, fun d hd H10 v10 kp10 w10 dv10 => ?_⟩
        have key : ∃ sp : Int × Int, d = frD sp ∧ SprOk sp := by
          simp only [List.mem_cons, List.not_mem_nil, or_false] at hd
          rcases hd with rfl | rfl | rfl | rfl | rfl | rfl | rfl
          · exact ⟨(1, 1), rfl, by simp [SprOk]⟩
          · exact ⟨(1, 1), rfl, by simp [SprOk]⟩
          · exact ⟨(1, 1), rfl, by simp [SprOk]⟩
          · exact ⟨(2, 1), rfl, by simp [SprOk]⟩
          · exact ⟨(1, 2), rfl, by simp [SprOk]⟩
          · exact ⟨(1, 3), rfl, by simp [SprOk]⟩
          · exact ⟨(5, 2), rfl, by simp [SprOk]⟩
        obtain ⟨sp, rfl, osp⟩ := key
        have t10 := dt_fr dv10
        have k10 : Kp w (upd H8 l1 (.lst (xr ++ [v8]))) H10 := (Kp.same s9).trans kp10
        have e2' := k10 _ _ T8.n2.symm e2
        have e3' := k10 _ _ T8.n3.symm e3
        have ls : xs.length = i := by rw [T8.t2.len, T8.a2]
        wtm_at "go"
        refine w_apd e2' (Nat.lt_of_le_of_lt (by omega) big) ?_
        wtm_at "go"
        have wB : Wl (upd H10 l2 (.lst (xs ++ [v10]))) w := wl_own w10 T8.n2
        have e3b : (upd H10 l2 (.lst (xs ++ [v10]))) l3 = some (.lst (blks.map V.int)) := (upd_ne T8.n23.symm).trans e3'
        refine w_appV rfl e3b ?_
        wtm_at "go"
        have fin : ∀ (b : Int) (H5 : Hp), 0 ≤ b ∧ b ≤ 4 → Kp w (upd H10 l2 (.lst (xs ++ [v10]))) H5 → Wl H5 w → Gd.TI K w l1 l2 l3 H1 (1 + k0).toNat (i + 1) (rows ++ [r8]) (sprs ++ [sp]) (blks ++ [b]) (xr ++ [v8]) (xs ++ [v10]) (upd H5 l3 (.lst (blks.map V.int ++ [V.int b]))) := by
          intro b H5 hb k5 w5
          have := T8.step dv8 lr8 er8 k10 w10 t10 osp k5 w5 hb
          rwa [List.map_append] at this
        have l3n : (blks.map V.int).length < sizeLine := by
          rw [List.length_map, T8.a3]
          exact Nat.lt_of_le_of_lt (by omega) big
        refine w_ite (fun c => ?_) (fun c => ?_)
        · wtm_at "go"
          refine ⟨w, kz, rfl, by omega, by omega, wB, fun b b0 b1 H11 kp11 w11 => ?_⟩
          wtm_at "go"
          refine w_apd (kp11 _ _ T8.n3.symm e3b) l3n ?_
          exact ⟨_, _, _, _, _, _, _, _, _, _, _, rfl, fin b H11 ⟨b0, by omega⟩ kp11 w11⟩
        · wtm_at "go"
          refine w_apd e3b l3n ?_
          exact ⟨_, _, _, _, _, _, _, _, _, _, _, rfl, fin 0 _ ⟨by omega, by omega⟩ (Kp.refl _ _) wB⟩
  · rintro σ H' ⟨u8, u9, u10, u11, u12, u13, rows, sprs, blks, xr, xs, rfl, TT⟩
    wtm_at "go"
    refine w_tupL (SqL.of TT.h1) fun p1 zp1 => ?_
    wtm_at "go"
    have T1 := TT.new (o := .tup xr) zp1
    refine w_tupL (SqL.of T1.h2) fun p2 zp2 => ?_
    wtm_at "go"
    have T2 := T1.new (o := .tup xs) zp2
    have tr1 : Tt K (upd (upd H' p1 (.tup xr)) p2 (.tup xs)) (.ref p1) (.tuple (rows.map rowD)) := .tup (SqT.of (hold_new upd_same zp2)) T2.t1
    have tr2 : Tt K (upd (upd H' p1 (.tup xr)) p2 (.tup xs)) (.ref p2) (rowD sprs) := .tup (SqT.of upd_same) T2.t2
    have fin : ∀ (bl : List Int) (H5 : Hp) (v : V), (bl = [] ∨ bl.length = rows.length ∧ ∀ b ∈ bl, 0 ≤ b ∧ b ≤ 4) → Same (upd (upd H' p1 (.tup xr)) p2 (.tup xs)) H5 → Tt K H5 v (.tuple (bl.map .int)) → ∀ q, H5 q = none → Q (.ref q) (upd H5 q (.tup [.ref p1, .ref p2, v])) := by
      intro bl H5 v hb sm tv q hq
      have sm2 := sm.trans (same_new (o := .tup [.ref p1, .ref p2, v]) hq)
      refine hQ ⟨rows, sprs, bl⟩ ⟨?_, ?_, ⟨(1 + k0).toNat, by omega, by omega, fun r hr => (TT.a4 r hr).1⟩, fun r hr q hq => ((TT.a4 r hr).2 q hq).up ?_, ?_, TT.a5, hb⟩ _ _ (kp1.trans (T2.kp.trans (Kp.same sm2))) (T2.wl.same sm2) ?_
      · show 1 ≤ rows.length
        rw [TT.a1]; omega
      · show rows.length ≤ most
        rw [TT.a1]; omega
      · omega
      · show sprs.length = rows.length
        rw [TT.a1, TT.a2]
      · exact .tup (SqT.of upd_same) (.cons (tr1.tk (TK.same sm2)) (.cons (tr2.tk (TK.same sm2)) (.cons (tv.tk (TK.same (same_new hq))) .nil)))
    refine w_ite (fun c => ?_) (fun c => ?_)
    · wtm_at "go"
      refine w_tupL (SqL.of T2.h3) fun p3 zp3 => ?_
      wtm_at "go"
      intro q zq
      exact fin blks _ _ (.inr ⟨by rw [TT.a1, TT.a3], TT.a6⟩) (same_new zp3) (.tup (SqT.of upd_same) (TtL.ints blks)) q zq
    · wtm_at "go"
      intro p3 zp3
      wtm_at "go"
      intro q zq
      exact fin [] _ _ (.inl rfl) (same_new zp3) (.tup (SqT.of upd_same) .nil) q zq
end
end K1

set_option Elab.async false
set_option linter.all false
set_option maxRecDepth 100000
set_option maxHeartbeats 4000000
set_option autoImplicit false
/-! Er: errors as values: made by position and by name, their fields read. -/
namespace Gd
open PySem PySem.HandSPX
section
variable {M : Model} {prog : Program} {w : World} {A : Around} {E : Value → Shared → Prop} {R : Result → Shared → Prop} {h : Heap} {g : Array GenState} {d : Drawn} {t : Nat} {os : OsState}
variable {nm q : Str} {C N : Addr} {bs bm bmB : List Value} {hdct : Bool} {sn : List Str} {sub : List Value} {ab : Bool} {col : Option Bool} {dd : Option Addr} {k0 k1 k2 k3 k5 : Option Value} {B newId initId : String} {kw : List (Str × Value)}
theorem chk_call {rest : List Value} {Q : Unit → Shared → Prop} (hC : h.get? C = some (excClassObj nm q C N bs bm hdct sn sub ab col dd k0 k1 k2 k3 k5 newId))
    (hq : Q () ⟨h, g, d, t, os⟩) : wpAny M A (checkBuiltinCall "type.__call__" ⟨.ref C :: rest, kw⟩) Q E ⟨h, g, d, t, os⟩ := by
  have f3 := tc_sub
  have hT : (⟨h, g, d, t, os⟩ : Shared).TypeIs (.ref C) "type" := ⟨_, hC, rfl⟩
  simp only [checkBuiltinCall, tc_kind, tc_split]
  repeat (any_goals (first | assumption | with_reducible refine wpAny_loadPart_at hC ?_ | with_reducible refine wpAny_onRaise ?_ | with_reducible refine wpAny_map ?_ | wp_step))
theorem chk_new (F : ExcBaseFacts B newId initId bmB) (hT : ∀ X : String, bm.contains (.type X) = bmB.contains (.type X)) {rest : List Value} {Q : Unit → Shared → Prop}
    (hC : h.get? C = some (excClassObj nm q C N bs bm hdct sn sub ab col dd k0 k1 k2 k3 k5 newId)) (hq : Q () ⟨h, g, d, t, os⟩) : wpAny M A (checkBuiltinCall newId ⟨.ref C :: rest, kw⟩) Q E ⟨h, g, d, t, os⟩ := by
  have hcont : (Value.ref C :: bm).contains (.type B) = true := by rw [List.contains_cons, hT, F.hasB, Bool.or_true]
  have hstar := F.noStar
  simp only [checkBuiltinCall, F.newKind, F.newSplit, F.newRow]
  repeat (first | refine wpAny_loadPart_at hC ?_ | (refine wpAny_isSubtype_exc hC ?_; rw [hcont]) | refine wpAny_staticBase_exc hC ?_ | refine wpAny_madeBy_exc hC ?_ | simp only [bne_self_eq_false, Bool.false_eq_true, if_false] | wp_step)
  exact hq
theorem new_kw (F : ExcBaseFacts B newId initId bmB) (hT : ∀ X : String, bm.contains (.type X) = bmB.contains (.type X)) {rest : List Value}
    (hC : h.get? C = some (excClassObj nm q C N bs bm hdct sn sub ab col dd k0 k1 k2 k3 k5 newId))
    (hq : R (.ok (.ret (.ref (h.objs.size + 1)))) ⟨(h.push (W.kdv_tup rest)).push (excO C h.objs.size), g, d, t, os⟩) (hrest : rest.length ≤ sizeLine) :
    codeAny (model prog w) A (.builtin newId ⟨.ref C :: rest, kw⟩) R ⟨h, g, d, t, os⟩ := by
  have hends := F.ends
  have hcB : (Value.ref C :: bm).contains (.type B) = true := by rw [List.contains_cons, hT, F.hasB, Bool.or_true]
  have hcA : (Value.ref C :: bm).contains (.type "AttributeError") = false := by rw [List.contains_cons, hT, F.noAttr]; rfl
  have hcN : (Value.ref C :: bm).contains (.type "NameError") = false := by rw [List.contains_cons, hT, F.noName]; rfl
  refine codeAny_builtinAt F.entry ?_
  unfold Builtin.«BaseException.__new__»
  refine wpAt_bind ?_
  show wpAt _ _ _ (stack >>= _) _ _ _
  refine wpAt_bind (wpAt_stack fun p below => wpAt_of_wpAny ?_)
  wp_walk
  refine wpAt_of_wpAny ?_
  rw [F.owner]
  repeat (first | with_reducible refine wpAny_madeHere_exc F.canon hC ?_ | with_reducible refine wpAny_loadPart_at hC ?_ | (with_reducible refine wpAny_isSubtype_exc hC ?_; first | rw [hcB] | rw [hcA] | rw [hcN]) | wp_step)
  show R _ _
  rw [Heap.size_push]
  exact hq
theorem type_kw (F : ExcBaseFacts B newId initId bmB) (hT : ∀ X : String, bm.contains (.type X) = bmB.contains (.type X)) {rest : List Value} {fI : Addr} {Q : Fin → Shared → Prop}
    (hC : h.get? C = some (excClassObj nm q C N bs bm hdct sn sub ab col dd k0 k1 k2 k3 k5 newId))
    (hi : W.Looks (model prog w) h (typeLookup (.ref C) "__init__") (some (.ref fI))) (hb : ∀ self, W.Looks (model prog w) h (bindSpecial (.ref fI) self) (.ref fI, [self])) (hrest : rest.length ≤ sizeLine)
    (hq : codeAny (model prog w) A (.call (.ref fI) ⟨.ref (h.objs.size + 1) :: rest, kw⟩)
      (fun r s' => match r with | .ok (.ret v) => v = .none ∧ Q (.done (.ret (.ref (h.objs.size + 1)))) s' | .ok _ => False | .error e => E e s')
      ⟨(h.push (W.kdv_tup rest)).push (excO C h.objs.size), g, d, t, os⟩) :
    wpAny (model prog w) A (Builtin.«type.__call__» ⟨.ref C :: rest, kw⟩) Q E ⟨h, g, d, t, os⟩ := by
  repeat (first | with_reducible refine wpAny_loadPart_at hC ?_ | with_reducible refine wpAny_madeBy_exc hC ?_ | wp_step)
  refine codeAny_call_builtin_code (Code.quiet_builtin _ F.quiet) (chk_new F hT hC ?_)
  refine new_kw F hT hC ?_ hrest
  show wpAny _ _ _ _ _ _
  have k : ∀ b o, h.get? b = some o → ((h.push (W.kdv_tup rest)).push (excO C h.objs.size)).get? b = some o := fun b o e => Heap.get?_push_of_some _ (Heap.get?_push_of_some _ e)
  have hC₁ := k _ _ hC
  have hget : ((h.push (W.kdv_tup rest)).push (excO C h.objs.size)).get? (h.objs.size + 1) = some (excO C h.objs.size) := by heap_get
  have hcC : (Value.ref C :: bm).contains (.ref C) = true := by simp
  have i1 := hi.keeps k
  have b1 := (hb (.ref (h.objs.size + 1))).keeps k
  unfold isInstance
  repeat (first | with_reducible refine wpAny_loadPart_at hget ?_ | (with_reducible refine wpAny_isSubtype_exc hC₁ ?_; rw [hcC]) | wp_step)
  show wpAny _ _ (typeLookup (.ref C) _) _ _ _
  refine i1.at ?_
  refine wpAny_holding (wpAny_bind (b1.at ?_))
  refine wpAny_bind (wpAny_call (codeAny_mono hq fun r s' z => ?_))
  rcases r with e | (v | _ | _ | _) <;> first | exact z | exact z.elim | skip
  obtain ⟨rfl, z⟩ := z
  first
    | exact wpAny_pure (wpAny_pure z)
    | (wp_walk; exact z)
/-- C(.., k = ..), C's own __init__ called -/
theorem call_kw (F : ExcBaseFacts B newId initId bmB) (hT : ∀ X : String, bm.contains (.type X) = bmB.contains (.type X)) {rest : List Value} {fI : Addr}
    (hC : h.get? C = some (excClassObj nm q C N bs bm hdct sn sub ab col dd k0 k1 k2 k3 k5 newId))
    (hi : W.Looks (model prog w) h (typeLookup (.ref C) "__init__") (some (.ref fI))) (hb : ∀ self, W.Looks (model prog w) h (bindSpecial (.ref fI) self) (.ref fI, [self])) (hrest : rest.length ≤ sizeLine)
    (hq : codeAny (model prog w) (A.under (.builtin "type.__call__" ⟨.ref C :: rest, kw⟩)) (.call (.ref fI) ⟨.ref (h.objs.size + 1) :: rest, kw⟩) (W.InitBack (h.objs.size + 1) R)
      ⟨(h.push (W.kdv_tup rest)).push (excO C h.objs.size), g, d, t, os⟩) :
    codeAny (model prog w) A (.call (.ref C) ⟨rest, kw⟩) R ⟨h, g, d, t, os⟩ := by
  have f1 := tc_lookup
  have f2 := tc_bind (.ref C)
  have hTy : (⟨h, g, d, t, os⟩ : Shared).TypeIs (.ref C) "type" := ⟨_, hC, rfl⟩
  refine codeAny_of_tree ?_
  show wpAny _ _ (callAny (.ref C) _) _ _ _
  repeat (any_goals (first | assumption | with_reducible refine wpAny_loadPart_at hC ?_ | wp_step))
  refine ⟨rfl, ?_⟩
  refine codeAny_call_builtin_at (Code.quiet_builtin _ (by decide +kernel)) entry_typeCall (chk_call hC (type_kw F hT hC hi hb hrest ?_))
  refine codeAny_mono hq fun r s' z => ?_
  rcases r with e | (v | _ | _ | _) <;> exact z
end
end Gd

set_option Elab.async false
set_option linter.all false
set_option maxRecDepth 100000
set_option maxHeartbeats 4000000
set_option autoImplicit false
/-! Eh: errors as values, by the hand layer. -/
namespace Gd
open PySem PySem.Spec PyProof.Rows L2
/-- an error that keeps a value: at a, of the class at C, f its field -/
def Xo (H : Hp) (a C : Addr) (f : Str) (v : V) : Prop := ∃ d, H a = some (exo a C (some d)) ∧ H d = some (exd d [(f, v)])
/-- self.f = v, on one that has no dict yet -/
def spInit (K : PySem.W.Frag) (f : Str) : Sp := fun vs H Q _ => ∃ (a C : Addr) (v : V), vs = [.ref a, v] ∧ OexC K C ∧ PySem.W.findIn K (.ref C) f = some none ∧ H a = some (exo a C none) ∧
  ∀ dx, H dx = none → dx ≠ a → Q .non (upd (upd H dx (exd dx [(f, v)])) a (exo a C (some dx)))
/-- what the text says of an error class, its name x, at C -/
structure ErC (K : PySem.W.Frag) (mg : Str → Option Value) (x : Str) (C : Addr) : Prop where
  g : mg x = some (.ref C)
  o : OexC K C
  ga : PySem.W.findIn K (.ref C) "__getattribute__" = some (some (.builtin "BaseException.__getattribute__"))
  gg : PySem.W.findIn K (.ref C) "__getattr__" = some none
  hd : PySem.W.hasDictIn K C = true
/-- .. that keeps its argument as the field f -/
structure ErI (P : Program) (w : World) (K : PySem.W.Frag) (mg : Str → Option Value) (base : Heap) (x f : Str) (C : Addr) : Prop where
  c : ErC K mg x C
  no : PySem.W.findIn K (.ref C) f = some none
  ini : ∃ fI fd, PySem.W.findIn K (.ref C) "__init__" = some (some (.ref fI)) ∧ PySem.W.typeIn K (.ref fI) = some (.type "function") ∧ FnOk P w K mg base CX0 1 fI fd ["self", f] (spInit K f) ∧ Binds K fd ["self", f] [] ∧
    ∀ (s : Shared) (u v : Value), BindsTo s fd ⟨[u], [(f, v)]⟩ [("self", u), (f, v)]
section
variable {X : Cx} {pins : List (Addr × Obj)} {σ : L2.St} {H1 : Hp} {s1 : Shared}
/-- C(us, **kw) with C's own __init__: the one value v -/
theorem mk_val {x f : Str} {C : Addr} {Q : VK} {us : List Value} {kw : List (Str × Value)} {u : Value} {v : V} (T : ErI X.prog X.w X.K X.mg X.base x f C) (hr : Room 2 X.A) (I1 : Inv X pins σ H1 s1) (rv : RelV v u) (hus : us.length ≤ 1)
    (hbd : ∀ (fd : FuncData), Binds X.K fd ["self", f] [] → (∀ (s : Shared) (u v : Value), BindsTo s fd ⟨[u], [(f, v)]⟩ [("self", u), (f, v)]) → ∀ (s : Shared) (z : Value), X.K.In s.heap → BindsTo s fd ⟨z :: us, kw⟩ [("self", z), (f, u)])
    (hq : ∀ a d, H1 a = none → H1 d = none → d ≠ a → Q (.ref a) (upd (upd (upd H1 a (exo a C none)) d (exd d [(f, v)])) a (exo a C (some d)))) :
    wpAny (model X.prog X.w) X.A (call (.ref C) us kw) (EP X pins σ Q) X.xe s1 := by
  obtain ⟨fI, fd, iC, tI, F1, hb, hk⟩ := T.ini
  obtain ⟨nm, q, N, bs, bm, sn, sub, ab, col, dd, k0, k1, k2, k3, k5, hC, hbm⟩ := T.c.o.cls
  obtain ⟨hp, g, dr, tk, os⟩ := s1
  have hsz : hp.objs.size ≤ hp.objs.size + 1 := Nat.le_succ _
  have hn : H1 (hp.objs.size + 1) = none := I1.hok.fresh hsz
  have kk : ∀ b o, hp.get? b = some o → ((hp.push (PySem.W.kdv_tup us)).push (PySem.HandSPX.excO C hp.objs.size)).get? b = some o := fun b o e => Heap.get?_push_of_some _ (Heap.get?_push_of_some _ e)
  have hget : ((hp.push (PySem.W.kdv_tup us)).push (PySem.HandSPX.excO C hp.objs.size)).get? (hp.objs.size + 1) = some (PySem.HandSPX.excO C hp.objs.size) := by heap_get
  have I2 : Inv X pins σ (upd H1 (hp.objs.size + 1) (exo (hp.objs.size + 1) C none)) ⟨(hp.push (PySem.W.kdv_tup us)).push (PySem.HandSPX.excO C hp.objs.size), g, dr, tk, os⟩ :=
    I1.laid (t' := tk) (a := hp.objs.size + 1) (o := exo (hp.objs.size + 1) C none) (h' := (hp.push (PySem.W.kdv_tup us)).push (PySem.HandSPX.excO C hp.objs.size)) kk hsz (exo_ok hget)
  have r2 : Vals [V.ref (hp.objs.size + 1), v] [Value.ref (hp.objs.size + 1), u] := .cons rfl (.cons rv .nil)
  have hus2 : us.length ≤ sizeLine := Nat.le_trans hus (by decide)
  have hsp : spInit X.K f [V.ref (hp.objs.size + 1), v] (upd H1 (hp.objs.size + 1) (exo (hp.objs.size + 1) C none)) (fun z H2 => z = .non ∧ Q (.ref (hp.objs.size + 1)) H2) (fun _ _ _ => False) :=
    ⟨_, C, v, rfl, T.c.o, T.no, upd_same, fun dx hdx ne => ⟨rfl, hq _ dx hn (by rwa [upd_ne ne] at hdx) ne⟩⟩
  refine wpAny_call (call_kw F.excBase_ValueError (fun Y => PySem.HandSPX.refsVE_contains Y bm hbm) (I1.kIn _ _ hC) (PySem.W.looks_findIn I1.kIn iC) (fun self => PySem.W.bind_fn I1.kIn self tI) hus2
    (codeAny_mono (F1.run _ X.stack _ _ ⟨Value.ref (hp.objs.size + 1) :: us, kw⟩ _ _ _ _ (hr.make C us kw) (I2.env0.make C us kw) (hbd fd hb hk _ _ I2.kIn) r2 hsp) fun r s' hq' => ?_))
  cases r with
  | error er => exact hq'.elim
  | ok fl =>
    cases fl with
    | ret z =>
      have hq2 := I2.after hq'
      obtain ⟨vz, H2, J, rz, ez, q2⟩ := hq2
      subst ez
      exact ⟨rz, ⟨V.ref (hp.objs.size + 1), H2, J, rfl, q2⟩⟩
    | next => exact False.elim hq'
    | brk => exact False.elim hq'
    | cont => exact False.elim hq'
end
/-- what the making of an error tells -/
def tMkV (C : Addr) (f : Str) (ta : TA) : TE := fun σ H Q => ta σ H fun vs H1 => ∃ v, vs = [v] ∧ ∀ a d, H1 a = none → H1 d = none → d ≠ a → Q (.ref a) (upd (upd (upd H1 a (exo a C none)) d (exd d [(f, v)])) a (exo a C (some d)))
section
variable {X : Cx} {x f : Str} {C : Addr} {e : Expr} {te : TE} {ta : TA} {p pos kpos : Pos}
/-- C(e) -/
theorem pe_exc (T : ErI X.prog X.w X.K X.mg X.base x f C) (hr : Room 2 X.A) (hg : Gl X x) (ha : PA X [e] ta) (hdb : (x == ("__debug__" : Str)) = false := by decide) (he : starEach [e] X.env = (false, eval e X.env) :: starEach [] X.env := by rfl) (hpl : (backTo pos (starEach [] X.env)).any (·.1) = false := by rfl) :
    PE X (.Call (.Name x p) [e] [] pos) (tMkV C f ta) := by
  refine ⟨fun pins s σ H Q I h => ?_⟩
  refine wpAny_Call_Name_kw (ld_glob I hg T.c.g ?_ hdb)
  refine PySem.W.callWith_K (h₀ := X.base) I.ok.mod.kin T.c.o.kC (thn (ha.run pos pins s σ H _ I h) fun us s1 ⟨vs, H1, I1, r1, v, ev, q1⟩ => ⟨I1.kIn, ?_⟩) he hpl
  subst ev
  cases r1 with
  | cons ru rn =>
    cases rn
    exact mk_val T hr I1 ru (by simp) (fun fd hb _ s z X' => hb s [z, _] X' rfl) q1
/-- C(f = e) -/
theorem pe_excK {nm : Option Str} (T : ErI X.prog X.w X.K X.mg X.base x f C) (hr : Room 2 X.A) (hg : Gl X x) (hkw : PK X [⟨nm, e, kpos⟩] ta) (hnm : nm = some f)
    (hall : (backToKw pos (keywordEach [⟨nm, e, kpos⟩] X.env)).all (·.1.isSome) = true := by rfl) (hks : (backToKw pos (keywordEach [⟨nm, e, kpos⟩] X.env)).filterMap (·.1) = [f] := by rfl) (hdb : (x == ("__debug__" : Str)) = false := by decide)
    (hpl : ((backTo pos (starEach [] X.env)).any (·.1) || (backToKw pos (keywordEach [⟨nm, e, kpos⟩] X.env)).any (·.1.isNone)) = false := by rfl) :
    PE X (.Call (.Name x p) [] [⟨nm, e, kpos⟩] pos) (tMkV C f ta) := by
  refine ⟨fun pins s σ H Q I h => wpAny_Call_Name_kw (ld_glob I hg T.c.g (PySem.W.callWith_KW0 (h₀ := X.base) I.ok.mod.kin T.c.o.kC hall (thn (hkw.run pos pins s σ H _ I h) fun ws s2 ⟨zs, H2, I2, rz, v, ev, q2⟩ => ⟨I2.kIn, ?_⟩) hpl) hdb)⟩
  rw [hks]
  subst ev
  cases rz with
  | cons ru rn =>
    cases rn
    exact mk_val (us := []) T hr I2 ru (by simp) (fun fd _ hk s z X' => hk s z _) q2
/-- C(), C without own __init__ -/
theorem pe_exc0 {bmB : List Value} {B newId initId : String} (F : ExcBaseFacts B newId initId bmB) (q : PySem.W.excIn X.K C bmB newId = true) (gC : X.mg x = some (.ref C)) (kC : PySem.W.keepIn X.K (.ref C) = true) (hg : Gl X x)
    (hdb : (x == ("__debug__" : Str)) = false := by decide) :
    PE X (.Call (.Name x p) [] [] pos) (fun σ H Q => ∀ a, H a = none → Q (.ref a) (upd H a (exo a C none))) := by
  refine ⟨fun pins s σ H Q I h => ?_⟩
  refine wpAny_Call_Name_kw (ld_glob I hg gC (PySem.W.callWith_K0 I.kIn kC ?_) hdb)
  obtain ⟨bm, N, nm, qn, bs, hdct, sn, sub, ab, col, dd, k0, k1, k2, k3, k5, mN, hC, hN, hni, T⟩ := exc_obj I.kIn q
  refine wpAny_call_exc_subT F T hC hN hni (fun h' a hm => ?_) (by show 0 ≤ sizeLine; exact Nat.zero_le _)
  have hn : H a = none := I.hok.gone hm.new
  obtain ⟨t, ht, _, _⟩ := hm.there
  exact ⟨.ref a, upd H a (exo a C none), I.laidN hm.keeps hm.new hn (exo_ok ht), rfl, h a hn⟩
/-- e.f -/
def tFld (K : PySem.W.Frag) (f : Str) (te : TE) : TE := fun σ H Q => te σ H fun x H1 => ∃ (a C : Addr) (v : V), x = .ref a ∧ XfC K C ∧ PySem.W.findIn K (.ref C) f = some none ∧ Xo H1 a C f v ∧ Q v H1
theorem pe_eat (he : PE X e te) (hb : attributeBase e f X.env (eval e X.env) = eval e X.env := by rfl) : PE X (.Attribute e f pos) (tFld X.K f te) := by
  refine ⟨fun pins s σ H Q I h => ?_⟩
  refine attr_of hb (thn (he.run pins s σ H _ I h) fun u s1 hh => ?_)
  obtain ⟨x, H1, I1, rx, a, C, v, ex, T, hno, ⟨d, e1, e2⟩, q⟩ := hh
  subst ex
  obtain rfl : u = Value.ref a := rx
  obtain ⟨t1, ho⟩ := exo_at I1.hok e1
  obtain ⟨mA, hns, hr⟩ := exd_at I1.hok e2
  obtain ⟨od, hod, hl⟩ := lookIn_ns hns
  obtain ⟨u, hu, ru⟩ := RelO.some_of (v := v) (o := mA f) (by have := hr f; rwa [show [(f, v)].lookup f = some v by simp [List.lookup]] at this)
  have J : PySem.W.InstAt s1.heap a _ C (some od) := ⟨ho, rfl, rfl, hod⟩
  exact HandSPX.exc_get I1.kIn J T.ga T.gg T.exC (PySem.W.findObj_own T.hdC hno rfl (by rw [hl, hu])) (handed_of ru) ⟨v, H1, I1.tok _, ru, q⟩
end
end Gd

set_option Elab.async false
set_option linter.all false
set_option maxRecDepth 100000
set_option maxHeartbeats 4000000
set_option autoImplicit false
/-! Ei: isinstance of errors as values; what is stepped over. -/
namespace Gd
open PySem PySem.Spec PyProof.Rows L2 RZ
/-- what the class at D must say, so that isinstance asks its instances rightly -/
structure IxC (K : PySem.W.Frag) (D : Addr) : Prop where
  hc : (PySem.W.clsIn K D).isSome = true
  hg : PySem.W.findIn K (.ref D) "__getattribute__" = some (some (.builtin "BaseException.__getattribute__"))
  hk : PySem.W.findIn K (.ref D) "__getattr__" = some none
  hs : PySem.W.subIn K (.ref D) (.type "BaseException") = some true
  ha : PySem.W.findIn K (.ref D) "__class__" = some (some (.builtin "object.__class__"))
  hn : PySem.W.specialIn K (.builtin "object.__class__") "__get__" = some (some (.builtin "getset_descriptor.__get__"))
  ht : PySem.W.takesIn K (.builtin "object.__class__") = some true
  hm : PySem.W.mroIn K D (.type "object") = some true
/-- an error of the class at C -/
def Er (H : Hp) (a C : Addr) : Prop := ∃ d, H a = some (exo a C d) ∧ ∀ dd, d = some dd → ∃ fs, H dd = some (exd dd fs)
theorem Er.same {H H' : Hp} {a C : Addr} (s : Same H H') (h : Er H a C) : Er H' a C := by
  obtain ⟨d, h1, h2⟩ := h
  exact ⟨d, s _ _ h1, fun dd e => let ⟨fs, q⟩ := h2 dd e; ⟨fs, s _ _ q⟩⟩
theorem Xo.same {H H' : Hp} {a C : Addr} {f : Str} {v : V} (s : Same H H') (h : Xo H a C f v) : Xo H' a C f v := by
  obtain ⟨d, h1, h2⟩ := h
  exact ⟨d, s _ _ h1, s _ _ h2⟩
theorem Xo.er {H : Hp} {a C : Addr} {f : Str} {v : V} (h : Xo H a C f v) : Er H a C := by
  obtain ⟨d, h1, h2⟩ := h
  exact ⟨some d, h1, fun dd e => by cases e; exact ⟨_, h2⟩⟩
theorem Er.new {H : Hp} {a C p : Addr} {o : HO} (h : Er H a C) (n : H p = none) : Er (upd H p o) a C := h.same (same_new n)
/-- isinstance(e, c), e an error -/
def rIsX (K : PySem.W.Frag) : List V → Hp → VK → Prop := fun xs H Q => ∃ (a D : Addr) (c : V) (u : Value) (b : Bool), xs = [.ref a, c] ∧ Er H a D ∧ IxC K D ∧ ClsV c u ∧ PySem.W.kitOne K (.ref D) u = some b ∧ Q (.bl b) H
theorem call_isX {X : Cx} : CallR X (.builtin "isinstance") (rIsX X.K) := by
  intro pins s σ H xs us Q I r h
  obtain ⟨a, D, c, u, b, rfl, ⟨d, h1, h2⟩, C, k, e, q⟩ := h
  obtain ⟨u1, u2, rfl, r1, r2⟩ := vals2 r
  have e2 := k.eq r2
  subst e2
  obtain rfl : u1 = Value.ref a := r1
  obtain ⟨t1, ho⟩ := exo_at I.hok h1
  have J : ∃ od, PySem.W.InstAt s.heap a { cls := .ref D, dict := d, data := .fields #[.ref t1, .none, .none, .none, .bool false, .none] } D od := by
    cases d with
    | none => exact ⟨none, ho, rfl, rfl, trivial⟩
    | some dd =>
      obtain ⟨fs, hf⟩ := h2 dd rfl
      obtain ⟨mA, hns, hr⟩ := exd_at I.hok hf
      obtain ⟨od, hod, hl⟩ := lookIn_ns hns
      exact ⟨some od, ho, rfl, rfl, hod⟩
  obtain ⟨od, J⟩ := J
  exact PySem.W.kia_one (PySem.W.kitx_exc C.hc C.hg C.hk C.hs C.ha C.hn C.ht C.hm) I.kIn J e (fun z => nomatch z) fun tk => ⟨.bl b, H, I.tok tk, rfl, q⟩
theorem k_isx {X : Cx} {K : PySem.W.Frag} (e : X.K = K) : CallR X (.builtin "isinstance") (rIsX K) := e ▸ call_isX
theorem k_eat {X : Cx} {K : PySem.W.Frag} {e : Expr} {te : TE} {pos : Pos} {f : Str} (eK : X.K = K) (he : PE X e te) (hb : attributeBase e f X.env (eval e X.env) = eval e X.env := by rfl) : PE X (.Attribute e f pos) (tFld K f te) := eK ▸ pe_eat he hb
section
variable {K : PySem.W.Frag} {σ : L2.St} {H : Hp} {Q : VK} {a D : Addr} {c : V} {u : Value} {b : Bool} {f : Str} {v : V} {ta : TA} {te : TE}
theorem w_isx (h : Er H a D) (C : IxC K D) (k : ClsV c u) (e : PySem.W.kitOne K (.ref D) u = some b) (q : Q (.bl b) H) : rIsX K [.ref a, c] H Q := ⟨a, D, c, u, b, rfl, h, C, k, e, q⟩
theorem w_mk {C : Addr} (h : ta σ H fun vs H1 => ∃ v, vs = [v] ∧ ∀ a d, H1 a = none → H1 d = none → d ≠ a → Q (.ref a) (upd (upd (upd H1 a (exo a C none)) d (exd d [(f, v)])) a (exo a C (some d)))) : tMkV C f ta σ H Q := h
theorem mk_same {H1 : Hp} {a C d : Addr} (ha : H1 a = none) (hd : H1 d = none) (n : d ≠ a) : Same H1 (upd (upd (upd H1 a (exo a C none)) d (exd d [(f, v)])) a (exo a C (some d))) := fun b o e => by
  rw [upd_ne (ne_of_none e ha), upd_ne (ne_of_none e hd), upd_ne (ne_of_none e ha)]
  exact e
theorem mk_xo {H1 : Hp} {a C d : Addr} (n : d ≠ a) : Xo (upd (upd (upd H1 a (exo a C none)) d (exd d [(f, v)])) a (exo a C (some d))) a C f v := ⟨d, upd_same, by rw [upd_ne n]; exact upd_same⟩
theorem w_mk1 {C : Addr} (h : ∀ a H2, H a = none → Same H H2 → Xo H2 a C f v → Q (.ref a) H2) : ∃ v', [v] = [v'] ∧ ∀ a d, H a = none → H d = none → d ≠ a → Q (.ref a) (upd (upd (upd H a (exo a C none)) d (exd d [(f, v')])) a (exo a C (some d))) :=
  ⟨v, rfl, fun a d ha hd n => h a _ ha (mk_same ha hd n) (mk_xo n)⟩
theorem w_enum {R : It → Hp → Prop} (h : ta σ H fun vs H1 => ∃ a xs, vs = [.ref a] ∧ SqL K H1 a xs ∧ R (Ite K a) H1) : iEnum K ta σ H R := h
theorem w_rng1 {R : It → Hp → Prop} (h : ta σ H fun vs H1 => ∃ j : Int, vs = [.int j] ∧ -(2 ^ 62) ≤ j ∧ j < 2 ^ 62 ∧ R (Itr 0 j.toNat) H1) : iRng1 ta σ H R := h
theorem w_list {tl : TE} {R : It → Hp → Prop} (h : tl σ H fun x H1 => ∃ a, x = .ref a ∧ (∃ xs, SqL K H1 a xs) ∧ R (Itl K a) H1) : iList K tl σ H R := h
theorem w_neSame {z : Str} (q : Q (.bl false) H) : rNeA K (.str z) (.str z) H Q := by
  refine w_neS rfl ?_
  rw [decide_eq_true rfl]
  exact q
theorem w_eq2 {x y : V} (e : x = y) (s : scal x x = true) (q : Q (.bl true) H) : rEqA K x y H Q := by
  subst e
  refine w_eqS s ?_
  rw [decide_eq_true rfl]
  exact q
theorem w_fld (h : te σ H fun x H1 => ∃ (a C : Addr) (v : V), x = .ref a ∧ XfC K C ∧ PySem.W.findIn K (.ref C) f = some none ∧ Xo H1 a C f v ∧ Q v H1) : tFld K f te σ H Q := h
theorem w_catL {x y : Addr} {xs ys : List V} (h1 : H x = some (.lst xs)) (h2 : H y = some (.lst ys)) (z : xs.length + ys.length ≤ 1000) (h : ∀ p, H p = none → Q (.ref p) (upd H p (.lst (xs ++ ys)))) : rAddA K (.ref x) (.ref y) H Q :=
  .inr (.inr ⟨x, y, xs, ys, rfl, rfl, h1, h2, Nat.le_trans z (by decide), h⟩)
theorem w_repL {x : Addr} {xs : List V} {k : Int} (h1 : H x = some (.lst xs)) (h2 : 0 ≤ k) (h3 : k < 1000) (z : xs.length * k.toNat ≤ 1000) (h : ∀ p, H p = none → Q (.ref p) (upd H p (.lst (List.replicate k.toNat xs).flatten))) : rMulA K (.ref x) (.int k) H Q :=
  .inr (.inr ⟨x, k, xs, rfl, rfl, h1, by omega, by omega, Nat.le_trans z (by decide), h⟩)
theorem w_all {bs : List Bool} (h : SqL K H a (bs.map V.bl)) (q : Q (.bl (bs.all id)) H) : rAll K [.ref a] H Q := ⟨a, bs, rfl, h, q⟩
theorem w_rep {d : PyData} {w : Addr} (h : Dt w K H (.ref a) d) (h1 : d.showable = true) (h2 : d.depth ≤ 100) (h3 : d.shown.length ≤ sizeLine) (q : Q (.str d.shown) H) : rRepr K [.ref a] H Q := ⟨w, a, d, rfl, h, h1, h2, h3, q⟩
end
theorem Kp.same_of {w : Addr} {H H1 H2 : Hp} (n : H w = none) (s : Same H H1) (k : Kp w H1 H2) : Same H H2 := fun b o e => k b o (ne_of_none e n) (s b o e)
theorem u150 {k : Nat} {A : Around} (r : Room k A) : A.units + 150 < cLine := by have := r.un; omega
section
variable {K : PySem.W.Frag} {g : TG} {tt : TT} {te : TE} {vs : List Nat} {σ : L2.St} {H1 : Hp} {D : Addr} {Qd : Hp → Prop} {a : Addr} {xs : List V}
theorem same_put {H H' : Hp} {D : Addr} {o : HO} (h : H D = none) (s : Same H H') : Same H (upd H' D o) := fun b u e => by
  rw [upd_ne (ne_of_none e h)]
  exact s b u e
/-- a comprehension's turns -/
abbrev LcW (J : It) (g : TG) (tt : TT) (te : TE) (vs : List Nat) (σ : L2.St) (H1 : Hp) (D : Addr) (Q : Hp → Prop) : Prop := ∃ W : Nat → Nat → Hp → Prop, (∃ m, W 0 m (upd H1 D (.lst []))) ∧ ∀ i m H, W i m H →
      (J.stop i H ∧ Q H) ∨ (J.go i H ∧ ∃ Nx : Hp → Prop, (∀ H', Nx H' → ∃ m', m' < m ∧ W (i + 1) m' H') ∧ ∀ x H', J.yld i H x H' → g x (wipe σ vs) H' fun σ2 H2 => wipe σ2 vs = wipe σ vs ∧ tt σ2 H2 fun b H3 =>
        if b = true then te σ2 H3 fun y H4 => ∃ acc, H4 D = some (.lst acc) ∧ acc.length < sizeLine ∧ Nx (upd H4 D (.lst (acc ++ [y]))) else Nx H3)
/-- what stands between the turns: the list so far, and the rest as it stood -/
structure PvA (Ac : Nat → List V → Prop) (H1 : Hp) (D : Addr) (i : Nat) (H : Hp) : Prop where
  ex : ∃ acc, H D = some (.lst acc) ∧ acc.length ≤ i ∧ Ac i acc ∧ Same H1 H
theorem PvA.put {Ac : Nat → List V → Prop} {i : Nat} {acc : List V} {H H4 : Hp} {y : V} (hD : H1 D = none) (e : H D = some (.lst acc)) (l : acc.length ≤ i) (s : Same H1 H) (hi : i ≤ 1000) (s4 : Same H H4) (h : Ac (i + 1) (acc ++ [y])) :
    ∃ acc, H4 D = some (.lst acc) ∧ acc.length < sizeLine ∧ PvA Ac H1 D (i + 1) (upd H4 D (.lst (acc ++ [y]))) :=
  ⟨acc, s4 _ _ e, Nat.lt_of_le_of_lt (Nat.le_trans l hi) (by decide), ⟨acc ++ [y], upd_same, by rw [List.length_append]; simpa using l, h, same_put hD (s.trans s4)⟩⟩
theorem PvA.skip {Ac : Nat → List V → Prop} {i : Nat} {acc : List V} {H H4 : Hp} (e : H D = some (.lst acc)) (l : acc.length ≤ i) (s : Same H1 H) (s4 : Same H H4) (h : Ac (i + 1) acc) : PvA Ac H1 D (i + 1) H4 :=
  ⟨acc, s4 _ _ e, Nat.le_succ_of_le l, h, s.trans s4⟩
/-- one turn's duty, x taken at the heap H -/
abbrev LcT (g : TG) (tt : TT) (te : TE) (vs : List Nat) (σ : L2.St) (D : Addr) (P : Hp → Prop) (x : V) (H : Hp) : Prop := g x (wipe σ vs) H fun σ2 H2 => wipe σ2 vs = wipe σ vs ∧ tt σ2 H2 fun b H3 =>
        if b = true then te σ2 H3 fun y H4 => ∃ acc, H4 D = some (.lst acc) ∧ acc.length < sizeLine ∧ P (upd H4 D (.lst (acc ++ [y]))) else P H3
/-- over a list -/
theorem c_lst (Ac : Nat → List V → Prop) (hD : H1 D = none) (hx : SqL K H1 a xs) (h0 : Ac 0 [])
    (hs : ∀ i x acc H, xs[i]? = some x → H D = some (.lst acc) → acc.length ≤ i → Ac i acc → Same H1 H → LcT g tt te vs σ D (PvA Ac H1 D (i + 1)) x H)
    (hd : ∀ acc H, H D = some (.lst acc) → Ac xs.length acc → Same H1 H → Qd H) : LcW (Itl K a) g tt te vs σ H1 D Qd := by
  refine ⟨fun i m H => m = xs.length - i ∧ i ≤ xs.length ∧ PvA Ac H1 D i H, ⟨xs.length, by simp, Nat.zero_le _, ⟨[], upd_same, Nat.le_refl _, h0, same_put hD (Same.refl _)⟩⟩, ?_⟩
  rintro i m H ⟨rfl, hi, ⟨acc, e, l, ac, s⟩⟩
  have hq := s.seq hx
  by_cases hlt : i < xs.length
  · have hx' : xs[i]? = some xs[i] := List.getElem?_eq_getElem hlt
    refine .inr ⟨⟨xs, _, hq, hx'⟩, PvA Ac H1 D (i + 1), fun H' p' => ⟨xs.length - (i + 1), by omega, rfl, hlt, p'⟩, ?_⟩
    rintro x _ ⟨rfl, hxx⟩
    exact hs i x acc _ (hxx xs hq) e l ac s
  · obtain rfl : i = xs.length := by omega
    exact .inl ⟨⟨xs, hq, Nat.le_refl _⟩, hd acc H e ac s⟩
/-- over enumerate of a list -/
theorem c_enu (Ac : Nat → List V → Prop) (hD : H1 D = none) (hx : SqL K H1 a xs) (h0 : Ac 0 [])
    (hs : ∀ i x acc H T, xs[i]? = some x → H D = some (.lst acc) → acc.length ≤ i → Ac i acc → Same H1 H → H T = none → LcT g tt te vs σ D (PvA Ac H1 D (i + 1)) (.ref T) (upd H T (.tup [.int (i : Nat), x])))
    (hd : ∀ acc H, H D = some (.lst acc) → Ac xs.length acc → Same H1 H → Qd H) : LcW (Ite K a) g tt te vs σ H1 D Qd := by
  refine ⟨fun i m H => m = xs.length - i ∧ i ≤ xs.length ∧ PvA Ac H1 D i H, ⟨xs.length, by simp, Nat.zero_le _, ⟨[], upd_same, Nat.le_refl _, h0, same_put hD (Same.refl _)⟩⟩, ?_⟩
  rintro i m H ⟨rfl, hi, ⟨acc, e, l, ac, s⟩⟩
  have hq := s.seq hx
  by_cases hlt : i < xs.length
  · have hx' : xs[i]? = some xs[i] := List.getElem?_eq_getElem hlt
    refine .inr ⟨⟨xs, _, hq, hx'⟩, PvA Ac H1 D (i + 1), fun H' p' => ⟨xs.length - (i + 1), by omega, rfl, hlt, p'⟩, ?_⟩
    rintro _ _ ⟨T, x, rfl, hT, rfl, hxx⟩
    exact hs i x acc H T (hxx xs hq) e l ac s hT
  · obtain rfl : i = xs.length := by omega
    exact .inl ⟨⟨xs, hq, Nat.le_refl _⟩, hd acc H e ac s⟩
/-- over a range -/
theorem c_rng {lo : Int} {n : Nat} (Ac : Nat → List V → Prop) (hD : H1 D = none) (h0 : Ac 0 [])
    (hs : ∀ (i : Nat) acc H, i < n → H D = some (.lst acc) → acc.length ≤ i → Ac i acc → Same H1 H → LcT g tt te vs σ D (PvA Ac H1 D (i + 1)) (.int (lo + i)) H)
    (hd : ∀ acc H, H D = some (.lst acc) → Ac n acc → Same H1 H → Qd H) : LcW (Itr lo n) g tt te vs σ H1 D Qd := by
  refine ⟨fun i m H => m = n - i ∧ i ≤ n ∧ PvA Ac H1 D i H, ⟨n, by simp, Nat.zero_le _, ⟨[], upd_same, Nat.le_refl _, h0, same_put hD (Same.refl _)⟩⟩, ?_⟩
  rintro i m H ⟨rfl, hi, ⟨acc, e, l, ac, s⟩⟩
  by_cases hlt : i < n
  · refine .inr ⟨hlt, PvA Ac H1 D (i + 1), fun H' p' => ⟨n - (i + 1), by omega, rfl, hlt, p'⟩, ?_⟩
    rintro x _ ⟨rfl, rfl⟩
    exact hs i acc _ hlt e l ac s
  · obtain rfl : i = n := by omega
    exact .inl ⟨Nat.le_refl _, hd acc H e ac s⟩
end
end Gd

set_option Elab.async false
set_option linter.all false
set_option maxRecDepth 100000
set_option maxHeartbeats 4000000
set_option autoImplicit false
/-! Sz: data small enough to be printed. -/
namespace Gd
open PySem PySem.Spec PyProof.Rows L2 RZ
open PySem.PyData
/-- data that can be printed: ints of up to 121 bits, at most c cells, at most k deep -/
structure Sm (c k : Nat) (d : PyData) : Prop where
  sh : d.showable = true
  lv : d.leavesShort 130 = true
  bk : d.bulk ≤ c
  dp : d.depth ≤ k
structure SmL (n c k : Nat) (ds : List PyData) : Prop where
  len : ds.length ≤ n
  all : ∀ d ∈ ds, Sm c k d
theorem showAll : ∀ {ds : List PyData}, (∀ d ∈ ds, d.showable = true) → showableAll ds = true
  | [], _ => by simp [showableAll]
  | d :: ds, h => by
    simp only [showableAll, Bool.and_eq_true]
    exact ⟨h d (List.mem_cons_self ..), showAll fun x m => h x (List.mem_cons_of_mem _ m)⟩
theorem leavAll {B : Nat} : ∀ {ds : List PyData}, (∀ d ∈ ds, d.leavesShort B = true) → leavesShortAll B ds = true
  | [], _ => by simp [leavesShortAll]
  | d :: ds, h => by
    simp only [leavesShortAll, Bool.and_eq_true]
    exact ⟨h d (List.mem_cons_self ..), leavAll fun x m => h x (List.mem_cons_of_mem _ m)⟩
theorem bulkAll' {c : Nat} : ∀ {ds : List PyData}, (∀ d ∈ ds, d.bulk ≤ c) → bulkAll ds ≤ ds.length * (c + 1)
  | [], _ => by simp [bulkAll]
  | d :: ds, h => by
    have h1 := h d (List.mem_cons_self ..)
    have h2 := bulkAll' fun x m => h x (List.mem_cons_of_mem _ m)
    simp only [bulkAll, List.length_cons, Nat.succ_mul]
    omega
theorem depAll' {k : Nat} : ∀ {ds : List PyData}, (∀ d ∈ ds, d.depth ≤ k) → depthAll ds ≤ k
  | [], _ => by simp [depthAll]
  | d :: ds, h => by
    have h1 := h d (List.mem_cons_self ..)
    have h2 := depAll' fun x m => h x (List.mem_cons_of_mem _ m)
    simp only [depthAll]
    omega
section
variable {n c k : Nat} {ds : List PyData}
theorem SmL.b (h : SmL n c k ds) : bulkAll ds ≤ n * (c + 1) := Nat.le_trans (bulkAll' fun d m => (h.all d m).bk) (Nat.mul_le_mul_right _ h.len)
theorem SmL.tup (h : SmL n c k ds) : Sm (n * (c + 1)) (k + 1) (.tuple ds) := by
  refine ⟨?_, ?_, ?_, ?_⟩
  · simp only [showable]; exact showAll fun d m => (h.all d m).sh
  · simp only [leavesShort]; exact leavAll fun d m => (h.all d m).lv
  · simp only [bulk]; exact h.b
  · simp only [depth]
    have := depAll' fun d m => (h.all d m).dp
    omega
theorem SmL.lst (h : SmL n c k ds) : Sm (n * (c + 1)) (k + 1) (.list ds) := by
  refine ⟨?_, ?_, ?_, ?_⟩
  · simp only [showable]; exact showAll fun d m => (h.all d m).sh
  · simp only [leavesShort]; exact leavAll fun d m => (h.all d m).lv
  · simp only [bulk]; exact h.b
  · simp only [depth]
    have := depAll' fun d m => (h.all d m).dp
    omega
theorem Sm.up {c' k' : Nat} {d : PyData} (h : Sm c k d) (h1 : c ≤ c') (h2 : k ≤ k') : Sm c' k' d := ⟨h.sh, h.lv, Nat.le_trans h.bk h1, Nat.le_trans h.dp h2⟩
theorem Sm.fits {d : PyData} (h : Sm c k d) (hc : c ≤ 100000) : d.shown.length ≤ sizeLine := by
  have e := shown_le_bulk 130 (by decide) d h.lv
  have e2 : (130 + 2) * d.bulk ≤ 132 * 100000 := Nat.mul_le_mul_left _ (Nat.le_trans h.bk hc)
  rw [sizeLine_eq]
  omega
theorem sm_int {i : Int} (h : i.natAbs < 2 ^ 120) : Sm 0 0 (.int i) := by
  have l : i.natAbs.log2 < 121 := by
    by_cases z : i.natAbs = 0
    · rw [z]; decide
    · exact (Nat.log2_lt z).mpr (Nat.lt_of_lt_of_le h (Nat.pow_le_pow_right (by decide) (by decide)))
  refine ⟨?_, ?_, ?_, ?_⟩
  · simp only [showable, decide_eq_true_eq]
    omega
  · simp only [leavesShort, decide_eq_true_eq]
    have e := int_text_length_le (k := 121) (by decide) l
    rw [shown_int, PySem.ofString_length]
    omega
  · simp [bulk]
  · simp [depth]
/-- n of a small datum in a list -/
theorem Sm.reps {d : PyData} (h : Sm 2000 20 d) {n : Nat} (hn : n ≤ 11) : (PyData.list (List.replicate n d)).showable = true ∧ (PyData.list (List.replicate n d)).depth ≤ 100 ∧ (PyData.list (List.replicate n d)).shown.length ≤ sizeLine := by
  have q : Sm (n * 2001) 21 (.list (List.replicate n d)) := SmL.lst (n := n) (c := 2000) (k := 20) ⟨by rw [List.length_replicate]; exact Nat.le_refl _, fun x m => by rw [(List.mem_replicate.mp m).2]; exact h⟩
  exact ⟨q.sh, Nat.le_trans q.dp (by decide), q.fits (by omega)⟩
theorem sm_fr {q : Int × Int} (h : q.1.natAbs < 2 ^ 120 ∧ q.2.natAbs < 2 ^ 120) : Sm 2 1 (frD q) := by
  refine SmL.tup (n := 2) (c := 0) (k := 0) ⟨by simp, fun d m => ?_⟩
  simp only [List.mem_cons, List.not_mem_nil, or_false] at m
  rcases m with rfl | rfl
  · exact sm_int h.1
  · exact sm_int h.2
theorem sm_row {qs : List (Int × Int)} {n : Nat} (hn : qs.length ≤ n) (h : ∀ q ∈ qs, q.1.natAbs < 2 ^ 120 ∧ q.2.natAbs < 2 ^ 120) : Sm (n * 3) 2 (rowD qs) := by
  refine SmL.tup (n := n) (c := 2) (k := 1) ⟨by rw [List.length_map]; exact hn, fun d m => ?_⟩
  obtain ⟨q, hq, rfl⟩ := List.mem_map.mp m
  exact sm_fr (h q hq)
theorem Trl.Ok.sm {t : Trl} {most : Nat} (h : t.Ok most) (hm : most ≤ 10) : Sm 2000 20 t.d := by
  obtain ⟨k, k1, k5, hk⟩ := h.wide
  have n2 := h.n2
  have r : Sm (10 * 16) 3 (.tuple (t.rows.map rowD)) := by
    refine SmL.tup (n := 10) (c := 15) (k := 2) ⟨by rw [List.length_map]; omega, fun d m => ?_⟩
    obtain ⟨q, hq, rfl⟩ := List.mem_map.mp m
    exact sm_row (n := 5) (by rw [hk q hq]; exact k5) fun x hx => (h.ent q hq x hx).lt (Nat.le_refl _)
  have s : Sm (10 * 3) 2 (rowD t.spreads) := sm_row (by rw [h.spl]; omega) fun x hx => by
    have q := h.spr x hx
    unfold SprOk at q
    simp only [List.mem_cons, List.not_mem_nil, or_false] at q
    rcases q with rfl | rfl | rfl | rfl | rfl <;> constructor <;> decide
  have b : Sm (10 * 1) 1 (.tuple (t.blocks.map .int)) := by
    refine SmL.tup (n := 10) (c := 0) (k := 0) ⟨?_, fun d m => ?_⟩
    · rw [List.length_map]
      rcases h.bl with e | e
      · rw [e]; simp
      · omega
    · obtain ⟨q, hq, rfl⟩ := List.mem_map.mp m
      rcases h.bl with e | e
      · rw [e] at hq; cases hq
      · have := e.2 q hq
        refine sm_int (Nat.lt_of_lt_of_le (show q.natAbs < 5 by omega) ?_)
        decide
  refine (SmL.tup (n := 3) (c := 160) (k := 3) ⟨by simp, fun d m => ?_⟩).up (by decide) (by decide)
  simp only [List.mem_cons, List.not_mem_nil, or_false] at m
  rcases m with rfl | rfl | rfl
  · exact r
  · exact s.up (by decide) (by decide)
  · exact b.up (by decide) (by decide)
end
end Gd

set_option Elab.async false
set_option linter.all false
set_option maxRecDepth 100000
set_option maxHeartbeats 4000000
set_option autoImplicit false
namespace K1
open PySem PySem.Spec PyProof.Rows L2 RZ Gd
local macro_rules | `(tactic| wtm_at "ix") => `(tactic| first | exact at_0 | exact at_1 | exact at_2 | exact at_3 | exact at_4 | exact at_5 | exact ix_0 | exact ix_1 | exact ix_2 | exact ix_3)
local macro_rules | `(tactic| wtm_at "st") => `(tactic| first | assumption | exact upd_same | (with_reducible refine' hold_new ?hA ?hB; (case hB => assumption); (case hA => wtm_at "st")))
local macro_rules | `(tactic| wtm_at "rl") => `(tactic| first | assumption | (refine' SqL.of ?hC; (case hC => wtm_at "st")) | (refine' SqT.of ?hC; (case hC => wtm_at "st")))
local macro_rules | `(tactic| wtm_at "rd") => `(tactic| first
  | with_reducible refine w_seq ?_
  | with_reducible refine w_asg ?_
  | with_reducible refine w_ret ?_
  | with_reducible refine w_op ?_
  | with_reducible refine w_cb ?_
  | with_reducible refine w_cons ?_
  | with_reducible refine w_nil ?_
  | with_reducible refine w_c ?_
  | with_reducible refine w_if ?_
  | with_reducible refine w_test ?_
  | with_reducible refine w_un ?_
  | with_reducible refine w_tup ?_
  | with_reducible refine w_lst ?_
  | with_reducible refine w_call ?_
  | with_reducible refine w_and ?_
  | with_reducible refine w_or ?_
  | with_reducible refine w_not ?_
  | with_reducible refine w_ife ?_
  | with_reducible refine w_tB ?_
  | with_reducible refine w_andV ?_
  | with_reducible refine w_orV ?_
  | with_reducible refine w_notV ?_
  | with_reducible refine w_sub ?_
  | with_reducible refine w_gcons ?_
  | with_reducible refine w_gnil ?_
  | with_reducible refine w_next ?_
  | with_reducible refine w_drop ?_
  | with_reducible refine w_retN ?_
  | with_reducible refine w_brk ?_
  | with_reducible refine w_cont ?_
  | with_reducible refine w_bl ?_
  | with_reducible refine w_gt ?_
  | with_reducible refine w_ge ?_
  | with_reducible refine w_lt ?_
  | with_reducible refine w_le ?_
  | with_reducible refine w_subI ?_
  | with_reducible refine w_neg ?_
  | with_reducible refine w_addI ?_
  | with_reducible refine w_int ?_
  | with_reducible refine w_intB ?_
  | with_reducible refine w_abs ?_
  | with_reducible refine w_iteT ?_
  | with_reducible refine w_iteF ?_
  | with_reducible refine w_par ?_
  | with_reducible refine w_par3 ?_
  | with_reducible refine w_sl ?_
  | with_reducible refine w_nop ?_
  | with_reducible refine w_part ?_
  | with_reducible refine w_vint ?_
  | with_reducible refine w_vbl2 ?_
  | with_reducible refine w_vbl3 ?_
  | with_reducible refine w_lc ?_
  | with_reducible refine w_list ?_
  | with_reducible refine w_enum ?_
  | with_reducible refine w_fld ?_
  | with_reducible refine w_mk ?_
  | with_reducible refine w_yes ?_
  | with_reducible refine w_iz ?_
  | with_reducible refine w_var0 ?_
  | with_reducible refine w_var1 ?_
  | with_reducible refine w_var2 ?_
  | with_reducible refine w_var3 ?_
  | with_reducible refine w_var4 ?_
  | with_reducible refine w_var5 ?_
  | with_reducible refine w_var6 ?_
  | with_reducible refine w_var7 ?_
  | with_reducible refine w_var8 ?_
  | with_reducible refine w_var9 ?_
  | with_reducible refine w_var10 ?_
  | with_reducible refine w_var11 ?_
  | with_reducible refine w_var12 ?_
  | with_reducible refine w_var13 ?_
  | with_reducible refine w_var14 ?_
  | with_reducible refine w_var15 ?_
  | with_reducible refine w_nam0 ?_
  | with_reducible refine w_nam1 ?_
  | with_reducible refine w_nam2 ?_
  | with_reducible refine w_nam3 ?_
  | with_reducible refine w_nam4 ?_
  | with_reducible refine w_nam5 ?_
  | with_reducible refine w_nam6 ?_
  | with_reducible refine w_nam7 ?_
  | with_reducible refine w_nam8 ?_
  | with_reducible refine w_nam9 ?_
  | with_reducible refine w_nam10 ?_
  | with_reducible refine w_nam11 ?_
  | with_reducible refine w_nam12 ?_
  | with_reducible refine w_nam13 ?_
  | with_reducible refine w_nam14 ?_
  | with_reducible refine w_nam15 ?_
  | (with_reducible refine' w_eqS ?hs ?_; (case hs => with_unfolding_all rfl))
  | (with_reducible refine' w_neS ?hs ?_; (case hs => with_unfolding_all rfl))
  | (with_reducible refine' w_len ?hs ?_; (case hs => (simp only [List.length_cons, List.length_nil]; omega)))
  | (with_reducible refine' w_slL ?hs ?_; (case hs => wtm_at "rl"))
  | (with_reducible refine' w_mulI ?hs ?_; (case hs => (first | (refine cmul_r ?_; (constructor <;> omega)) | (refine cmul_l ?_; (constructor <;> omega)) | assumption)))
  | (with_reducible refine' w_mod ?hs ?_; (case hs => (first | omega | assumption)))
  | (with_reducible refine' w_div ?hs ?_; (case hs => (first | assumption | (refine cdiv_s ?_ ?_ <;> omega))))
  | (with_reducible refine' w_ixL ?hs ?ht ?_; (case hs => wtm_at "rl"); (case ht => wtm_at "ix"))
  | (with_reducible refine' w_ixT ?hs ?ht ?_; (case hs => wtm_at "rl"); (case ht => wtm_at "ix"))
  | (with_reducible refine' w_set0 ?hs ?_; (case hs => wtm_at "st"))
  | (with_reducible refine' w_set1 ?hs ?_; (case hs => wtm_at "st"))
  | (with_reducible refine' w_set2 ?hs ?_; (case hs => wtm_at "st"))
  | (with_reducible refine' w_lenL ?hs ?_; (case hs => wtm_at "rl"))
  | (with_reducible refine' w_lenT ?hs ?_; (case hs => wtm_at "rl"))
  | (with_reducible refine' w_gtup ?hs ?ht ?_; (case hs => wtm_at "rl"); (case ht => with_unfolding_all rfl))
  | rw [List.set_cons_zero]
  | rw [List.set_cons_succ]
  | rw [Bool.not_true]
  | rw [Bool.not_false])
local macro_rules | `(tactic| wtm_at "go") => `(tactic| repeat wtm_at "rd")
section
variable {P : Program} {w : World} {K : PySem.W.Frag} {mg : Str → Option Value} {base : Heap}
end
/-- what the written part says of the error classes: C i the i-th's place, C 21 the base's -/
structure Ec (P : Program) (w : World) (K : PySem.W.Frag) (mg : Str → Option Value) (base : Heap) (C : Nat → Addr) : Prop where
  g_InvalidTrial : mg "InvalidTrial" = some (.ref (C 0))
  g_InvalidWorld : mg "InvalidWorld" = some (.ref (C 1))
  g_InvalidQuestion : mg "InvalidQuestion" = some (.ref (C 2))
  g_InvalidTelling : mg "InvalidTelling" = some (.ref (C 3))
  g_InvalidTable : mg "InvalidTable" = some (.ref (C 4))
  g_InvalidShares : mg "InvalidShares" = some (.ref (C 5))
  g_InvalidNumber : mg "InvalidNumber" = some (.ref (C 6))
  g_InvalidName : mg "InvalidName" = some (.ref (C 7))
  g_InvalidDeed : mg "InvalidDeed" = some (.ref (C 8))
  g_Unlike : mg "Unlike" = some (.ref (C 9))
  g_Unfit : mg "Unfit" = some (.ref (C 10))
  g_InvalidLot : mg "InvalidLot" = some (.ref (C 11))
  g_InvalidRows : mg "InvalidRows" = some (.ref (C 12))
  g_InvalidWords : mg "InvalidWords" = some (.ref (C 13))
  g_InvalidRuns : mg "InvalidRuns" = some (.ref (C 14))
  g_InvalidBook : mg "InvalidBook" = some (.ref (C 15))
  g_InvalidLines : mg "InvalidLines" = some (.ref (C 16))
  g_InvalidText : mg "InvalidText" = some (.ref (C 17))
  g_NotTold : mg "NotTold" = some (.ref (C 18))
  g_NothingToUndo : mg "NothingToUndo" = some (.ref (C 19))
  g_NothingToRedo : mg "NothingToRedo" = some (.ref (C 20))
  g_TrialError : mg "TrialError" = some (.ref (C 21))
  x_InvalidTrial : ErI P w K mg base "InvalidTrial" "given" (C 0)
  x_InvalidWorld : ErI P w K mg base "InvalidWorld" "given" (C 1)
  x_InvalidQuestion : ErI P w K mg base "InvalidQuestion" "given" (C 2)
  x_InvalidTelling : ErI P w K mg base "InvalidTelling" "given" (C 3)
  x_InvalidTable : ErI P w K mg base "InvalidTable" "given" (C 4)
  x_InvalidShares : ErI P w K mg base "InvalidShares" "given" (C 5)
  x_InvalidNumber : ErI P w K mg base "InvalidNumber" "given" (C 6)
  x_InvalidName : ErI P w K mg base "InvalidName" "given" (C 7)
  x_InvalidDeed : ErI P w K mg base "InvalidDeed" "given" (C 8)
  x_Unlike : ErI P w K mg base "Unlike" "given" (C 9)
  x_Unfit : ErI P w K mg base "Unfit" "given" (C 10)
  x_InvalidLot : ErI P w K mg base "InvalidLot" "index" (C 11)
  x_InvalidRows : ErI P w K mg base "InvalidRows" "index" (C 12)
  x_InvalidWords : ErI P w K mg base "InvalidWords" "index" (C 13)
  x_InvalidRuns : ErI P w K mg base "InvalidRuns" "index" (C 14)
  x_InvalidBook : ErI P w K mg base "InvalidBook" "index" (C 15)
  x_InvalidLines : ErI P w K mg base "InvalidLines" "index" (C 16)
  x_InvalidText : ErI P w K mg base "InvalidText" "line" (C 17)
  e_NotTold : PySem.W.excIn K (C 18) [.type "ValueError", .type "Exception", .type "BaseException", .type "object"] "ValueError.__new__" = true
  k_NotTold : PySem.W.keepIn K (.ref (C 18)) = true
  e_NothingToUndo : PySem.W.excIn K (C 19) [.type "ValueError", .type "Exception", .type "BaseException", .type "object"] "ValueError.__new__" = true
  k_NothingToUndo : PySem.W.keepIn K (.ref (C 19)) = true
  e_NothingToRedo : PySem.W.excIn K (C 20) [.type "ValueError", .type "Exception", .type "BaseException", .type "object"] "ValueError.__new__" = true
  k_NothingToRedo : PySem.W.keepIn K (.ref (C 20)) = true
  e_TrialError : PySem.W.excIn K (C 21) [.type "ValueError", .type "Exception", .type "BaseException", .type "object"] "ValueError.__new__" = true
  k_TrialError : PySem.W.keepIn K (.ref (C 21)) = true
  ix : ∀ i, i < 22 → IxC K (C i)
  xf : ∀ i, i < 18 → XfC K (C i)
  noG : ∀ i, i < 11 → PySem.W.findIn K (.ref (C i)) "given" = some none
  noI : ∀ i, 11 ≤ i → i < 17 → PySem.W.findIn K (.ref (C i)) "index" = some none
  noL : PySem.W.findIn K (.ref (C 17)) "line" = some none
  kit : ∀ i j, i < 22 → j < 21 → PySem.W.kitOne K (.ref (C i)) (.ref (C j)) = some (decide (i = j))
  kb : ∀ i, i < 22 → PySem.W.kitOne K (.ref (C i)) (.ref (C 21)) = some true
  kv : ∀ i, i < 22 → PySem.W.kitOne K (.ref (C i)) (.type "ValueError") = some true
  kn : ∀ i (s : String), i < 22 → s = "TypeError" ∨ s = "KeyError" ∨ s = "IndexError" ∨ s = "ZeroDivisionError" ∨ s = "RuntimeError" → PySem.W.kitOne K (.ref (C i)) (.type s) = some false
/-- a list of errors: from the n-th class on, each keeping v as f -/
def ErrL (C : Nat → Addr) (n m : Nat) (f : Str) (v : V) (H : Hp) (es : List V) : Prop := es.length = m ∧ ∀ i e, es[i]? = some e → ∃ a, e = .ref a ∧ Xo H a (C (n + i)) f v
theorem ErrL.same {C : Nat → Addr} {n m : Nat} {f : Str} {v : V} {H H' : Hp} {es : List V} (s : Same H H') (h : ErrL C n m f v H es) : ErrL C n m f v H' es := ⟨h.1, fun i e q => let ⟨a, x, y⟩ := h.2 i e q; ⟨a, x, y.same s⟩⟩
theorem ErrL.cat {C : Nat → Addr} {n m k : Nat} {f : Str} {v : V} {H : Hp} {es fs : List V} (h : ErrL C n m f v H es) (h2 : ErrL C (n + m) k f v H fs) : ErrL C n (m + k) f v H (es ++ fs) := by
  refine ⟨by rw [List.length_append, h.1, h2.1], fun i e q => ?_⟩
  by_cases c : i < es.length
  · rw [List.getElem?_append_left c] at q
    exact h.2 i e q
  · rw [List.getElem?_append_right (by omega)] at q
    obtain ⟨a, x, y⟩ := h2.2 _ e q
    refine ⟨a, x, ?_⟩
    have : n + m + (i - es.length) = n + i := by have := h.1; omega
    rwa [this] at y
theorem ErrL.nil {C : Nat → Addr} {n : Nat} {f : Str} {v : V} {H : Hp} : ErrL C n 0 f v H [] := ⟨rfl, fun i e q => by simp at q⟩
theorem ErrL.cons {C : Nat → Addr} {n m : Nat} {f : Str} {v : V} {H : Hp} {a : Addr} {es : List V} (x : Xo H a (C n) f v) (h : ErrL C (n + 1) m f v H es) : ErrL C n (m + 1) f v H (.ref a :: es) := by
  refine ⟨by rw [List.length_cons, h.1], fun i e q => ?_⟩
  cases i with
  | zero => simp at q; subst q; exact ⟨a, rfl, x⟩
  | succ i =>
    obtain ⟨b, y, z⟩ := h.2 i e (by simpa using q)
    exact ⟨b, y, by rwa [show n + (i + 1) = n + 1 + i by omega]⟩
/-- two lists of errors, in a list -/
def spTwo (C : Nat → Addr) (n m : Nat) (f : Str) : Sp := fun vs H Q _ => ∃ v, vs = [v] ∧ ∀ p l1 l2 es fs H', Same H H' → H' p = some (.lst [.ref l1, .ref l2]) → H' l1 = some (.lst es) → H' l2 = some (.lst fs) → ErrL C n m f v H' es → ErrL C n m f v H' fs → Q (.ref p) H'
def sortsV (i : Nat) : List V := if i < 21 then [.int i] else []
def spSorts (C : Nat → Addr) : Sp := fun vs H Q _ => ∃ (a : Addr) (i : Nat), vs = [.ref a] ∧ i < 22 ∧ Er H a (C i) ∧ ∀ H' p, Same H H' → H' p = some (.lst (sortsV i)) → Q (.ref p) H'
def spAlone (C : Nat → Addr) : Sp := fun vs H Q _ => ∃ (a : Addr) (i : Nat), vs = [.ref a, .int i] ∧ i < 21 ∧ Er H a (C i) ∧ ∀ H', Same H H' → Q (.bl true) H'
section
variable {P : Program} {w : World} {K : PySem.W.Frag} {mg : Str → Option Value} {base : Heap}

def errsT (C : Nat → Addr) (f : Str) (j : Nat) : Nat → Nat → TA
  | _, 0 => tNil
  | n, m + 1 => tCons (tMkV (C n) f (tCons (tVar j) tNil)) (errsT C f j (n + 1) m)
def isT (K : PySem.W.Frag) (C : Nat → Addr) (j : Nat) : Nat → Nat → TA
  | _, 0 => tNil
  | n, m + 1 => tCons (tCB (rIsX K) (tCons (tVar j) (tCons (tC (V.ref (C n))) tNil))) (isT K C j (n + 1) m)
def isV (i : Nat) : Nat → Nat → List V
  | _, 0 => []
  | n, m + 1 => V.bl (decide (i = n)) :: isV i (n + 1) m
theorem isV_len (i : Nat) : ∀ n m, (isV i n m).length = m
  | _, 0 => rfl
  | n, m + 1 => by rw [isV, List.length_cons, isV_len]
theorem isV_cat (i : Nat) : ∀ n m k, isV i n m ++ isV i (n + m) k = isV i n (m + k)
  | n, 0, k => by simp [isV]
  | n, m + 1, k => by
    have e := isV_cat i (n + 1) m k
    rw [show n + 1 + m = n + (m + 1) by omega] at e
    rw [show m + 1 + k = (m + k) + 1 by omega, isV, isV, List.cons_append, e]
theorem isV_get (i : Nat) : ∀ n m k, k < m → (isV i n m)[k]? = some (V.bl (decide (i = n + k)))
  | n, 0, k, h => by omega
  | n, m + 1, 0, h => by simp [isV]
  | n, m + 1, k + 1, h => by
    rw [isV, List.getElem?_cons_succ, isV_get i (n + 1) m k (by omega), show n + 1 + k = n + (k + 1) by omega]
section
variable {C : Nat → Addr} {f : Str} {j : Nat} {v : V} {σ : L2.St} {H : Hp} {Q : VK}
theorem errs_run (hσ : σ[j]? = some (some v)) : ∀ (m n : Nat) (H : Hp) (R : List V → Hp → Prop), (∀ es H', Same H H' → ErrL C n m f v H' es → R es H') → errsT C f j n m σ H R
  | 0, n, H, R, h => h [] H (Same.refl _) ErrL.nil
  | m + 1, n, H, R, h => ⟨v, hσ, v, rfl, fun a d ha hd ne => errs_run hσ m (n + 1) _ _ fun es H' s l => h _ H' ((mk_same ha hd ne).trans s) (ErrL.cons ((mk_xo ne).same s) l)⟩
theorem w_lerr {n m : Nat} (hσ : σ[j]? = some (some v)) (hm : m ≤ 1000) (h : ∀ p es H', Same H H' → H' p = some (.lst es) → ErrL C n m f v H' es → Q (.ref p) H') : tLst (errsT C f j n m) σ H Q :=
  errs_run hσ m n H _ fun es H' s l => ⟨by rw [l.1]; exact Nat.le_trans hm (by decide), fun p hp => h p es _ (s.trans (same_new hp)) upd_same (l.same (same_new hp))⟩
theorem w_cate {p q : Addr} {es fs : List V} {n m k : Nat} (e1 : H p = some (.lst es)) (l1 : ErrL C n m f v H es) (e2 : H q = some (.lst fs)) (l2 : ErrL C (n + m) k f v H fs) (z : m + k ≤ 1000) (h : ∀ r gs H', Same H H' → H' r = some (.lst gs) → ErrL C n (m + k) f v H' gs → Q (.ref r) H') : rAddA K (.ref p) (.ref q) H Q :=
  w_catL e1 e2 (by rw [l1.1, l2.1]; exact z) fun r hr => h r _ _ (same_new hr) upd_same ((l1.cat l2).same (same_new hr))
theorem isx_run (EC : Ec P w K mg base C) {a : Addr} {i : Nat} (hi : i < 22) (hσ : σ[j]? = some (some (.ref a))) (he : Er H a (C i)) : ∀ (m n : Nat) (R : List V → Hp → Prop), n + m ≤ 21 → R (isV i n m) H → isT K C j n m σ H R
  | 0, n, R, _, h => h
  | m + 1, n, R, l, h => ⟨.ref a, hσ, a, C i, _, _, _, rfl, he, EC.ix i hi, .own (C n), EC.kit i n hi (by omega), isx_run EC hi hσ he m (n + 1) _ (by omega) h⟩
theorem w_lisx (EC : Ec P w K mg base C) {n m : Nat} {a : Addr} {i : Nat} (hi : i < 22) (hσ : σ[j]? = some (some (.ref a))) (he : Er H a (C i)) (l : n + m ≤ 21) (h : ∀ p, H p = none → Q (.ref p) (upd H p (.lst (isV i n m)))) : tLst (isT K C j n m) σ H Q :=
  isx_run EC hi hσ he m n _ l ⟨by rw [isV_len]; exact Nat.le_trans (show m ≤ 21 by omega) (by decide), fun p hp => h p hp⟩
end
local macro_rules | `(tactic| wtm_at "rs") => `(tactic| first
  | with_reducible refine w_seq ?_
  | with_reducible refine w_asg ?_
  | with_reducible refine w_ret ?_
  | with_reducible refine w_op ?_
  | with_reducible refine w_cb ?_
  | with_reducible refine w_cons ?_
  | with_reducible refine w_nil ?_
  | with_reducible refine w_c ?_
  | with_reducible refine w_if ?_
  | with_reducible refine w_test ?_
  | with_reducible refine w_un ?_
  | with_reducible refine w_tup ?_
  | with_reducible refine w_call ?_
  | with_reducible refine w_and ?_
  | with_reducible refine w_or ?_
  | with_reducible refine w_not ?_
  | with_reducible refine w_ife ?_
  | with_reducible refine w_tB ?_
  | with_reducible refine w_andV ?_
  | with_reducible refine w_orV ?_
  | with_reducible refine w_notV ?_
  | with_reducible refine w_sub ?_
  | with_reducible refine w_gcons ?_
  | with_reducible refine w_gnil ?_
  | with_reducible refine w_next ?_
  | with_reducible refine w_drop ?_
  | with_reducible refine w_retN ?_
  | with_reducible refine w_brk ?_
  | with_reducible refine w_cont ?_
  | with_reducible refine w_bl ?_
  | with_reducible refine w_gt ?_
  | with_reducible refine w_ge ?_
  | with_reducible refine w_lt ?_
  | with_reducible refine w_le ?_
  | with_reducible refine w_subI ?_
  | with_reducible refine w_neg ?_
  | with_reducible refine w_addI ?_
  | with_reducible refine w_int ?_
  | with_reducible refine w_intB ?_
  | with_reducible refine w_abs ?_
  | with_reducible refine w_iteT ?_
  | with_reducible refine w_iteF ?_
  | with_reducible refine w_par ?_
  | with_reducible refine w_par3 ?_
  | with_reducible refine w_sl ?_
  | with_reducible refine w_nop ?_
  | with_reducible refine w_part ?_
  | with_reducible refine w_vint ?_
  | with_reducible refine w_vbl2 ?_
  | with_reducible refine w_vbl3 ?_
  | with_reducible refine w_lc ?_
  | with_reducible refine w_list ?_
  | with_reducible refine w_enum ?_
  | with_reducible refine w_fld ?_
  | with_reducible refine w_mk ?_
  | with_reducible refine w_yes ?_
  | with_reducible refine w_iz ?_
  | with_reducible refine w_var0 ?_
  | with_reducible refine w_var1 ?_
  | with_reducible refine w_var2 ?_
  | with_reducible refine w_var3 ?_
  | with_reducible refine w_var4 ?_
  | with_reducible refine w_var5 ?_
  | with_reducible refine w_var6 ?_
  | with_reducible refine w_var7 ?_
  | with_reducible refine w_var8 ?_
  | with_reducible refine w_var9 ?_
  | with_reducible refine w_var10 ?_
  | with_reducible refine w_var11 ?_
  | with_reducible refine w_var12 ?_
  | with_reducible refine w_var13 ?_
  | with_reducible refine w_var14 ?_
  | with_reducible refine w_var15 ?_
  | with_reducible refine w_nam0 ?_
  | with_reducible refine w_nam1 ?_
  | with_reducible refine w_nam2 ?_
  | with_reducible refine w_nam3 ?_
  | with_reducible refine w_nam4 ?_
  | with_reducible refine w_nam5 ?_
  | with_reducible refine w_nam6 ?_
  | with_reducible refine w_nam7 ?_
  | with_reducible refine w_nam8 ?_
  | with_reducible refine w_nam9 ?_
  | with_reducible refine w_nam10 ?_
  | with_reducible refine w_nam11 ?_
  | with_reducible refine w_nam12 ?_
  | with_reducible refine w_nam13 ?_
  | with_reducible refine w_nam14 ?_
  | with_reducible refine w_nam15 ?_
  | (with_reducible refine' w_eqS ?hs ?_; (case hs => with_unfolding_all rfl))
  | (with_reducible refine' w_neS ?hs ?_; (case hs => with_unfolding_all rfl))
  | (with_reducible refine' w_len ?hs ?_; (case hs => (simp only [List.length_cons, List.length_nil]; omega)))
  | (with_reducible refine' w_slL ?hs ?_; (case hs => wtm_at "rl"))
  | (with_reducible refine' w_mulI ?hs ?_; (case hs => (first | (refine cmul_r ?_; (constructor <;> omega)) | (refine cmul_l ?_; (constructor <;> omega)) | assumption)))
  | (with_reducible refine' w_mod ?hs ?_; (case hs => (first | omega | assumption)))
  | (with_reducible refine' w_div ?hs ?_; (case hs => (first | assumption | (refine cdiv_s ?_ ?_ <;> omega))))
  | (with_reducible refine' w_ixL ?hs ?ht ?_; (case hs => wtm_at "rl"); (case ht => wtm_at "ix"))
  | (with_reducible refine' w_ixT ?hs ?ht ?_; (case hs => wtm_at "rl"); (case ht => wtm_at "ix"))
  | (with_reducible refine' w_set0 ?hs ?_; (case hs => wtm_at "st"))
  | (with_reducible refine' w_set1 ?hs ?_; (case hs => wtm_at "st"))
  | (with_reducible refine' w_set2 ?hs ?_; (case hs => wtm_at "st"))
  | (with_reducible refine' w_lenL ?hs ?_; (case hs => wtm_at "rl"))
  | (with_reducible refine' w_lenT ?hs ?_; (case hs => wtm_at "rl"))
  | (with_reducible refine' w_gtup ?hs ?ht ?_; (case hs => wtm_at "rl"); (case ht => with_unfolding_all rfl))
  | rw [List.set_cons_zero]
  | rw [List.set_cons_succ]
  | rw [Bool.not_true]
  | rw [Bool.not_false])
local macro_rules | `(tactic| wtm_at "gs") => `(tactic| repeat wtm_at "rs")
theorem cal__law_first_ones (T : Txt mg) (D : Def1 K mg "_law_first_ones" s__law_first_ones) {C : Nat → Addr} (EC : Ec P w K mg base C)  : Cal P w K mg base "_law_first_ones" 4 P__law_first_ones (spTwo C 0 11 "given") := by
  have nd := sc__law_first_ones.nd
  refine D.cal (k := 4-1) sc__law_first_ones (fun vs H Q E h => ?_) (fun _ _ _ _ _ _ us hl => match us, hl with | [_], _ => rfl) fun f cdv A outer s H vs Q E hG hr h => have hu := hr.units; have hu2 := u150 hr; ⟨_, (pss_cons (ps_set (i := 1) nd rfl (Or.inl rfl) (pe_lst (pa_cons (pe_exc EC.x_InvalidTrial (hr.mono (by decide)) rfl (pa_cons (pv 0) pa_nil)) (pa_cons (pe_exc EC.x_InvalidWorld (hr.mono (by decide)) rfl (pa_cons (pv 0) pa_nil)) (pa_cons (pe_exc EC.x_InvalidQuestion (hr.mono (by decide)) rfl (pa_cons (pv 0) pa_nil)) (pa_cons (pe_exc EC.x_InvalidTelling (hr.mono (by decide)) rfl (pa_cons (pv 0) pa_nil)) pa_nil)))))) (pss_cons (ps_set (i := 1) nd rfl (Or.inl rfl) (pe_op (k_add (K := K) rfl) (pv 1) (pe_lst (pa_cons (pe_exc EC.x_InvalidTable (hr.mono (by decide)) rfl (pa_cons (pv 0) pa_nil)) (pa_cons (pe_exc EC.x_InvalidShares (hr.mono (by decide)) rfl (pa_cons (pv 0) pa_nil)) (pa_cons (pe_exc EC.x_InvalidNumber (hr.mono (by decide)) rfl (pa_cons (pv 0) pa_nil)) (pa_cons (pe_exc EC.x_InvalidName (hr.mono (by decide)) rfl (pa_cons (pv 0) pa_nil)) pa_nil))))))) (pss_cons (ps_set (i := 1) nd rfl (Or.inl rfl) (pe_op (k_add (K := K) rfl) (pv 1) (pe_lst (pa_cons (pe_exc EC.x_InvalidDeed (hr.mono (by decide)) rfl (pa_cons (pv 0) pa_nil)) (pa_cons (pe_exc EC.x_Unlike (hr.mono (by decide)) rfl (pa_cons (pv 0) pa_nil)) pa_nil))))) (pss_cons (ps_set (i := 2) nd rfl (Or.inl rfl) (pe_lst (pa_cons (pe_excK EC.x_InvalidTrial (hr.mono (by decide)) rfl (pk_cons (pv 0) pk_nil) rfl) (pa_cons (pe_excK EC.x_InvalidWorld (hr.mono (by decide)) rfl (pk_cons (pv 0) pk_nil) rfl) (pa_cons (pe_excK EC.x_InvalidQuestion (hr.mono (by decide)) rfl (pk_cons (pv 0) pk_nil) rfl) pa_nil))))) (pss_cons (ps_set (i := 2) nd rfl (Or.inl rfl) (pe_op (k_add (K := K) rfl) (pv 2) (pe_lst (pa_cons (pe_excK EC.x_InvalidTelling (hr.mono (by decide)) rfl (pk_cons (pv 0) pk_nil) rfl) (pa_cons (pe_excK EC.x_InvalidTable (hr.mono (by decide)) rfl (pk_cons (pv 0) pk_nil) rfl) (pa_cons (pe_excK EC.x_InvalidShares (hr.mono (by decide)) rfl (pk_cons (pv 0) pk_nil) rfl) pa_nil)))))) (pss_cons (ps_set (i := 2) nd rfl (Or.inl rfl) (pe_op (k_add (K := K) rfl) (pv 2) (pe_lst (pa_cons (pe_excK EC.x_InvalidNumber (hr.mono (by decide)) rfl (pk_cons (pv 0) pk_nil) rfl) (pa_cons (pe_excK EC.x_InvalidName (hr.mono (by decide)) rfl (pk_cons (pv 0) pk_nil) rfl) (pa_cons (pe_excK EC.x_InvalidDeed (hr.mono (by decide)) rfl (pk_cons (pv 0) pk_nil) rfl) (pa_cons (pe_excK EC.x_Unlike (hr.mono (by decide)) rfl (pk_cons (pv 0) pk_nil) rfl) pa_nil))))))) (pss_one (ps_ret (pe_lst (pa_cons (pe_op (k_add (K := K) rfl) (pv 1) (pe_lst (pa_cons (pe_exc EC.x_Unfit (hr.mono (by decide)) rfl (pa_cons (pv 0) pa_nil)) pa_nil))) (pa_cons (pe_op (k_add (K := K) rfl) (pv 2) (pe_lst (pa_cons (pe_excK EC.x_Unfit (hr.mono (by decide)) rfl (pk_cons (pv 0) pk_nil) rfl) pa_nil))) pa_nil))))))))))), ?_⟩
  · obtain ⟨v, rfl, _⟩ := h; rfl
  obtain ⟨v, rfl, hQ⟩ := h
  rw [show L2.start N__law_first_ones [v] = [some v, none, none] from rfl]
  have sm := Same.refl H
  wtm_at "gs"
  refine w_lerr (C := C) (f := "given") (j := 0) (v := v) (n := 0) (m := 4) rfl (by decide) fun p1 es1 H1 s1 e1 l1 => ?_
  have sm := sm.trans s1
  wtm_at "gs"
  refine w_lerr (C := C) (f := "given") (j := 0) (v := v) (n := 4) (m := 4) rfl (by decide) fun p2 es2 H2 s2 e2 l2 => ?_
  have sm := sm.trans s2
  have e1 := s2 _ _ e1
  have l1 := l1.same s2
  wtm_at "gs"
  refine w_cate e1 l1 e2 l2 (by decide) fun p3 es3 H3 s3 e3 l3 => ?_
  have sm := sm.trans s3
  have e1 := s3 _ _ e1
  have l1 := l1.same s3
  have e2 := s3 _ _ e2
  have l2 := l2.same s3
  wtm_at "gs"
  refine w_lerr (C := C) (f := "given") (j := 0) (v := v) (n := 8) (m := 2) rfl (by decide) fun p4 es4 H4 s4 e4 l4 => ?_
  have sm := sm.trans s4
  have e3 := s4 _ _ e3
  have l3 := l3.same s4
  wtm_at "gs"
  refine w_cate e3 l3 e4 l4 (by decide) fun p5 es5 H5 s5 e5 l5 => ?_
  have sm := sm.trans s5
  have e3 := s5 _ _ e3
  have l3 := l3.same s5
  have e4 := s5 _ _ e4
  have l4 := l4.same s5
  wtm_at "gs"
  refine w_lerr (C := C) (f := "given") (j := 0) (v := v) (n := 0) (m := 3) rfl (by decide) fun p6 es6 H6 s6 e6 l6 => ?_
  have sm := sm.trans s6
  have e5 := s6 _ _ e5
  have l5 := l5.same s6
  wtm_at "gs"
  refine w_lerr (C := C) (f := "given") (j := 0) (v := v) (n := 3) (m := 3) rfl (by decide) fun p7 es7 H7 s7 e7 l7 => ?_
  have sm := sm.trans s7
  have e5 := s7 _ _ e5
  have l5 := l5.same s7
  have e6 := s7 _ _ e6
  have l6 := l6.same s7
  wtm_at "gs"
  refine w_cate e6 l6 e7 l7 (by decide) fun p8 es8 H8 s8 e8 l8 => ?_
  have sm := sm.trans s8
  have e5 := s8 _ _ e5
  have l5 := l5.same s8
  have e6 := s8 _ _ e6
  have l6 := l6.same s8
  have e7 := s8 _ _ e7
  have l7 := l7.same s8
  wtm_at "gs"
  refine w_lerr (C := C) (f := "given") (j := 0) (v := v) (n := 6) (m := 4) rfl (by decide) fun p9 es9 H9 s9 e9 l9 => ?_
  have sm := sm.trans s9
  have e5 := s9 _ _ e5
  have l5 := l5.same s9
  have e8 := s9 _ _ e8
  have l8 := l8.same s9
  wtm_at "gs"
  refine w_cate e8 l8 e9 l9 (by decide) fun p10 es10 H10 s10 e10 l10 => ?_
  have sm := sm.trans s10
  have e5 := s10 _ _ e5
  have l5 := l5.same s10
  have e8 := s10 _ _ e8
  have l8 := l8.same s10
  have e9 := s10 _ _ e9
  have l9 := l9.same s10
  wtm_at "gs"
  refine w_lst ?_
  wtm_at "gs"
  refine w_lerr (C := C) (f := "given") (j := 0) (v := v) (n := 10) (m := 1) rfl (by decide) fun p11 es11 H11 s11 e11 l11 => ?_
  have sm := sm.trans s11
  have e5 := s11 _ _ e5
  have l5 := l5.same s11
  have e10 := s11 _ _ e10
  have l10 := l10.same s11
  wtm_at "gs"
  refine w_cate e5 l5 e11 l11 (by decide) fun p12 es12 H12 s12 e12 l12 => ?_
  have sm := sm.trans s12
  have e5 := s12 _ _ e5
  have l5 := l5.same s12
  have e10 := s12 _ _ e10
  have l10 := l10.same s12
  have e11 := s12 _ _ e11
  have l11 := l11.same s12
  wtm_at "gs"
  refine w_lerr (C := C) (f := "given") (j := 0) (v := v) (n := 10) (m := 1) rfl (by decide) fun p13 es13 H13 s13 e13 l13 => ?_
  have sm := sm.trans s13
  have e10 := s13 _ _ e10
  have l10 := l10.same s13
  have e12 := s13 _ _ e12
  have l12 := l12.same s13
  wtm_at "gs"
  refine w_cate e10 l10 e13 l13 (by decide) fun p14 es14 H14 s14 e14 l14 => ?_
  have sm := sm.trans s14
  have e10 := s14 _ _ e10
  have l10 := l10.same s14
  have e12 := s14 _ _ e12
  have l12 := l12.same s14
  have e13 := s14 _ _ e13
  have l13 := l13.same s14
  wtm_at "gs"
  intro p hp
  have s := same_new (o := .lst [.ref p12, .ref p14]) hp
  exact hQ _ p12 p14 _ _ _ (sm.trans s) upd_same (s _ _ e12) (s _ _ e14) (l12.same s) (l14.same s)
theorem cal__law_second_ones (T : Txt mg) (D : Def1 K mg "_law_second_ones" s__law_second_ones) {C : Nat → Addr} (EC : Ec P w K mg base C)  : Cal P w K mg base "_law_second_ones" 4 P__law_second_ones (spTwo C 11 6 "index") := by
  have nd := sc__law_second_ones.nd
  refine D.cal (k := 4-1) sc__law_second_ones (fun vs H Q E h => ?_) (fun _ _ _ _ _ _ us hl => match us, hl with | [_], _ => rfl) fun f cdv A outer s H vs Q E hG hr h => have hu := hr.units; have hu2 := u150 hr; ⟨_, (pss_cons (ps_set (i := 1) nd rfl (Or.inl rfl) (pe_lst (pa_cons (pe_exc EC.x_InvalidLot (hr.mono (by decide)) rfl (pa_cons (pv 0) pa_nil)) (pa_cons (pe_exc EC.x_InvalidRows (hr.mono (by decide)) rfl (pa_cons (pv 0) pa_nil)) (pa_cons (pe_exc EC.x_InvalidWords (hr.mono (by decide)) rfl (pa_cons (pv 0) pa_nil)) (pa_cons (pe_exc EC.x_InvalidRuns (hr.mono (by decide)) rfl (pa_cons (pv 0) pa_nil)) (pa_cons (pe_exc EC.x_InvalidBook (hr.mono (by decide)) rfl (pa_cons (pv 0) pa_nil)) pa_nil))))))) (pss_cons (ps_set (i := 2) nd rfl (Or.inl rfl) (pe_lst (pa_cons (pe_excK EC.x_InvalidLot (hr.mono (by decide)) rfl (pk_cons (pv 0) pk_nil) rfl) (pa_cons (pe_excK EC.x_InvalidRows (hr.mono (by decide)) rfl (pk_cons (pv 0) pk_nil) rfl) (pa_cons (pe_excK EC.x_InvalidWords (hr.mono (by decide)) rfl (pk_cons (pv 0) pk_nil) rfl) (pa_cons (pe_excK EC.x_InvalidRuns (hr.mono (by decide)) rfl (pk_cons (pv 0) pk_nil) rfl) pa_nil)))))) (pss_one (ps_ret (pe_lst (pa_cons (pe_op (k_add (K := K) rfl) (pv 1) (pe_lst (pa_cons (pe_exc EC.x_InvalidLines (hr.mono (by decide)) rfl (pa_cons (pv 0) pa_nil)) pa_nil))) (pa_cons (pe_op (k_add (K := K) rfl) (pv 2) (pe_lst (pa_cons (pe_excK EC.x_InvalidBook (hr.mono (by decide)) rfl (pk_cons (pv 0) pk_nil) rfl) (pa_cons (pe_excK EC.x_InvalidLines (hr.mono (by decide)) rfl (pk_cons (pv 0) pk_nil) rfl) pa_nil)))) pa_nil))))))), ?_⟩
  · obtain ⟨v, rfl, _⟩ := h; rfl
  obtain ⟨v, rfl, hQ⟩ := h
  rw [show L2.start N__law_second_ones [v] = [some v, none, none] from rfl]
  have sm := Same.refl H
  wtm_at "gs"
  refine w_lerr (C := C) (f := "index") (j := 0) (v := v) (n := 11) (m := 5) rfl (by decide) fun p1 es1 H1 s1 e1 l1 => ?_
  have sm := sm.trans s1
  wtm_at "gs"
  refine w_lerr (C := C) (f := "index") (j := 0) (v := v) (n := 11) (m := 4) rfl (by decide) fun p2 es2 H2 s2 e2 l2 => ?_
  have sm := sm.trans s2
  have e1 := s2 _ _ e1
  have l1 := l1.same s2
  wtm_at "gs"
  refine w_lst ?_
  wtm_at "gs"
  refine w_lerr (C := C) (f := "index") (j := 0) (v := v) (n := 16) (m := 1) rfl (by decide) fun p3 es3 H3 s3 e3 l3 => ?_
  have sm := sm.trans s3
  have e1 := s3 _ _ e1
  have l1 := l1.same s3
  have e2 := s3 _ _ e2
  have l2 := l2.same s3
  wtm_at "gs"
  refine w_cate e1 l1 e3 l3 (by decide) fun p4 es4 H4 s4 e4 l4 => ?_
  have sm := sm.trans s4
  have e1 := s4 _ _ e1
  have l1 := l1.same s4
  have e2 := s4 _ _ e2
  have l2 := l2.same s4
  have e3 := s4 _ _ e3
  have l3 := l3.same s4
  wtm_at "gs"
  refine w_lerr (C := C) (f := "index") (j := 0) (v := v) (n := 15) (m := 2) rfl (by decide) fun p5 es5 H5 s5 e5 l5 => ?_
  have sm := sm.trans s5
  have e2 := s5 _ _ e2
  have l2 := l2.same s5
  have e4 := s5 _ _ e4
  have l4 := l4.same s5
  wtm_at "gs"
  refine w_cate e2 l2 e5 l5 (by decide) fun p6 es6 H6 s6 e6 l6 => ?_
  have sm := sm.trans s6
  have e2 := s6 _ _ e2
  have l2 := l2.same s6
  have e4 := s6 _ _ e4
  have l4 := l4.same s6
  have e5 := s6 _ _ e5
  have l5 := l5.same s6
  wtm_at "gs"
  intro p hp
  have s := same_new (o := .lst [.ref p4, .ref p6]) hp
  exact hQ _ p4 p6 _ _ _ (sm.trans s) upd_same (s _ _ e4) (s _ _ e6) (l4.same s) (l6.same s)
theorem cal__law_sorts (T : Txt mg) (D : Def1 K mg "_law_sorts" s__law_sorts) {C : Nat → Addr} (EC : Ec P w K mg base C)  : Cal P w K mg base "_law_sorts" 2 P__law_sorts (spSorts C) := by
  have nd := sc__law_sorts.nd
  refine D.cal (k := 2-1) sc__law_sorts (fun vs H Q E h => ?_) (fun _ _ _ _ _ _ us hl => match us, hl with | [_], _ => rfl) fun f cdv A outer s H vs Q E hG hr h => have hu := hr.units; have hu2 := u150 hr; ⟨_, (pss_cons (ps_set (i := 1) nd rfl (Or.inl rfl) (pe_lst (pa_cons (pe_callB (k_isx (K := K) rfl) rfl T.n_isinstance (by decide +kernel) (pa_cons (pv 0) (pa_cons (pe_glob rfl EC.g_InvalidTrial (show RelV (V.ref _) _ from rfl)) pa_nil))) (pa_cons (pe_callB (k_isx (K := K) rfl) rfl T.n_isinstance (by decide +kernel) (pa_cons (pv 0) (pa_cons (pe_glob rfl EC.g_InvalidWorld (show RelV (V.ref _) _ from rfl)) pa_nil))) (pa_cons (pe_callB (k_isx (K := K) rfl) rfl T.n_isinstance (by decide +kernel) (pa_cons (pv 0) (pa_cons (pe_glob rfl EC.g_InvalidQuestion (show RelV (V.ref _) _ from rfl)) pa_nil))) pa_nil))))) (pss_cons (ps_set (i := 1) nd rfl (Or.inl rfl) (pe_op (k_add (K := K) rfl) (pv 1) (pe_lst (pa_cons (pe_callB (k_isx (K := K) rfl) rfl T.n_isinstance (by decide +kernel) (pa_cons (pv 0) (pa_cons (pe_glob rfl EC.g_InvalidTelling (show RelV (V.ref _) _ from rfl)) pa_nil))) (pa_cons (pe_callB (k_isx (K := K) rfl) rfl T.n_isinstance (by decide +kernel) (pa_cons (pv 0) (pa_cons (pe_glob rfl EC.g_InvalidTable (show RelV (V.ref _) _ from rfl)) pa_nil))) (pa_cons (pe_callB (k_isx (K := K) rfl) rfl T.n_isinstance (by decide +kernel) (pa_cons (pv 0) (pa_cons (pe_glob rfl EC.g_InvalidShares (show RelV (V.ref _) _ from rfl)) pa_nil))) pa_nil)))))) (pss_cons (ps_set (i := 1) nd rfl (Or.inl rfl) (pe_op (k_add (K := K) rfl) (pv 1) (pe_lst (pa_cons (pe_callB (k_isx (K := K) rfl) rfl T.n_isinstance (by decide +kernel) (pa_cons (pv 0) (pa_cons (pe_glob rfl EC.g_InvalidNumber (show RelV (V.ref _) _ from rfl)) pa_nil))) (pa_cons (pe_callB (k_isx (K := K) rfl) rfl T.n_isinstance (by decide +kernel) (pa_cons (pv 0) (pa_cons (pe_glob rfl EC.g_InvalidName (show RelV (V.ref _) _ from rfl)) pa_nil))) (pa_cons (pe_callB (k_isx (K := K) rfl) rfl T.n_isinstance (by decide +kernel) (pa_cons (pv 0) (pa_cons (pe_glob rfl EC.g_InvalidDeed (show RelV (V.ref _) _ from rfl)) pa_nil))) pa_nil)))))) (pss_cons (ps_set (i := 1) nd rfl (Or.inl rfl) (pe_op (k_add (K := K) rfl) (pv 1) (pe_lst (pa_cons (pe_callB (k_isx (K := K) rfl) rfl T.n_isinstance (by decide +kernel) (pa_cons (pv 0) (pa_cons (pe_glob rfl EC.g_Unlike (show RelV (V.ref _) _ from rfl)) pa_nil))) (pa_cons (pe_callB (k_isx (K := K) rfl) rfl T.n_isinstance (by decide +kernel) (pa_cons (pv 0) (pa_cons (pe_glob rfl EC.g_Unfit (show RelV (V.ref _) _ from rfl)) pa_nil))) (pa_cons (pe_callB (k_isx (K := K) rfl) rfl T.n_isinstance (by decide +kernel) (pa_cons (pv 0) (pa_cons (pe_glob rfl EC.g_InvalidLot (show RelV (V.ref _) _ from rfl)) pa_nil))) (pa_cons (pe_callB (k_isx (K := K) rfl) rfl T.n_isinstance (by decide +kernel) (pa_cons (pv 0) (pa_cons (pe_glob rfl EC.g_InvalidRows (show RelV (V.ref _) _ from rfl)) pa_nil))) pa_nil))))))) (pss_cons (ps_set (i := 1) nd rfl (Or.inl rfl) (pe_op (k_add (K := K) rfl) (pv 1) (pe_lst (pa_cons (pe_callB (k_isx (K := K) rfl) rfl T.n_isinstance (by decide +kernel) (pa_cons (pv 0) (pa_cons (pe_glob rfl EC.g_InvalidWords (show RelV (V.ref _) _ from rfl)) pa_nil))) (pa_cons (pe_callB (k_isx (K := K) rfl) rfl T.n_isinstance (by decide +kernel) (pa_cons (pv 0) (pa_cons (pe_glob rfl EC.g_InvalidRuns (show RelV (V.ref _) _ from rfl)) pa_nil))) (pa_cons (pe_callB (k_isx (K := K) rfl) rfl T.n_isinstance (by decide +kernel) (pa_cons (pv 0) (pa_cons (pe_glob rfl EC.g_InvalidBook (show RelV (V.ref _) _ from rfl)) pa_nil))) pa_nil)))))) (pss_cons (ps_set (i := 1) nd rfl (Or.inl rfl) (pe_op (k_add (K := K) rfl) (pv 1) (pe_lst (pa_cons (pe_callB (k_isx (K := K) rfl) rfl T.n_isinstance (by decide +kernel) (pa_cons (pv 0) (pa_cons (pe_glob rfl EC.g_InvalidLines (show RelV (V.ref _) _ from rfl)) pa_nil))) (pa_cons (pe_callB (k_isx (K := K) rfl) rfl T.n_isinstance (by decide +kernel) (pa_cons (pv 0) (pa_cons (pe_glob rfl EC.g_InvalidText (show RelV (V.ref _) _ from rfl)) pa_nil))) (pa_cons (pe_callB (k_isx (K := K) rfl) rfl T.n_isinstance (by decide +kernel) (pa_cons (pv 0) (pa_cons (pe_glob rfl EC.g_NotTold (show RelV (V.ref _) _ from rfl)) pa_nil))) pa_nil)))))) (pss_cons (ps_set (i := 1) nd rfl (Or.inl rfl) (pe_op (k_add (K := K) rfl) (pv 1) (pe_lst (pa_cons (pe_callB (k_isx (K := K) rfl) rfl T.n_isinstance (by decide +kernel) (pa_cons (pv 0) (pa_cons (pe_glob rfl EC.g_NothingToUndo (show RelV (V.ref _) _ from rfl)) pa_nil))) (pa_cons (pe_callB (k_isx (K := K) rfl) rfl T.n_isinstance (by decide +kernel) (pa_cons (pv 0) (pa_cons (pe_glob rfl EC.g_NothingToRedo (show RelV (V.ref _) _ from rfl)) pa_nil))) pa_nil))))) (pss_one (ps_ret (pe_lc (own := [("_law_at", 2), ("_law_is_one", 3)]) (by rfl) nd (k_enum (K := K) rfl rfl T.n_enumerate (pa_cons (pv 1) pa_nil)) (blkOk_by (own := [("_law_at", 2), ("_law_is_one", 3)]) (N := N__law_sorts) (sc := defScope s__law_sorts) (by decide +kernel)) (fun _ _ _ _ _ => (k_gtup (K := K) (n := 2) rfl rfl (pgs_cons (pg_name (i := 2) nd rfl (Or.inl rfl)) (pgs_cons (pg_name (i := 3) nd rfl (Or.inl rfl)) pgs_nil)))) (fun _ _ _ _ _ => (pts_one (pt_val (pv 3)))) (fun _ _ _ _ _ => (pv 2)))))))))))), ?_⟩
  · obtain ⟨a, i, rfl, _⟩ := h; rfl
  obtain ⟨a, i, rfl, hi, he, hQ⟩ := h
  rw [show L2.start N__law_sorts [V.ref a] = [some (V.ref a), none, none, none] from rfl]
  have sm := Same.refl H
  wtm_at "gs"
  refine w_lisx EC (j := 0) (n := 0) (m := 3) hi rfl (he.same sm) (by decide) fun p1 z1 => ?_
  have sm := sm.trans (same_new (o := .lst (isV i 0 3)) z1)
  wtm_at "gs"
  refine w_lisx EC (j := 0) (n := 3) (m := 3) hi rfl (he.same sm) (by decide) fun p2 z2 => ?_
  have sm := sm.trans (same_new (o := .lst (isV i 3 3)) z2)
  wtm_at "gs"
  refine w_catL (hold_new upd_same z2) upd_same (by rw [isV_len, isV_len]; decide) fun p3 z3 => ?_
  have sm := sm.trans (same_new (o := .lst (isV i 0 3 ++ isV i 3 3)) z3)
  rw [show isV i 0 3 ++ isV i 3 3 = isV i 0 6 from isV_cat i 0 3 3] at *
  wtm_at "gs"
  refine w_lisx EC (j := 0) (n := 6) (m := 3) hi rfl (he.same sm) (by decide) fun p4 z4 => ?_
  have sm := sm.trans (same_new (o := .lst (isV i 6 3)) z4)
  wtm_at "gs"
  refine w_catL (hold_new upd_same z4) upd_same (by rw [isV_len, isV_len]; decide) fun p5 z5 => ?_
  have sm := sm.trans (same_new (o := .lst (isV i 0 6 ++ isV i 6 3)) z5)
  rw [show isV i 0 6 ++ isV i 6 3 = isV i 0 9 from isV_cat i 0 6 3] at *
  wtm_at "gs"
  refine w_lisx EC (j := 0) (n := 9) (m := 4) hi rfl (he.same sm) (by decide) fun p6 z6 => ?_
  have sm := sm.trans (same_new (o := .lst (isV i 9 4)) z6)
  wtm_at "gs"
  refine w_catL (hold_new upd_same z6) upd_same (by rw [isV_len, isV_len]; decide) fun p7 z7 => ?_
  have sm := sm.trans (same_new (o := .lst (isV i 0 9 ++ isV i 9 4)) z7)
  rw [show isV i 0 9 ++ isV i 9 4 = isV i 0 13 from isV_cat i 0 9 4] at *
  wtm_at "gs"
  refine w_lisx EC (j := 0) (n := 13) (m := 3) hi rfl (he.same sm) (by decide) fun p8 z8 => ?_
  have sm := sm.trans (same_new (o := .lst (isV i 13 3)) z8)
  wtm_at "gs"
  refine w_catL (hold_new upd_same z8) upd_same (by rw [isV_len, isV_len]; decide) fun p9 z9 => ?_
  have sm := sm.trans (same_new (o := .lst (isV i 0 13 ++ isV i 13 3)) z9)
  rw [show isV i 0 13 ++ isV i 13 3 = isV i 0 16 from isV_cat i 0 13 3] at *
  wtm_at "gs"
  refine w_lisx EC (j := 0) (n := 16) (m := 3) hi rfl (he.same sm) (by decide) fun p10 z10 => ?_
  have sm := sm.trans (same_new (o := .lst (isV i 16 3)) z10)
  wtm_at "gs"
  refine w_catL (hold_new upd_same z10) upd_same (by rw [isV_len, isV_len]; decide) fun p11 z11 => ?_
  have sm := sm.trans (same_new (o := .lst (isV i 0 16 ++ isV i 16 3)) z11)
  rw [show isV i 0 16 ++ isV i 16 3 = isV i 0 19 from isV_cat i 0 16 3] at *
  wtm_at "gs"
  refine w_lisx EC (j := 0) (n := 19) (m := 2) hi rfl (he.same sm) (by decide) fun p12 z12 => ?_
  have sm := sm.trans (same_new (o := .lst (isV i 19 2)) z12)
  wtm_at "gs"
  refine w_catL (hold_new upd_same z12) upd_same (by rw [isV_len, isV_len]; decide) fun p13 z13 => ?_
  have sm := sm.trans (same_new (o := .lst (isV i 0 19 ++ isV i 19 2)) z13)
  rw [show isV i 0 19 ++ isV i 19 2 = isV i 0 21 from isV_cat i 0 19 2] at *
  wtm_at "gs"
  refine ⟨_, _, rfl, SqL.of upd_same, fun D hD => c_enu (fun k acc => acc = if i < k then [V.int i] else []) hD (SqL.of upd_same) (by simp) ?_ ?_⟩
  · rintro k x acc H5 T hx e l ac s hT
    have hk : k < 21 := by
      have := (List.getElem?_eq_some_iff.mp hx).1
      rwa [isV_len] at this
    rw [isV_get i 0 21 k hk, Nat.zero_add] at hx
    cases hx
    unfold LcT
    rw [show wipe [some (V.ref a), some (V.ref p13), none, none] (List.map (fun x => x.snd) [(Str.ofString "_law_at", 2), (Str.ofString "_law_is_one", 3)]) = [some (V.ref a), some (V.ref p13), none, none] from rfl]
    wtm_at "gs"
    refine ⟨rfl, ?_⟩
    wtm_at "gs"
    refine w_ite (fun c => ?_) (fun c => ?_)
    · wtm_at "gs"
      subst c
      refine PvA.put hD e l s (by omega) (same_new hT) ?_
      rw [ac, if_neg (Nat.lt_irrefl _), if_pos (Nat.lt_succ_self _)]
      rfl
    · refine PvA.skip e l s (same_new hT) ?_
      rw [ac]
      by_cases c2 : i < k
      · rw [if_pos c2, if_pos (by omega)]
      · rw [if_neg c2, if_neg (by omega)]
  · intro acc H5 e ac s
    rw [isV_len] at ac
    exact hQ H5 D (sm.trans s) (by rw [e, ac]; rfl)
theorem cal__law_is_alone (T : Txt mg) (D : Def1 K mg "_law_is_alone" s__law_is_alone) {C : Nat → Addr} (EC : Ec P w K mg base C) (c__law_sorts : Cal P w K mg base "_law_sorts" 2 P__law_sorts (spSorts C)) : Cal P w K mg base "_law_is_alone" 3 P__law_is_alone (spAlone C) := by
  have nd := sc__law_is_alone.nd
  refine D.cal (k := 3-1) sc__law_is_alone (fun vs H Q E h => ?_) (fun _ _ _ _ _ _ us hl => match us, hl with | [_, _], _ => rfl) fun f cdv A outer s H vs Q E hG hr h => have hu := hr.units; have hu2 := u150 hr; ⟨_, (pss_cons (ps_if (PW.pt (pw_or (pt_not (pt_val (pe_callB (k_isx (K := K) rfl) rfl T.n_isinstance (by decide +kernel) (pa_cons (pv 0) (pa_cons (pe_glob rfl EC.g_TrialError (show RelV (V.ref _) _ from rfl)) pa_nil))))) (pw_or (pt_not (pt_val (pe_callB (k_isx (K := K) rfl) rfl T.n_isinstance (by decide +kernel) (pa_cons (pv 0) (pa_cons (pe_bltn (v := .ty "ValueError") rfl T.n_ValueError (by decide +kernel) rfl) pa_nil))))) (pw_or1 (pt_cmpR (k_ne (K := K) rfl hu) (pe_cal c__law_sorts hG (hr.mono (by decide)) rfl (pa_cons (pv 0) pa_nil)) (pe_lst (pa_cons (pv 1) pa_nil)) (nomark _)))))) (pss_one (ps_ret pe_bl)) pss_nil) (pss_cons (ps_if (PW.pt (pw_or (pt_val (pe_callB (k_isx (K := K) rfl) rfl T.n_isinstance (by decide +kernel) (pa_cons (pv 0) (pa_cons (pe_bltn (v := .ty "TypeError") rfl T.n_TypeError (by decide +kernel) rfl) pa_nil)))) (pw_or (pt_val (pe_callB (k_isx (K := K) rfl) rfl T.n_isinstance (by decide +kernel) (pa_cons (pv 0) (pa_cons (pe_bltn (v := .ty "KeyError") rfl T.n_KeyError (by decide +kernel) rfl) pa_nil)))) (pw_or1 (pt_val (pe_callB (k_isx (K := K) rfl) rfl T.n_isinstance (by decide +kernel) (pa_cons (pv 0) (pa_cons (pe_bltn (v := .ty "IndexError") rfl T.n_IndexError (by decide +kernel) rfl) pa_nil)))))))) (pss_one (ps_ret pe_bl)) pss_nil) (pss_one (ps_ret (pe_and (pe_not (pe_callB (k_isx (K := K) rfl) rfl T.n_isinstance (by decide +kernel) (pa_cons (pv 0) (pa_cons (pe_bltn (v := .ty "ZeroDivisionError") rfl T.n_ZeroDivisionError (by decide +kernel) rfl) pa_nil)))) (pe_one (pe_not (pe_callB (k_isx (K := K) rfl) rfl T.n_isinstance (by decide +kernel) (pa_cons (pv 0) (pa_cons (pe_bltn (v := .ty "RuntimeError") rfl T.n_RuntimeError (by decide +kernel) rfl) pa_nil)))))))))), ?_⟩
  · obtain ⟨a, i, rfl, _⟩ := h; rfl
  obtain ⟨a, i, rfl, hi, he, hQ⟩ := h
  rw [show L2.start N__law_is_alone [V.ref a, V.int i] = [some (V.ref a), some (V.int i)] from rfl]
  have h22 : i < 22 := by omega
  wtm_at "gs"
  refine w_isx he (EC.ix i h22) (.own _) (EC.kb i h22) ?_
  wtm_at "gs"
  refine w_isx he (EC.ix i h22) (.ty _) (EC.kv i h22) ?_
  wtm_at "gs"
  refine ⟨a, i, rfl, h22, he, fun H1 p1 s1 e1 => ?_⟩
  rw [show sortsV i = [V.int i] from if_pos hi] at e1
  wtm_at "gs"
  refine w_lst ?_
  wtm_at "gs"
  intro p2 z2
  have s2 := same_new (o := .lst [V.int (i : Nat)]) z2
  have he2 := (he.same s1).same s2
  refine w_neD (d := .list [.int i]) (e := .list [.int i]) (.lst (SqL.of (s2 _ _ e1)) (.cons (.int _) .nil)) (.lst (SqL.of upd_same) (.cons (.int _) .nil)) (by rfl) (by rfl) ?_
  rw [show (!PyData.eqv (.list [.int i]) (.list [.int i])) = false by simp [PyData.eqv, PyData.eqvAll]]
  wtm_at "gs"
  refine w_isx he2 (EC.ix i h22) (.ty _) (EC.kn i _ h22 (by simp)) ?_
  wtm_at "gs"
  refine w_isx he2 (EC.ix i h22) (.ty _) (EC.kn i _ h22 (by simp)) ?_
  wtm_at "gs"
  refine w_isx he2 (EC.ix i h22) (.ty _) (EC.kn i _ h22 (by simp)) ?_
  wtm_at "gs"
  refine w_isx he2 (EC.ix i h22) (.ty _) (EC.kn i _ h22 (by simp)) ?_
  wtm_at "gs"
  refine w_isx he2 (EC.ix i h22) (.ty _) (EC.kn i _ h22 (by simp)) ?_
  wtm_at "gs"
  exact hQ _ (s1.trans s2)
end
end K1

set_option Elab.async false
set_option linter.all false
set_option maxRecDepth 100000
set_option maxHeartbeats 4000000
set_option autoImplicit false
namespace K1
open PySem PySem.Spec PyProof.Rows L2 RZ Gd
local macro_rules | `(tactic| wtm_at "ix") => `(tactic| first | exact at_0 | exact at_1 | exact at_2 | exact at_3 | exact at_4 | exact at_5 | exact ix_0 | exact ix_1 | exact ix_2 | exact ix_3)
local macro_rules | `(tactic| wtm_at "st") => `(tactic| first | assumption | exact upd_same | (with_reducible refine' hold_new ?hA ?hB; (case hB => assumption); (case hA => wtm_at "st")))
local macro_rules | `(tactic| wtm_at "rl") => `(tactic| first | assumption | (refine' SqL.of ?hC; (case hC => wtm_at "st")) | (refine' SqT.of ?hC; (case hC => wtm_at "st")))
local macro_rules | `(tactic| wtm_at "rd") => `(tactic| first
  | with_reducible refine w_seq ?_
  | with_reducible refine w_asg ?_
  | with_reducible refine w_ret ?_
  | with_reducible refine w_op ?_
  | with_reducible refine w_cb ?_
  | with_reducible refine w_cons ?_
  | with_reducible refine w_nil ?_
  | with_reducible refine w_c ?_
  | with_reducible refine w_if ?_
  | with_reducible refine w_test ?_
  | with_reducible refine w_un ?_
  | with_reducible refine w_tup ?_
  | with_reducible refine w_lst ?_
  | with_reducible refine w_call ?_
  | with_reducible refine w_and ?_
  | with_reducible refine w_or ?_
  | with_reducible refine w_not ?_
  | with_reducible refine w_ife ?_
  | with_reducible refine w_tB ?_
  | with_reducible refine w_andV ?_
  | with_reducible refine w_orV ?_
  | with_reducible refine w_notV ?_
  | with_reducible refine w_sub ?_
  | with_reducible refine w_gcons ?_
  | with_reducible refine w_gnil ?_
  | with_reducible refine w_next ?_
  | with_reducible refine w_drop ?_
  | with_reducible refine w_retN ?_
  | with_reducible refine w_brk ?_
  | with_reducible refine w_cont ?_
  | with_reducible refine w_bl ?_
  | with_reducible refine w_gt ?_
  | with_reducible refine w_ge ?_
  | with_reducible refine w_lt ?_
  | with_reducible refine w_le ?_
  | with_reducible refine w_subI ?_
  | with_reducible refine w_neg ?_
  | with_reducible refine w_addI ?_
  | with_reducible refine w_int ?_
  | with_reducible refine w_intB ?_
  | with_reducible refine w_abs ?_
  | with_reducible refine w_iteT ?_
  | with_reducible refine w_iteF ?_
  | with_reducible refine w_par ?_
  | with_reducible refine w_par3 ?_
  | with_reducible refine w_sl ?_
  | with_reducible refine w_nop ?_
  | with_reducible refine w_part ?_
  | with_reducible refine w_vint ?_
  | with_reducible refine w_vbl2 ?_
  | with_reducible refine w_vbl3 ?_
  | with_reducible refine w_lc ?_
  | with_reducible refine w_list ?_
  | with_reducible refine w_enum ?_
  | with_reducible refine w_fld ?_
  | with_reducible refine w_mk ?_
  | with_reducible refine w_yes ?_
  | with_reducible refine w_iz ?_
  | with_reducible refine w_var0 ?_
  | with_reducible refine w_var1 ?_
  | with_reducible refine w_var2 ?_
  | with_reducible refine w_var3 ?_
  | with_reducible refine w_var4 ?_
  | with_reducible refine w_var5 ?_
  | with_reducible refine w_var6 ?_
  | with_reducible refine w_var7 ?_
  | with_reducible refine w_var8 ?_
  | with_reducible refine w_var9 ?_
  | with_reducible refine w_var10 ?_
  | with_reducible refine w_var11 ?_
  | with_reducible refine w_var12 ?_
  | with_reducible refine w_var13 ?_
  | with_reducible refine w_var14 ?_
  | with_reducible refine w_var15 ?_
  | with_reducible refine w_nam0 ?_
  | with_reducible refine w_nam1 ?_
  | with_reducible refine w_nam2 ?_
  | with_reducible refine w_nam3 ?_
  | with_reducible refine w_nam4 ?_
  | with_reducible refine w_nam5 ?_
  | with_reducible refine w_nam6 ?_
  | with_reducible refine w_nam7 ?_
  | with_reducible refine w_nam8 ?_
  | with_reducible refine w_nam9 ?_
  | with_reducible refine w_nam10 ?_
  | with_reducible refine w_nam11 ?_
  | with_reducible refine w_nam12 ?_
  | with_reducible refine w_nam13 ?_
  | with_reducible refine w_nam14 ?_
  | with_reducible refine w_nam15 ?_
  | (with_reducible refine' w_eqS ?hs ?_; (case hs => with_unfolding_all rfl))
  | (with_reducible refine' w_neS ?hs ?_; (case hs => with_unfolding_all rfl))
  | (with_reducible refine' w_len ?hs ?_; (case hs => (simp only [List.length_cons, List.length_nil]; omega)))
  | (with_reducible refine' w_slL ?hs ?_; (case hs => wtm_at "rl"))
  | (with_reducible refine' w_mulI ?hs ?_; (case hs => (first | (refine cmul_r ?_; (constructor <;> omega)) | (refine cmul_l ?_; (constructor <;> omega)) | assumption)))
  | (with_reducible refine' w_mod ?hs ?_; (case hs => (first | omega | assumption)))
  | (with_reducible refine' w_div ?hs ?_; (case hs => (first | assumption | (refine cdiv_s ?_ ?_ <;> omega))))
  | (with_reducible refine' w_ixL ?hs ?ht ?_; (case hs => wtm_at "rl"); (case ht => wtm_at "ix"))
  | (with_reducible refine' w_ixT ?hs ?ht ?_; (case hs => wtm_at "rl"); (case ht => wtm_at "ix"))
  | (with_reducible refine' w_set0 ?hs ?_; (case hs => wtm_at "st"))
  | (with_reducible refine' w_set1 ?hs ?_; (case hs => wtm_at "st"))
  | (with_reducible refine' w_set2 ?hs ?_; (case hs => wtm_at "st"))
  | (with_reducible refine' w_lenL ?hs ?_; (case hs => wtm_at "rl"))
  | (with_reducible refine' w_lenT ?hs ?_; (case hs => wtm_at "rl"))
  | (with_reducible refine' w_gtup ?hs ?ht ?_; (case hs => wtm_at "rl"); (case ht => with_unfolding_all rfl))
  | rw [List.set_cons_zero]
  | rw [List.set_cons_succ]
  | rw [Bool.not_true]
  | rw [Bool.not_false])
local macro_rules | `(tactic| wtm_at "go") => `(tactic| repeat wtm_at "rd")
section
variable {P : Program} {w : World} {K : PySem.W.Frag} {mg : Str → Option Value} {base : Heap}
local macro_rules | `(tactic| wtm_at "rs") => `(tactic| first
  | with_reducible refine w_seq ?_
  | with_reducible refine w_asg ?_
  | with_reducible refine w_ret ?_
  | with_reducible refine w_op ?_
  | with_reducible refine w_cb ?_
  | with_reducible refine w_cons ?_
  | with_reducible refine w_nil ?_
  | with_reducible refine w_c ?_
  | with_reducible refine w_if ?_
  | with_reducible refine w_test ?_
  | with_reducible refine w_un ?_
  | with_reducible refine w_tup ?_
  | with_reducible refine w_call ?_
  | with_reducible refine w_and ?_
  | with_reducible refine w_or ?_
  | with_reducible refine w_not ?_
  | with_reducible refine w_ife ?_
  | with_reducible refine w_tB ?_
  | with_reducible refine w_andV ?_
  | with_reducible refine w_orV ?_
  | with_reducible refine w_notV ?_
  | with_reducible refine w_sub ?_
  | with_reducible refine w_gcons ?_
  | with_reducible refine w_gnil ?_
  | with_reducible refine w_next ?_
  | with_reducible refine w_drop ?_
  | with_reducible refine w_retN ?_
  | with_reducible refine w_brk ?_
  | with_reducible refine w_cont ?_
  | with_reducible refine w_bl ?_
  | with_reducible refine w_gt ?_
  | with_reducible refine w_ge ?_
  | with_reducible refine w_lt ?_
  | with_reducible refine w_le ?_
  | with_reducible refine w_subI ?_
  | with_reducible refine w_neg ?_
  | with_reducible refine w_addI ?_
  | with_reducible refine w_int ?_
  | with_reducible refine w_intB ?_
  | with_reducible refine w_abs ?_
  | with_reducible refine w_iteT ?_
  | with_reducible refine w_iteF ?_
  | with_reducible refine w_par ?_
  | with_reducible refine w_par3 ?_
  | with_reducible refine w_sl ?_
  | with_reducible refine w_nop ?_
  | with_reducible refine w_part ?_
  | with_reducible refine w_vint ?_
  | with_reducible refine w_vbl2 ?_
  | with_reducible refine w_vbl3 ?_
  | with_reducible refine w_lc ?_
  | with_reducible refine w_list ?_
  | with_reducible refine w_enum ?_
  | with_reducible refine w_fld ?_
  | with_reducible refine w_mk ?_
  | with_reducible refine w_yes ?_
  | with_reducible refine w_iz ?_
  | with_reducible refine w_var0 ?_
  | with_reducible refine w_var1 ?_
  | with_reducible refine w_var2 ?_
  | with_reducible refine w_var3 ?_
  | with_reducible refine w_var4 ?_
  | with_reducible refine w_var5 ?_
  | with_reducible refine w_var6 ?_
  | with_reducible refine w_var7 ?_
  | with_reducible refine w_var8 ?_
  | with_reducible refine w_var9 ?_
  | with_reducible refine w_var10 ?_
  | with_reducible refine w_var11 ?_
  | with_reducible refine w_var12 ?_
  | with_reducible refine w_var13 ?_
  | with_reducible refine w_var14 ?_
  | with_reducible refine w_var15 ?_
  | with_reducible refine w_nam0 ?_
  | with_reducible refine w_nam1 ?_
  | with_reducible refine w_nam2 ?_
  | with_reducible refine w_nam3 ?_
  | with_reducible refine w_nam4 ?_
  | with_reducible refine w_nam5 ?_
  | with_reducible refine w_nam6 ?_
  | with_reducible refine w_nam7 ?_
  | with_reducible refine w_nam8 ?_
  | with_reducible refine w_nam9 ?_
  | with_reducible refine w_nam10 ?_
  | with_reducible refine w_nam11 ?_
  | with_reducible refine w_nam12 ?_
  | with_reducible refine w_nam13 ?_
  | with_reducible refine w_nam14 ?_
  | with_reducible refine w_nam15 ?_
  | (with_reducible refine' w_eqS ?hs ?_; (case hs => with_unfolding_all rfl))
  | (with_reducible refine' w_neS ?hs ?_; (case hs => with_unfolding_all rfl))
  | (with_reducible refine' w_len ?hs ?_; (case hs => (simp only [List.length_cons, List.length_nil]; omega)))
  | (with_reducible refine' w_slL ?hs ?_; (case hs => wtm_at "rl"))
  | (with_reducible refine' w_mulI ?hs ?_; (case hs => (first | (refine cmul_r ?_; (constructor <;> omega)) | (refine cmul_l ?_; (constructor <;> omega)) | assumption)))
  | (with_reducible refine' w_mod ?hs ?_; (case hs => (first | omega | assumption)))
  | (with_reducible refine' w_div ?hs ?_; (case hs => (first | assumption | (refine cdiv_s ?_ ?_ <;> omega))))
  | (with_reducible refine' w_ixL ?hs ?ht ?_; (case hs => wtm_at "rl"); (case ht => wtm_at "ix"))
  | (with_reducible refine' w_ixT ?hs ?ht ?_; (case hs => wtm_at "rl"); (case ht => wtm_at "ix"))
  | (with_reducible refine' w_set0 ?hs ?_; (case hs => wtm_at "st"))
  | (with_reducible refine' w_set1 ?hs ?_; (case hs => wtm_at "st"))
  | (with_reducible refine' w_set2 ?hs ?_; (case hs => wtm_at "st"))
  | (with_reducible refine' w_lenL ?hs ?_; (case hs => wtm_at "rl"))
  | (with_reducible refine' w_lenT ?hs ?_; (case hs => wtm_at "rl"))
  | (with_reducible refine' w_gtup ?hs ?ht ?_; (case hs => wtm_at "rl"); (case ht => with_unfolding_all rfl))
  | rw [List.set_cons_zero]
  | rw [List.set_cons_succ]
  | rw [Bool.not_true]
  | rw [Bool.not_false])
local macro_rules | `(tactic| wtm_at "gs") => `(tactic| repeat wtm_at "rs")

def OkD (d : PyData) : Prop := ∀ n, n ≤ 11 → (PyData.list (List.replicate n d)).showable = true ∧ (PyData.list (List.replicate n d)).depth ≤ 100 ∧ (PyData.list (List.replicate n d)).shown.length ≤ sizeLine
def spKept (K : PySem.W.Frag) : Sp := fun vs H Q _ => ∃ (w : Addr) (v : V) (d : PyData), vs = [v] ∧ H w ≠ none ∧ Dt w K H v d ∧ OkD d ∧ ∀ H', Same H H' → Q (.bl true) H'
theorem same_ne {H H' : Hp} {w : Addr} (s : Same H H') (h : H w ≠ none) : H' w ≠ none := by
  cases e : H w with
  | none => exact absurd e h
  | some o =>
    rw [s _ _ e]
    simp
theorem ne_new {H : Hp} {w p : Addr} (h : H w ≠ none) (e : H p = none) : p ≠ w := fun z => h (z ▸ e)
theorem rep_snoc {α : Type} (n : Nat) (v : α) : List.replicate n v ++ [v] = List.replicate (n + 1) v := by rw [List.replicate_succ']
theorem cal__law_is_kept (T : Txt mg) (D : Def1 K mg "_law_is_kept" s__law_is_kept) (hS : SysM base) {C : Nat → Addr} (EC : Ec P w K mg base C) (c__law_first_ones : Cal P w K mg base "_law_first_ones" 4 P__law_first_ones (spTwo C 0 11 "given")) (c__law_second_ones : Cal P w K mg base "_law_second_ones" 4 P__law_second_ones (spTwo C 11 6 "index")) (c__law_is_alone : Cal P w K mg base "_law_is_alone" 3 P__law_is_alone (spAlone C)) : Cal P w K mg base "_law_is_kept" 5 P__law_is_kept (spKept K) := by
  have nd := sc__law_is_kept.nd
  refine D.cal (k := 5-1) sc__law_is_kept (fun vs H Q E h => ?_) (fun _ _ _ _ _ _ us hl => match us, hl with | [_], _ => rfl) fun f cdv A outer s H vs Q E hG hr h => have hu := hr.units; have hu2 := u150 hr; ⟨_, (pss_cons (ps_for PassesOwn.never rfl (k_list (K := K) rfl (pe_cal c__law_first_ones hG (hr.mono (by decide)) rfl (pa_cons (pv 0) pa_nil))) (pg_name (i := 1) nd rfl (Or.inl rfl)) (pss_cons (ps_if (pt_cmpR (k_ne (K := K) rfl hu) (pe_callB (k_repr (K := K) rfl hS hG hu2) rfl T.n_repr (by decide +kernel) (pa_cons (pe_lc (own := [("_law_e", 4)]) (by rfl) nd (k_list (K := K) rfl (pv 1)) (blkOk_by (own := [("_law_e", 4)]) (N := N__law_is_kept) (sc := defScope s__law_is_kept) (by decide +kernel)) (fun _ _ _ _ _ => (pg_name (i := 4) nd rfl (Or.inl rfl))) (fun _ _ _ _ _ => pts_nil) (fun _ _ _ _ _ => (k_eat (K := K) rfl (pv 4)))) pa_nil)) (pe_callB (k_repr (K := K) rfl hS hG hu2) rfl T.n_repr (by decide +kernel) (pa_cons (pe_op (k_mul (K := K) rfl) (pe_lst (pa_cons (pv 0) pa_nil)) pe_int) pa_nil)) (nomark _)) (pss_one (ps_ret pe_bl)) pss_nil) (pss_one (ps_if (pt_not (pt_val (pe_callB (k_all (K := K) rfl rfl) rfl T.n_all (by decide +kernel) (pa_cons (pe_lc (own := [("_law_at", 5), ("_law_e", 4)]) (by rfl) nd (k_enum (K := K) rfl rfl T.n_enumerate (pa_cons (pv 1) pa_nil)) (blkOk_by (own := [("_law_at", 5), ("_law_e", 4)]) (N := N__law_is_kept) (sc := defScope s__law_is_kept) (by decide +kernel)) (fun _ _ _ _ _ => (k_gtup (K := K) (n := 2) rfl rfl (pgs_cons (pg_name (i := 5) nd rfl (Or.inl rfl)) (pgs_cons (pg_name (i := 4) nd rfl (Or.inl rfl)) pgs_nil)))) (fun _ _ _ _ _ => pts_nil) (fun _ _ _ _ _ => (pe_cal c__law_is_alone hG (hr.mono (by decide)) rfl (pa_cons (pv 4) (pa_cons (pv 5) pa_nil))))) pa_nil)))) (pss_one (ps_ret pe_bl)) pss_nil)))) (pss_cons (ps_for PassesOwn.never rfl (k_list (K := K) rfl (pe_cal c__law_second_ones hG (hr.mono (by decide)) rfl (pa_cons (pv 0) pa_nil))) (pg_name (i := 1) nd rfl (Or.inl rfl)) (pss_cons (ps_if (pt_cmpR (k_ne (K := K) rfl hu) (pe_callB (k_repr (K := K) rfl hS hG hu2) rfl T.n_repr (by decide +kernel) (pa_cons (pe_lc (own := [("_law_e", 4)]) (by rfl) nd (k_list (K := K) rfl (pv 1)) (blkOk_by (own := [("_law_e", 4)]) (N := N__law_is_kept) (sc := defScope s__law_is_kept) (by decide +kernel)) (fun _ _ _ _ _ => (pg_name (i := 4) nd rfl (Or.inl rfl))) (fun _ _ _ _ _ => pts_nil) (fun _ _ _ _ _ => (k_eat (K := K) rfl (pv 4)))) pa_nil)) (pe_callB (k_repr (K := K) rfl hS hG hu2) rfl T.n_repr (by decide +kernel) (pa_cons (pe_op (k_mul (K := K) rfl) (pe_lst (pa_cons (pv 0) pa_nil)) pe_int) pa_nil)) (nomark _)) (pss_one (ps_ret pe_bl)) pss_nil) (pss_one (ps_if (pt_not (pt_val (pe_callB (k_all (K := K) rfl rfl) rfl T.n_all (by decide +kernel) (pa_cons (pe_lc (own := [("_law_at", 5), ("_law_e", 4)]) (by rfl) nd (k_enum (K := K) rfl rfl T.n_enumerate (pa_cons (pv 1) pa_nil)) (blkOk_by (own := [("_law_at", 5), ("_law_e", 4)]) (N := N__law_is_kept) (sc := defScope s__law_is_kept) (by decide +kernel)) (fun _ _ _ _ _ => (k_gtup (K := K) (n := 2) rfl rfl (pgs_cons (pg_name (i := 5) nd rfl (Or.inl rfl)) (pgs_cons (pg_name (i := 4) nd rfl (Or.inl rfl)) pgs_nil)))) (fun _ _ _ _ _ => pts_nil) (fun _ _ _ _ _ => (pe_cal c__law_is_alone hG (hr.mono (by decide)) rfl (pa_cons (pv 4) (pa_cons (pe_op (k_add (K := K) rfl) pe_int (pv 5)) pa_nil))))) pa_nil)))) (pss_one (ps_ret pe_bl)) pss_nil)))) (pss_cons (ps_par (i := 2) (j := 3) rfl nd rfl rfl (by decide) rfl rfl (pa_cons (pe_exc EC.x_InvalidText (hr.mono (by decide)) rfl (pa_cons (pv 0) pa_nil)) (pa_cons (pe_excK EC.x_InvalidText (hr.mono (by decide)) rfl (pk_cons (pv 0) pk_nil) rfl) pa_nil)) (by rfl)) (pss_cons (ps_if (PW.pt (pw_or (pt_cmpR (k_ne (K := K) rfl hu) (pe_callB (k_repr (K := K) rfl hS hG hu2) rfl T.n_repr (by decide +kernel) (pa_cons (pe_lst (pa_cons (k_eat (K := K) rfl (pv 2)) (pa_cons (k_eat (K := K) rfl (pv 3)) pa_nil))) pa_nil)) (pe_callB (k_repr (K := K) rfl hS hG hu2) rfl T.n_repr (by decide +kernel) (pa_cons (pe_lst (pa_cons (pv 0) (pa_cons (pv 0) pa_nil))) pa_nil)) (nomark _)) (pw_or1 (pt_not (pt_val (pe_cal c__law_is_alone hG (hr.mono (by decide)) rfl (pa_cons (pv 2) (pa_cons pe_int pa_nil)))))))) (pss_one (ps_ret pe_bl)) pss_nil) (pss_one (ps_ret (pe_callB (k_all (K := K) rfl rfl) rfl T.n_all (by decide +kernel) (pa_cons (pe_lc (own := [("_law_at", 5), ("_law_e", 4)]) (by rfl) nd (k_enum (K := K) rfl rfl T.n_enumerate (pa_cons (pe_lst (pa_cons (pe_exc0 F.excBase_ValueError EC.e_NotTold EC.g_NotTold EC.k_NotTold rfl) (pa_cons (pe_exc0 F.excBase_ValueError EC.e_NothingToUndo EC.g_NothingToUndo EC.k_NothingToUndo rfl) (pa_cons (pe_exc0 F.excBase_ValueError EC.e_NothingToRedo EC.g_NothingToRedo EC.k_NothingToRedo rfl) pa_nil)))) pa_nil)) (blkOk_by (own := [("_law_at", 5), ("_law_e", 4)]) (N := N__law_is_kept) (sc := defScope s__law_is_kept) (by decide +kernel)) (fun _ _ _ _ _ => (k_gtup (K := K) (n := 2) rfl rfl (pgs_cons (pg_name (i := 5) nd rfl (Or.inl rfl)) (pgs_cons (pg_name (i := 4) nd rfl (Or.inl rfl)) pgs_nil)))) (fun _ _ _ _ _ => pts_nil) (fun _ _ _ _ _ => (pe_cal c__law_is_alone hG (hr.mono (by decide)) rfl (pa_cons (pv 4) (pa_cons (pe_op (k_add (K := K) rfl) pe_int (pv 5)) pa_nil))))) pa_nil)))))))), ?_⟩
  · obtain ⟨w, v, d, rfl, _⟩ := h; rfl
  obtain ⟨w, v, d, rfl, hw, dv, ok, hQ⟩ := h
  rw [show L2.start N__law_is_kept [v] = [some v, none, none, none, none, none] from rfl]
  have s0 := Same.refl H
  wtm_at "gs"
  refine w_forL ?_
  wtm_at "gs"
  refine ⟨v, rfl, fun p l1 l2 es1 es2 H1 s1 ep e1 e2 x1 x2 => ?_⟩
  wtm_at "gs"
  refine ⟨p, rfl, ⟨_, SqL.of ep⟩, f_list (K := K) (xs := [.ref l1, .ref l2]) (fun i σ H' => ∃ u1 u4 u5, σ = [some v, u1, none, none, u4, u5] ∧ Same H1 H') ⟨_, _, _, rfl, Same.refl _⟩ ?_ ?_ ?_⟩
  · rintro i σ H' _ ⟨u1, u4, u5, rfl, sm⟩
    exact SqL.of (sm _ _ ep)
  · rintro i x σ H' hx ⟨u1, u4, u5, rfl, sm⟩
    have key : ∃ l es, x = V.ref l ∧ H' l = some (.lst es) ∧ ErrL C 0 11 "given" v H' es := by
      match i, hx with
      | 0, hx => cases hx; exact ⟨l1, es1, rfl, sm _ _ e1, x1.same sm⟩
      | 1, hx => cases hx; exact ⟨l2, es2, rfl, sm _ _ e2, x2.same sm⟩
    obtain ⟨l, es, rfl, el, xl⟩ := key
    have lx := xl.1
    have hw' := same_ne (s1.trans sm) (same_ne s0 hw)
    have dv' := dv.same (s0.trans (s1.trans sm))
    wtm_at "gs"
    refine ⟨l, rfl, ⟨_, SqL.of el⟩, fun D hD => c_lst (fun k acc => acc = List.replicate k v) hD (SqL.of el) rfl ?_ ?_⟩
    · rintro k e acc H5 he eD la ac s
      obtain ⟨a, rfl, xo⟩ := xl.2 k e he
      have hk : k < 11 := by
        have := (List.getElem?_eq_some_iff.mp he).1
        omega
      unfold LcT
      rw [show wipe [some v, some (V.ref l), none, none, u4, u5] (List.map (fun x => x.snd) [(Str.ofString "_law_e", 4)]) = [some v, some (V.ref l), none, none, none, u5] from rfl]
      wtm_at "gs"
      refine ⟨rfl, ?_⟩
      wtm_at "gs"
      refine ⟨a, _, v, rfl, EC.xf (0 + k) (by omega), EC.noG (0 + k) (by omega), xo.same s, ?_⟩
      exact PvA.put hD eD la s (by omega) (Same.refl _) (by rw [ac, rep_snoc])
    · intro acc H5 eD ac s
      rw [lx] at ac
      have dv5 := dv'.same s
      have hw5 := same_ne s hw'
      wtm_at "gs"
      refine w_rep (w := w) (d := .list (List.replicate 11 d)) (.lst (ne_new hw' hD) (SqL.of eD) (ac ▸ DtL.rep dv5 11)) (ok 11 (by decide)).1 (ok 11 (by decide)).2.1 (ok 11 (by decide)).2.2 ?_
      wtm_at "gs"
      refine w_lst ?_
      wtm_at "gs"
      intro p2 z2
      wtm_at "gs"
      have s2 := same_new (o := .lst [v]) z2
      refine w_repL upd_same (by decide) (by decide) (by show 1 * _ ≤ 1000; decide) fun p3 z3 => ?_
      rw [show (List.replicate (11 : Int).toNat [v]).flatten = List.replicate 11 v from rfl]
      have s3 := same_new (o := .lst (List.replicate 11 v)) z3
      wtm_at "gs"
      refine w_rep (w := w) (d := .list (List.replicate 11 d)) (.lst (ne_new (same_ne s2 hw5) z3) (SqL.of upd_same) (DtL.rep ((dv5.same s2).same s3) 11)) (ok 11 (by decide)).1 (ok 11 (by decide)).2.1 (ok 11 (by decide)).2.2 ?_
      refine w_neSame ?_
      have sA := s.trans (s2.trans s3)
      have el5 := sA _ _ el
      have xl5 := xl.same sA
      wtm_at "gs"
      refine ⟨l, _, rfl, SqL.of el5, fun D2 hD2 => c_enu (fun k acc => acc = List.replicate k (V.bl true)) hD2 (SqL.of el5) rfl ?_ ?_⟩
      · rintro k e acc2 H6 T he eD2 la ac2 s6 hT
        obtain ⟨a, rfl, xo⟩ := xl5.2 k e he
        have hk : k < 11 := by
          have := (List.getElem?_eq_some_iff.mp he).1
          omega
        unfold LcT
        rw [show wipe [some v, some (V.ref l), none, none, u4, u5] (List.map (fun x => x.snd) [(Str.ofString "_law_at", 5), (Str.ofString "_law_e", 4)]) = [some v, some (V.ref l), none, none, none, none] from rfl]
        wtm_at "gs"
        refine ⟨rfl, ?_⟩
        wtm_at "gs"
        have s7 := same_new (o := .tup [.int (k : Nat), .ref a]) hT
        refine ⟨a, 0 + k, by simp, by omega, (xo.er.same s6).same s7, fun H8 s8 => ?_⟩
        exact PvA.put hD2 eD2 la s6 (by omega) (s7.trans s8) (by rw [ac2, rep_snoc])
      · intro acc2 H6 eD2 ac2 s6
        rw [lx] at ac2
        wtm_at "gs"
        refine w_all (bs := List.replicate 11 true) (by rw [List.map_replicate, ← ac2]; exact SqL.of eD2) ?_
        rw [show (List.replicate 11 true).all id = true from rfl]
        wtm_at "gs"
        exact ⟨_, _, _, rfl, sm.trans (sA.trans s6)⟩
  rintro σ H2 ⟨u1, u4, u5, rfl, sm⟩
  have s0 := s0.trans (s1.trans sm)
  clear sm s1 ep e1 e2 x1 x2 p l1 l2 es1 es2 H1
  wtm_at "gs"
  refine w_forL ?_
  wtm_at "gs"
  refine ⟨v, rfl, fun p l1 l2 es1 es2 H1 s1 ep e1 e2 x1 x2 => ?_⟩
  wtm_at "gs"
  refine ⟨p, rfl, ⟨_, SqL.of ep⟩, f_list (K := K) (xs := [.ref l1, .ref l2]) (fun i σ H' => ∃ u1 u4 u5, σ = [some v, u1, none, none, u4, u5] ∧ Same H1 H') ⟨_, _, _, rfl, Same.refl _⟩ ?_ ?_ ?_⟩
  · rintro i σ H' _ ⟨u1, u4, u5, rfl, sm⟩
    exact SqL.of (sm _ _ ep)
  · rintro i x σ H' hx ⟨u1, u4, u5, rfl, sm⟩
    have key : ∃ l es, x = V.ref l ∧ H' l = some (.lst es) ∧ ErrL C 11 6 "index" v H' es := by
      match i, hx with
      | 0, hx => cases hx; exact ⟨l1, es1, rfl, sm _ _ e1, x1.same sm⟩
      | 1, hx => cases hx; exact ⟨l2, es2, rfl, sm _ _ e2, x2.same sm⟩
    obtain ⟨l, es, rfl, el, xl⟩ := key
    have lx := xl.1
    have hw' := same_ne (s1.trans sm) (same_ne s0 hw)
    have dv' := dv.same (s0.trans (s1.trans sm))
    wtm_at "gs"
    refine ⟨l, rfl, ⟨_, SqL.of el⟩, fun D hD => c_lst (fun k acc => acc = List.replicate k v) hD (SqL.of el) rfl ?_ ?_⟩
    · rintro k e acc H5 he eD la ac s
      obtain ⟨a, rfl, xo⟩ := xl.2 k e he
      have hk : k < 6 := by
        have := (List.getElem?_eq_some_iff.mp he).1
        omega
      unfold LcT
      rw [show wipe [some v, some (V.ref l), none, none, u4, u5] (List.map (fun x => x.snd) [(Str.ofString "_law_e", 4)]) = [some v, some (V.ref l), none, none, none, u5] from rfl]
      wtm_at "gs"
      refine ⟨rfl, ?_⟩
      wtm_at "gs"
      refine ⟨a, _, v, rfl, EC.xf (11 + k) (by omega), EC.noI (11 + k) (by omega) (by omega), xo.same s, ?_⟩
      exact PvA.put hD eD la s (by omega) (Same.refl _) (by rw [ac, rep_snoc])
    · intro acc H5 eD ac s
      rw [lx] at ac
      have dv5 := dv'.same s
      have hw5 := same_ne s hw'
      wtm_at "gs"
      refine w_rep (w := w) (d := .list (List.replicate 6 d)) (.lst (ne_new hw' hD) (SqL.of eD) (ac ▸ DtL.rep dv5 6)) (ok 6 (by decide)).1 (ok 6 (by decide)).2.1 (ok 6 (by decide)).2.2 ?_
      wtm_at "gs"
      refine w_lst ?_
      wtm_at "gs"
      intro p2 z2
      wtm_at "gs"
      have s2 := same_new (o := .lst [v]) z2
      refine w_repL upd_same (by decide) (by decide) (by show 1 * _ ≤ 1000; decide) fun p3 z3 => ?_
      rw [show (List.replicate (6 : Int).toNat [v]).flatten = List.replicate 6 v from rfl]
      have s3 := same_new (o := .lst (List.replicate 6 v)) z3
      wtm_at "gs"
      refine w_rep (w := w) (d := .list (List.replicate 6 d)) (.lst (ne_new (same_ne s2 hw5) z3) (SqL.of upd_same) (DtL.rep ((dv5.same s2).same s3) 6)) (ok 6 (by decide)).1 (ok 6 (by decide)).2.1 (ok 6 (by decide)).2.2 ?_
      refine w_neSame ?_
      have sA := s.trans (s2.trans s3)
      have el5 := sA _ _ el
      have xl5 := xl.same sA
      wtm_at "gs"
      refine ⟨l, _, rfl, SqL.of el5, fun D2 hD2 => c_enu (fun k acc => acc = List.replicate k (V.bl true)) hD2 (SqL.of el5) rfl ?_ ?_⟩
      · rintro k e acc2 H6 T he eD2 la ac2 s6 hT
        obtain ⟨a, rfl, xo⟩ := xl5.2 k e he
        have hk : k < 6 := by
          have := (List.getElem?_eq_some_iff.mp he).1
          omega
        unfold LcT
        rw [show wipe [some v, some (V.ref l), none, none, u4, u5] (List.map (fun x => x.snd) [(Str.ofString "_law_at", 5), (Str.ofString "_law_e", 4)]) = [some v, some (V.ref l), none, none, none, none] from rfl]
        wtm_at "gs"
        refine ⟨rfl, ?_⟩
        wtm_at "gs"
        have s7 := same_new (o := .tup [.int (k : Nat), .ref a]) hT
        refine ⟨a, 11 + k, by simp, by omega, (xo.er.same s6).same s7, fun H8 s8 => ?_⟩
        exact PvA.put hD2 eD2 la s6 (by omega) (s7.trans s8) (by rw [ac2, rep_snoc])
      · intro acc2 H6 eD2 ac2 s6
        rw [lx] at ac2
        wtm_at "gs"
        refine w_all (bs := List.replicate 6 true) (by rw [List.map_replicate, ← ac2]; exact SqL.of eD2) ?_
        rw [show (List.replicate 6 true).all id = true from rfl]
        wtm_at "gs"
        exact ⟨_, _, _, rfl, sm.trans (sA.trans s6)⟩
  rintro σ H2 ⟨u1, u4, u5, rfl, sm⟩
  have s0 := s0.trans (s1.trans sm)
  clear sm s1 ep e1 e2 x1 x2 p l1 l2 es1 es2 H1
  wtm_at "gs"
  refine ⟨v, rfl, fun a1 d1 na1 nd1 ne1 => ?_⟩
  have s3 := mk_same (f := "line") (v := v) (C := C 17) na1 nd1 ne1
  have x3 := mk_xo (H1 := H2) (f := "line") (v := v) (C := C 17) ne1
  generalize upd (upd (upd H2 a1 (exo a1 (C 17) none)) d1 (exd d1 [("line", v)])) a1 (exo a1 (C 17) (some d1)) = H3 at s3 x3 ⊢
  wtm_at "gs"
  refine ⟨v, rfl, fun a2 d2 na2 nd2 ne2 => ?_⟩
  have s4 := mk_same (f := "line") (v := v) (C := C 17) na2 nd2 ne2
  have x4 := mk_xo (H1 := H3) (f := "line") (v := v) (C := C 17) ne2
  generalize upd (upd (upd H3 a2 (exo a2 (C 17) none)) d2 (exd d2 [("line", v)])) a2 (exo a2 (C 17) (some d2)) = H4 at s4 x4 ⊢
  wtm_at "gs"
  refine w_lst ?_
  wtm_at "gs"
  refine ⟨a1, _, v, rfl, EC.xf 17 (by decide), EC.noL, x3.same s4, ?_⟩
  wtm_at "gs"
  refine ⟨a2, _, v, rfl, EC.xf 17 (by decide), EC.noL, x4, ?_⟩
  wtm_at "gs"
  intro p5 z5
  wtm_at "gs"
  have s5 := same_new (o := .lst [v, v]) z5
  have sA := s0.trans (s3.trans s4)
  have ok2 := ok 2 (by decide)
  have hwA := same_ne sA hw
  have dA := dv.same sA
  refine w_rep (w := w) (d := .list [d, d]) (.lst (ne_new hwA z5) (SqL.of upd_same) (.cons (dA.same s5) (.cons (dA.same s5) .nil))) ok2.1 ok2.2.1 ok2.2.2 ?_
  wtm_at "gs"
  refine w_lst ?_
  wtm_at "gs"
  intro p6 z6
  wtm_at "gs"
  have s6 := same_new (o := .lst [v, v]) z6
  refine w_rep (w := w) (d := .list [d, d]) (.lst (ne_new (same_ne s5 hwA) z6) (SqL.of upd_same) (.cons ((dA.same s5).same s6) (.cons ((dA.same s5).same s6) .nil))) ok2.1 ok2.2.1 ok2.2.2 ?_
  refine w_neSame ?_
  wtm_at "gs"
  refine ⟨a1, 17, rfl, by decide, (((x3.er.same s4).same s5).same s6), fun H8 s8 => ?_⟩
  wtm_at "gs"
  refine w_lst ?_
  wtm_at "gs"
  intro b1 y1
  wtm_at "gs"
  intro b2 y2
  wtm_at "gs"
  intro b3 y3
  wtm_at "gs"
  intro p7 z7
  wtm_at "gs"
  have t1 := same_new (o := exo b1 (C 18) none) y1
  have t2 := same_new (o := exo b2 (C 19) none) y2
  have t3 := same_new (o := exo b3 (C 20) none) y3
  have t4 := same_new (o := .lst [.ref b1, .ref b2, .ref b3]) z7
  have e1 : Er _ b1 (C 18) := Er.same (t2.trans (t3.trans t4)) ⟨none, upd_same, fun dd h => by cases h⟩
  have e2 : Er _ b2 (C 19) := Er.same (t3.trans t4) ⟨none, upd_same, fun dd h => by cases h⟩
  have e3 : Er _ b3 (C 20) := Er.same t4 ⟨none, upd_same, fun dd h => by cases h⟩
  have sB := sA.trans (s5.trans (s6.trans (s8.trans (t1.trans (t2.trans (t3.trans t4))))))
  refine ⟨p7, _, rfl, SqL.of upd_same, fun D hD => c_enu (fun k acc => acc = List.replicate k (V.bl true)) hD (SqL.of upd_same) rfl ?_ ?_⟩
  · rintro k e acc H9 T he eD la ac s hT
    have key : ∃ a, e = V.ref a ∧ k < 3 ∧ Er H9 a (C (18 + k)) := by
      match k, he with
      | 0, he => cases he; exact ⟨b1, rfl, by decide, e1.same s⟩
      | 1, he => cases he; exact ⟨b2, rfl, by decide, e2.same s⟩
      | 2, he => cases he; exact ⟨b3, rfl, by decide, e3.same s⟩
    obtain ⟨a, rfl, hk, ea⟩ := key
    unfold LcT
    rw [show wipe [some v, u1, some (V.ref a1), some (V.ref a2), u4, u5] (List.map (fun x => x.snd) [(Str.ofString "_law_at", 5), (Str.ofString "_law_e", 4)]) = [some v, u1, some (V.ref a1), some (V.ref a2), none, none] from rfl]
    wtm_at "gs"
    refine ⟨rfl, ?_⟩
    wtm_at "gs"
    have t5 := same_new (o := .tup [.int (k : Nat), .ref a]) hT
    refine ⟨a, 18 + k, by simp, by omega, ea.same t5, fun HA sA => ?_⟩
    exact PvA.put hD eD la s (by omega) (t5.trans sA) (by rw [ac, rep_snoc])
  · intro acc H9 eD ac s
    wtm_at "gs"
    refine w_all (bs := List.replicate 3 true) (by rw [List.map_replicate]; exact SqL.of (by rw [eD, ac]; rfl)) ?_
    exact hQ _ (sB.trans s)
end
end K1

set_option Elab.async false
set_option linter.all false
set_option maxRecDepth 100000
set_option maxHeartbeats 4000000
set_option autoImplicit false
namespace K1
open PySem PySem.Spec PyProof.Rows L2 RZ Gd
local macro_rules | `(tactic| wtm_at "ix") => `(tactic| first | exact at_0 | exact at_1 | exact at_2 | exact at_3 | exact at_4 | exact at_5 | exact ix_0 | exact ix_1 | exact ix_2 | exact ix_3)
local macro_rules | `(tactic| wtm_at "st") => `(tactic| first | assumption | exact upd_same | (with_reducible refine' hold_new ?hA ?hB; (case hB => assumption); (case hA => wtm_at "st")))
local macro_rules | `(tactic| wtm_at "rl") => `(tactic| first | assumption | (refine' SqL.of ?hC; (case hC => wtm_at "st")) | (refine' SqT.of ?hC; (case hC => wtm_at "st")))
local macro_rules | `(tactic| wtm_at "rd") => `(tactic| first
  | with_reducible refine w_seq ?_
  | with_reducible refine w_asg ?_
  | with_reducible refine w_ret ?_
  | with_reducible refine w_op ?_
  | with_reducible refine w_cb ?_
  | with_reducible refine w_cons ?_
  | with_reducible refine w_nil ?_
  | with_reducible refine w_c ?_
  | with_reducible refine w_if ?_
  | with_reducible refine w_test ?_
  | with_reducible refine w_un ?_
  | with_reducible refine w_tup ?_
  | with_reducible refine w_lst ?_
  | with_reducible refine w_call ?_
  | with_reducible refine w_and ?_
  | with_reducible refine w_or ?_
  | with_reducible refine w_not ?_
  | with_reducible refine w_ife ?_
  | with_reducible refine w_tB ?_
  | with_reducible refine w_andV ?_
  | with_reducible refine w_orV ?_
  | with_reducible refine w_notV ?_
  | with_reducible refine w_sub ?_
  | with_reducible refine w_gcons ?_
  | with_reducible refine w_gnil ?_
  | with_reducible refine w_next ?_
  | with_reducible refine w_drop ?_
  | with_reducible refine w_retN ?_
  | with_reducible refine w_brk ?_
  | with_reducible refine w_cont ?_
  | with_reducible refine w_bl ?_
  | with_reducible refine w_gt ?_
  | with_reducible refine w_ge ?_
  | with_reducible refine w_lt ?_
  | with_reducible refine w_le ?_
  | with_reducible refine w_subI ?_
  | with_reducible refine w_neg ?_
  | with_reducible refine w_addI ?_
  | with_reducible refine w_int ?_
  | with_reducible refine w_intB ?_
  | with_reducible refine w_abs ?_
  | with_reducible refine w_iteT ?_
  | with_reducible refine w_iteF ?_
  | with_reducible refine w_par ?_
  | with_reducible refine w_par3 ?_
  | with_reducible refine w_sl ?_
  | with_reducible refine w_nop ?_
  | with_reducible refine w_part ?_
  | with_reducible refine w_vint ?_
  | with_reducible refine w_vbl2 ?_
  | with_reducible refine w_vbl3 ?_
  | with_reducible refine w_lc ?_
  | with_reducible refine w_list ?_
  | with_reducible refine w_enum ?_
  | with_reducible refine w_fld ?_
  | with_reducible refine w_mk ?_
  | with_reducible refine w_yes ?_
  | with_reducible refine w_iz ?_
  | with_reducible refine w_var0 ?_
  | with_reducible refine w_var1 ?_
  | with_reducible refine w_var2 ?_
  | with_reducible refine w_var3 ?_
  | with_reducible refine w_var4 ?_
  | with_reducible refine w_var5 ?_
  | with_reducible refine w_var6 ?_
  | with_reducible refine w_var7 ?_
  | with_reducible refine w_var8 ?_
  | with_reducible refine w_var9 ?_
  | with_reducible refine w_var10 ?_
  | with_reducible refine w_var11 ?_
  | with_reducible refine w_var12 ?_
  | with_reducible refine w_var13 ?_
  | with_reducible refine w_var14 ?_
  | with_reducible refine w_var15 ?_
  | with_reducible refine w_nam0 ?_
  | with_reducible refine w_nam1 ?_
  | with_reducible refine w_nam2 ?_
  | with_reducible refine w_nam3 ?_
  | with_reducible refine w_nam4 ?_
  | with_reducible refine w_nam5 ?_
  | with_reducible refine w_nam6 ?_
  | with_reducible refine w_nam7 ?_
  | with_reducible refine w_nam8 ?_
  | with_reducible refine w_nam9 ?_
  | with_reducible refine w_nam10 ?_
  | with_reducible refine w_nam11 ?_
  | with_reducible refine w_nam12 ?_
  | with_reducible refine w_nam13 ?_
  | with_reducible refine w_nam14 ?_
  | with_reducible refine w_nam15 ?_
  | (with_reducible refine' w_eqS ?hs ?_; (case hs => with_unfolding_all rfl))
  | (with_reducible refine' w_neS ?hs ?_; (case hs => with_unfolding_all rfl))
  | (with_reducible refine' w_len ?hs ?_; (case hs => (simp only [List.length_cons, List.length_nil]; omega)))
  | (with_reducible refine' w_slL ?hs ?_; (case hs => wtm_at "rl"))
  | (with_reducible refine' w_mulI ?hs ?_; (case hs => (first | (refine cmul_r ?_; (constructor <;> omega)) | (refine cmul_l ?_; (constructor <;> omega)) | assumption)))
  | (with_reducible refine' w_mod ?hs ?_; (case hs => (first | omega | assumption)))
  | (with_reducible refine' w_div ?hs ?_; (case hs => (first | assumption | (refine cdiv_s ?_ ?_ <;> omega))))
  | (with_reducible refine' w_ixL ?hs ?ht ?_; (case hs => wtm_at "rl"); (case ht => wtm_at "ix"))
  | (with_reducible refine' w_ixT ?hs ?ht ?_; (case hs => wtm_at "rl"); (case ht => wtm_at "ix"))
  | (with_reducible refine' w_set0 ?hs ?_; (case hs => wtm_at "st"))
  | (with_reducible refine' w_set1 ?hs ?_; (case hs => wtm_at "st"))
  | (with_reducible refine' w_set2 ?hs ?_; (case hs => wtm_at "st"))
  | (with_reducible refine' w_lenL ?hs ?_; (case hs => wtm_at "rl"))
  | (with_reducible refine' w_lenT ?hs ?_; (case hs => wtm_at "rl"))
  | (with_reducible refine' w_gtup ?hs ?ht ?_; (case hs => wtm_at "rl"); (case ht => with_unfolding_all rfl))
  | rw [List.set_cons_zero]
  | rw [List.set_cons_succ]
  | rw [Bool.not_true]
  | rw [Bool.not_false])
local macro_rules | `(tactic| wtm_at "go") => `(tactic| repeat wtm_at "rd")
section
variable {P : Program} {w : World} {K : PySem.W.Frag} {mg : Str → Option Value} {base : Heap}
local macro_rules | `(tactic| wtm_at "rs") => `(tactic| first
  | with_reducible refine w_seq ?_
  | with_reducible refine w_asg ?_
  | with_reducible refine w_ret ?_
  | with_reducible refine w_op ?_
  | with_reducible refine w_cb ?_
  | with_reducible refine w_cons ?_
  | with_reducible refine w_nil ?_
  | with_reducible refine w_c ?_
  | with_reducible refine w_if ?_
  | with_reducible refine w_test ?_
  | with_reducible refine w_un ?_
  | with_reducible refine w_tup ?_
  | with_reducible refine w_call ?_
  | with_reducible refine w_and ?_
  | with_reducible refine w_or ?_
  | with_reducible refine w_not ?_
  | with_reducible refine w_ife ?_
  | with_reducible refine w_tB ?_
  | with_reducible refine w_andV ?_
  | with_reducible refine w_orV ?_
  | with_reducible refine w_notV ?_
  | with_reducible refine w_sub ?_
  | with_reducible refine w_gcons ?_
  | with_reducible refine w_gnil ?_
  | with_reducible refine w_next ?_
  | with_reducible refine w_drop ?_
  | with_reducible refine w_retN ?_
  | with_reducible refine w_brk ?_
  | with_reducible refine w_cont ?_
  | with_reducible refine w_bl ?_
  | with_reducible refine w_gt ?_
  | with_reducible refine w_ge ?_
  | with_reducible refine w_lt ?_
  | with_reducible refine w_le ?_
  | with_reducible refine w_subI ?_
  | with_reducible refine w_neg ?_
  | with_reducible refine w_addI ?_
  | with_reducible refine w_int ?_
  | with_reducible refine w_intB ?_
  | with_reducible refine w_abs ?_
  | with_reducible refine w_iteT ?_
  | with_reducible refine w_iteF ?_
  | with_reducible refine w_par ?_
  | with_reducible refine w_par3 ?_
  | with_reducible refine w_sl ?_
  | with_reducible refine w_nop ?_
  | with_reducible refine w_part ?_
  | with_reducible refine w_vint ?_
  | with_reducible refine w_vbl2 ?_
  | with_reducible refine w_vbl3 ?_
  | with_reducible refine w_lc ?_
  | with_reducible refine w_list ?_
  | with_reducible refine w_enum ?_
  | with_reducible refine w_fld ?_
  | with_reducible refine w_mk ?_
  | with_reducible refine w_yes ?_
  | with_reducible refine w_iz ?_
  | with_reducible refine w_var0 ?_
  | with_reducible refine w_var1 ?_
  | with_reducible refine w_var2 ?_
  | with_reducible refine w_var3 ?_
  | with_reducible refine w_var4 ?_
  | with_reducible refine w_var5 ?_
  | with_reducible refine w_var6 ?_
  | with_reducible refine w_var7 ?_
  | with_reducible refine w_var8 ?_
  | with_reducible refine w_var9 ?_
  | with_reducible refine w_var10 ?_
  | with_reducible refine w_var11 ?_
  | with_reducible refine w_var12 ?_
  | with_reducible refine w_var13 ?_
  | with_reducible refine w_var14 ?_
  | with_reducible refine w_var15 ?_
  | with_reducible refine w_nam0 ?_
  | with_reducible refine w_nam1 ?_
  | with_reducible refine w_nam2 ?_
  | with_reducible refine w_nam3 ?_
  | with_reducible refine w_nam4 ?_
  | with_reducible refine w_nam5 ?_
  | with_reducible refine w_nam6 ?_
  | with_reducible refine w_nam7 ?_
  | with_reducible refine w_nam8 ?_
  | with_reducible refine w_nam9 ?_
  | with_reducible refine w_nam10 ?_
  | with_reducible refine w_nam11 ?_
  | with_reducible refine w_nam12 ?_
  | with_reducible refine w_nam13 ?_
  | with_reducible refine w_nam14 ?_
  | with_reducible refine w_nam15 ?_
  | (with_reducible refine' w_eqS ?hs ?_; (case hs => with_unfolding_all rfl))
  | (with_reducible refine' w_neS ?hs ?_; (case hs => with_unfolding_all rfl))
  | (with_reducible refine' w_len ?hs ?_; (case hs => (simp only [List.length_cons, List.length_nil]; omega)))
  | (with_reducible refine' w_slL ?hs ?_; (case hs => wtm_at "rl"))
  | (with_reducible refine' w_mulI ?hs ?_; (case hs => (first | (refine cmul_r ?_; (constructor <;> omega)) | (refine cmul_l ?_; (constructor <;> omega)) | assumption)))
  | (with_reducible refine' w_mod ?hs ?_; (case hs => (first | omega | assumption)))
  | (with_reducible refine' w_div ?hs ?_; (case hs => (first | assumption | (refine cdiv_s ?_ ?_ <;> omega))))
  | (with_reducible refine' w_ixL ?hs ?ht ?_; (case hs => wtm_at "rl"); (case ht => wtm_at "ix"))
  | (with_reducible refine' w_ixT ?hs ?ht ?_; (case hs => wtm_at "rl"); (case ht => wtm_at "ix"))
  | (with_reducible refine' w_set0 ?hs ?_; (case hs => wtm_at "st"))
  | (with_reducible refine' w_set1 ?hs ?_; (case hs => wtm_at "st"))
  | (with_reducible refine' w_set2 ?hs ?_; (case hs => wtm_at "st"))
  | (with_reducible refine' w_lenL ?hs ?_; (case hs => wtm_at "rl"))
  | (with_reducible refine' w_lenT ?hs ?_; (case hs => wtm_at "rl"))
  | (with_reducible refine' w_gtup ?hs ?ht ?_; (case hs => wtm_at "rl"); (case ht => with_unfolding_all rfl))
  | rw [List.set_cons_zero]
  | rw [List.set_cons_succ]
  | rw [Bool.not_true]
  | rw [Bool.not_false])
local macro_rules | `(tactic| wtm_at "gs") => `(tactic| repeat wtm_at "rs")

theorem odd_ok : ∀ d ∈ oddL, OkD d := by
  have key : (oddL.all fun d => d.showable && (d.leavesShort 130 && (decide (d.bulk ≤ 2000) && decide (d.depth ≤ 20)))) = true := by decide +kernel
  intro d hd n hn
  have q := List.all_eq_true.mp key d hd
  simp only [Bool.and_eq_true, decide_eq_true_eq] at q
  exact (Sm.mk q.1 q.2.1 q.2.2.1 q.2.2.2).reps hn
def spRight : Sp := fun vs H Q _ => ∃ w, vs = [.ref w] ∧ Wl H w ∧ ∀ H', Kp w H H' → Q (.bl true) H'
theorem cal__law_right (T : Txt mg) (D : Def1 K mg "_law_right" s__law_right) (hS : SysM base) {C : Nat → Addr} (EC : Ec P w K mg base C) (c__law_is_kept : Cal P w K mg base "_law_is_kept" 5 P__law_is_kept (spKept K)) (c__law_odd : Cal P w K mg base "_law_odd" 3 P__law_odd (spOdd K)) (c__law_trial : Cal P w K mg base "_law_trial" 5 P__law_trial (spTrial K)) (c__law_sorts : Cal P w K mg base "_law_sorts" 2 P__law_sorts (spSorts C)) : Cal P w K mg base "_law_right" 6 P__law_right spRight := by
  have nd := sc__law_right.nd
  refine D.cal (k := 6-1) sc__law_right (fun vs H Q E h => ?_) (fun _ _ _ _ _ _ us hl => match us, hl with | [_], _ => rfl) fun f cdv A outer s H vs Q E hG hr h => have hu := hr.units; have hu2 := u150 hr; ⟨_, (pss_cons (ps_for PassesOwn.never rfl (pi_range1 rfl T.n_range (pa_cons pe_int pa_nil)) (pg_name (i := 1) nd rfl (Or.inl rfl)) (pss_one (ps_if (PW.pt (pw_or (pt_not (pt_val (pe_cal c__law_is_kept hG (hr.mono (by decide)) rfl (pa_cons (pe_cal c__law_odd hG (hr.mono (by decide)) rfl (pa_cons (pv 0) pa_nil)) pa_nil)))) (pw_or1 (pt_not (pt_val (pe_cal c__law_is_kept hG (hr.mono (by decide)) rfl (pa_cons (pe_cal c__law_trial hG (hr.mono (by decide)) rfl (pa_cons (pv 0) (pa_cons pe_int pa_nil))) pa_nil))))))) (pss_one (ps_ret pe_bl)) pss_nil))) (pss_one (ps_ret (pe_and (pe_callB (k_isx (K := K) rfl) rfl T.n_isinstance (by decide +kernel) (pa_cons (pe_exc0 F.excBase_ValueError EC.e_TrialError EC.g_TrialError EC.k_TrialError rfl) (pa_cons (pe_bltn (v := .ty "ValueError") rfl T.n_ValueError (by decide +kernel) rfl) pa_nil))) (pe_one (pe_cmpR (k_eq (K := K) rfl hu) (pe_cal c__law_sorts hG (hr.mono (by decide)) rfl (pa_cons (pe_exc0 F.excBase_ValueError EC.e_TrialError EC.g_TrialError EC.k_TrialError rfl) pa_nil)) (pe_lst pa_nil) (nomark _))))))), ?_⟩
  · obtain ⟨w, rfl, _⟩ := h; rfl
  obtain ⟨w, rfl, hw, hQ⟩ := h
  rw [show L2.start N__law_right [V.ref w] = [some (V.ref w), none] from rfl]
  wtm_at "gs"
  refine w_forR ?_
  wtm_at "gs"
  refine ⟨3, rfl, by decide, by decide, f_range (lo := 0) (k := 3) (fun i σ H' => ∃ u1, σ = [some (V.ref w), u1] ∧ Kp w H H' ∧ Wl H' w) ⟨_, rfl, Kp.refl _ _, hw⟩ ?_ ?_⟩
  · rintro i σ H' hi ⟨u1, rfl, kp, wl⟩
    wtm_at "gs"
    refine ⟨w, rfl, wl, fun d hd H1 v1 kp1 wl1 dv => ?_⟩
    wtm_at "gs"
    refine ⟨w, v1, d, rfl, wl1.ne, dv, odd_ok d hd, fun H2 s2 => ?_⟩
    wtm_at "gs"
    refine ⟨w, 3, rfl, by decide, by decide, wl1.same s2, fun t ht H3 v3 kp3 wl3 tv => ?_⟩
    wtm_at "gs"
    refine ⟨w, v3, t.d, rfl, wl3.ne, tv.dt, fun n hn => (ht.sm (by decide)).reps hn, fun H4 s4 => ?_⟩
    wtm_at "gs"
    exact ⟨_, rfl, kp.trans (kp1.trans ((Kp.same s2).trans (kp3.trans (Kp.same s4)))), wl3.same s4⟩
  · rintro σ H' ⟨u1, rfl, kp, wl⟩
    wtm_at "gs"
    intro a1 y1
    wtm_at "gs"
    have t1 := same_new (o := exo a1 (C 21) none) y1
    refine w_isx ⟨none, upd_same, fun dd h => by cases h⟩ (EC.ix 21 (by decide)) (.ty _) (EC.kv 21 (by decide)) ?_
    wtm_at "gs"
    intro a2 y2
    wtm_at "gs"
    have t2 := same_new (o := exo a2 (C 21) none) y2
    refine ⟨a2, 21, rfl, by decide, ⟨none, upd_same, fun dd h => by cases h⟩, fun H5 p s5 ep => ?_⟩
    rw [show sortsV 21 = [] from rfl] at ep
    wtm_at "gs"
    refine w_lst ?_
    wtm_at "gs"
    intro p2 z2
    have t3 := same_new (o := .lst []) z2
    refine w_eqD (d := .list []) (e := .list []) (.lst (SqL.of (t3 _ _ ep)) .nil) (.lst (SqL.of upd_same) .nil) rfl rfl ?_
    rw [show PyData.eqv (.list []) (.list []) = true from rfl]
    wtm_at "gs"
    exact hQ _ (kp.trans (Kp.same (t1.trans (t2.trans (s5.trans t3)))))

def spLaw (K : PySem.W.Frag) : Sp := fun vs H Q _ => ∃ (a : Addr) (ns : List Int), vs = [.ref a] ∧ SqL K H a (ns.map V.int) ∧ ns.length ≤ 1000000000 ∧ ∀ H', Q (.bl true) H'
theorem cal_law (T : Txt mg) (D : Def1 K mg "law" s_law)  (c__law_right : Cal P w K mg base "_law_right" 6 P__law_right spRight) (c__law_well : Cal P w K mg base "_law_well" 1 P__law_well (spWell K)) : Cal P w K mg base "law" 7 P_law (spLaw K) := by
  have nd := sc_law.nd
  refine D.cal (k := 7-1) sc_law (fun vs H Q E h => ?_) (fun _ _ _ _ _ _ us hl => match us, hl with | [_], _ => rfl) fun f cdv A outer s H vs Q E hG hr h => have hu := hr.units; have hu2 := u150 hr; ⟨_, (pss_one (ps_ret (pe_callB (k_all (K := K) rfl rfl) rfl T.n_all (by decide +kernel) (pa_cons (pe_lc (own := [("_law_lap", 1)]) (by rfl) nd (pi_range1 rfl T.n_range (pa_cons (pe_callB (call_max2 rfl) rfl T.n_max (by decide +kernel) (pa_cons pe_int (pa_cons (pe_callB (call_min2 rfl) rfl T.n_min (by decide +kernel) (pa_cons (pe_callB (k_len (K := K) rfl) rfl T.n_len (by decide +kernel) (pa_cons (pv 0) pa_nil)) (pa_cons pe_int pa_nil))) pa_nil))) pa_nil)) (blkOk_by (own := [("_law_lap", 1)]) (N := N_law) (sc := defScope s_law) (by decide +kernel)) (fun _ _ _ _ _ => (pg_name (i := 1) nd rfl (Or.inl rfl))) (fun _ _ _ _ _ => pts_nil) (fun _ _ _ _ _ => (pe_cal c__law_right hG (hr.mono (by decide)) rfl (pa_cons (pe_cal c__law_well hG (hr.mono (by decide)) rfl (pa_cons (pv 0) (pa_cons (pv 1) pa_nil))) pa_nil)))) pa_nil)))), ?_⟩
  · obtain ⟨a, ns, rfl, _⟩ := h; rfl
  obtain ⟨a, ns, rfl, hs, hn, hQ⟩ := h
  rw [show L2.start N_law [V.ref a] = [some (V.ref a), none] from rfl]
  wtm_at "gs"
  refine w_rng1 ?_
  wtm_at "gs"
  refine ⟨_, _, rfl, ?_⟩
  refine ⟨_, _, rfl, ?_⟩
  generalize hm : (if (if (4 : Int) < ((ns.map V.int).length : Nat) then (4 : Int) else ((ns.map V.int).length : Nat)) > 2 then (if (4 : Int) < ((ns.map V.int).length : Nat) then (4 : Int) else ((ns.map V.int).length : Nat)) else 2) = m
  have m4 : 0 ≤ m ∧ m ≤ 4 := by
    subst hm
    split <;> split <;> omega
  wtm_at "gs"
  refine ⟨m, rfl, by omega, by omega, fun D hD => c_rng (fun k acc => acc = List.replicate k (V.bl true)) hD rfl ?_ ?_⟩
  · intro i acc H5 hi eD la ac s
    unfold LcT
    rw [show wipe [some (V.ref a), none] (List.map (fun x => x.snd) [(Str.ofString "_law_lap", 1)]) = [some (V.ref a), none] from rfl]
    wtm_at "gs"
    refine ⟨rfl, ?_⟩
    wtm_at "gs"
    refine ⟨a, ns, _, rfl, s.seq hs, by omega, by omega, fun w H6 nw s6 wl => ?_⟩
    wtm_at "gs"
    refine ⟨w, rfl, wl, fun H7 k7 => ?_⟩
    exact PvA.put hD eD la s (by omega) (Kp.same_of nw s6 k7) (by rw [ac, rep_snoc])
  · intro acc H5 eD ac s
    wtm_at "gs"
    refine w_all (bs := List.replicate m.toNat true) (by rw [List.map_replicate, ← ac]; exact SqL.of eD) ?_
    rw [show (List.replicate m.toNat true).all id = true by simp [List.all_replicate]]
    exact hQ _
end
end K1

set_option Elab.async false
set_option linter.all false
set_option maxRecDepth 100000
set_option maxHeartbeats 0
set_option autoImplicit false
namespace K1
open PySem PySem.Spec PyProof.Rows L2 RZ Gd
/-! the head: what the top leaves, told by names -/
def iniOf : Stmt → Stmt
  | .ClassDef _ _ _ b _ _ _ _ _ _ _ => b.getD 0 (.Pass ⟨0, 0, 0, 0⟩)
  | s => s
def NM : List Str := ["InvalidTrial", "InvalidWorld", "InvalidQuestion", "InvalidTelling", "InvalidTable", "InvalidShares", "InvalidNumber", "InvalidName", "InvalidDeed", "Unlike", "Unfit", "InvalidLot", "InvalidRows", "InvalidWords", "InvalidRuns", "InvalidBook", "InvalidLines", "InvalidText", "NotTold", "NothingToUndo", "NothingToRedo", "TrialError"]
def Cf (K : PySem.W.Frag) (i : Nat) : Addr := He.ga K (NM.getD i "")
abbrev si_InvalidTrial : Stmt := iniOf (top 2)
def di_InvalidTrial : He.DefD := ⟨("InvalidTrial", some "__init__"), "__init__", "InvalidTrial.__init__", defArgs si_InvalidTrial, defBody si_InvalidTrial, defScope si_InvalidTrial, [], []⟩
abbrev si_InvalidWorld : Stmt := iniOf (top 3)
def di_InvalidWorld : He.DefD := ⟨("InvalidWorld", some "__init__"), "__init__", "InvalidWorld.__init__", defArgs si_InvalidWorld, defBody si_InvalidWorld, defScope si_InvalidWorld, [], []⟩
abbrev si_InvalidQuestion : Stmt := iniOf (top 4)
def di_InvalidQuestion : He.DefD := ⟨("InvalidQuestion", some "__init__"), "__init__", "InvalidQuestion.__init__", defArgs si_InvalidQuestion, defBody si_InvalidQuestion, defScope si_InvalidQuestion, [], []⟩
abbrev si_InvalidTelling : Stmt := iniOf (top 5)
def di_InvalidTelling : He.DefD := ⟨("InvalidTelling", some "__init__"), "__init__", "InvalidTelling.__init__", defArgs si_InvalidTelling, defBody si_InvalidTelling, defScope si_InvalidTelling, [], []⟩
abbrev si_InvalidTable : Stmt := iniOf (top 6)
def di_InvalidTable : He.DefD := ⟨("InvalidTable", some "__init__"), "__init__", "InvalidTable.__init__", defArgs si_InvalidTable, defBody si_InvalidTable, defScope si_InvalidTable, [], []⟩
abbrev si_InvalidShares : Stmt := iniOf (top 7)
def di_InvalidShares : He.DefD := ⟨("InvalidShares", some "__init__"), "__init__", "InvalidShares.__init__", defArgs si_InvalidShares, defBody si_InvalidShares, defScope si_InvalidShares, [], []⟩
abbrev si_InvalidNumber : Stmt := iniOf (top 8)
def di_InvalidNumber : He.DefD := ⟨("InvalidNumber", some "__init__"), "__init__", "InvalidNumber.__init__", defArgs si_InvalidNumber, defBody si_InvalidNumber, defScope si_InvalidNumber, [], []⟩
abbrev si_InvalidName : Stmt := iniOf (top 9)
def di_InvalidName : He.DefD := ⟨("InvalidName", some "__init__"), "__init__", "InvalidName.__init__", defArgs si_InvalidName, defBody si_InvalidName, defScope si_InvalidName, [], []⟩
abbrev si_InvalidDeed : Stmt := iniOf (top 10)
def di_InvalidDeed : He.DefD := ⟨("InvalidDeed", some "__init__"), "__init__", "InvalidDeed.__init__", defArgs si_InvalidDeed, defBody si_InvalidDeed, defScope si_InvalidDeed, [], []⟩
abbrev si_Unlike : Stmt := iniOf (top 11)
def di_Unlike : He.DefD := ⟨("Unlike", some "__init__"), "__init__", "Unlike.__init__", defArgs si_Unlike, defBody si_Unlike, defScope si_Unlike, [], []⟩
abbrev si_Unfit : Stmt := iniOf (top 12)
def di_Unfit : He.DefD := ⟨("Unfit", some "__init__"), "__init__", "Unfit.__init__", defArgs si_Unfit, defBody si_Unfit, defScope si_Unfit, [], []⟩
abbrev si_InvalidLot : Stmt := iniOf (top 13)
def di_InvalidLot : He.DefD := ⟨("InvalidLot", some "__init__"), "__init__", "InvalidLot.__init__", defArgs si_InvalidLot, defBody si_InvalidLot, defScope si_InvalidLot, [], []⟩
abbrev si_InvalidRows : Stmt := iniOf (top 14)
def di_InvalidRows : He.DefD := ⟨("InvalidRows", some "__init__"), "__init__", "InvalidRows.__init__", defArgs si_InvalidRows, defBody si_InvalidRows, defScope si_InvalidRows, [], []⟩
abbrev si_InvalidWords : Stmt := iniOf (top 15)
def di_InvalidWords : He.DefD := ⟨("InvalidWords", some "__init__"), "__init__", "InvalidWords.__init__", defArgs si_InvalidWords, defBody si_InvalidWords, defScope si_InvalidWords, [], []⟩
abbrev si_InvalidRuns : Stmt := iniOf (top 16)
def di_InvalidRuns : He.DefD := ⟨("InvalidRuns", some "__init__"), "__init__", "InvalidRuns.__init__", defArgs si_InvalidRuns, defBody si_InvalidRuns, defScope si_InvalidRuns, [], []⟩
abbrev si_InvalidBook : Stmt := iniOf (top 17)
def di_InvalidBook : He.DefD := ⟨("InvalidBook", some "__init__"), "__init__", "InvalidBook.__init__", defArgs si_InvalidBook, defBody si_InvalidBook, defScope si_InvalidBook, [], []⟩
abbrev si_InvalidLines : Stmt := iniOf (top 18)
def di_InvalidLines : He.DefD := ⟨("InvalidLines", some "__init__"), "__init__", "InvalidLines.__init__", defArgs si_InvalidLines, defBody si_InvalidLines, defScope si_InvalidLines, [], []⟩
abbrev si_InvalidText : Stmt := iniOf (top 19)
def di_InvalidText : He.DefD := ⟨("InvalidText", some "__init__"), "__init__", "InvalidText.__init__", defArgs si_InvalidText, defBody si_InvalidText, defScope si_InvalidText, [], []⟩
def d__law_well : He.DefD := ⟨("_law_well", none), "_law_well", "_law_well", defArgs s__law_well, defBody s__law_well, defScope s__law_well, [], []⟩
def d__law_draw : He.DefD := ⟨("_law_draw", none), "_law_draw", "_law_draw", defArgs s__law_draw, defBody s__law_draw, defScope s__law_draw, [], []⟩
def d__law_one : He.DefD := ⟨("_law_one", none), "_law_one", "_law_one", defArgs s__law_one, defBody s__law_one, defScope s__law_one, [], []⟩
def d__law_lean : He.DefD := ⟨("_law_lean", none), "_law_lean", "_law_lean", defArgs s__law_lean, defBody s__law_lean, defScope s__law_lean, [], []⟩
def d__law_minus : He.DefD := ⟨("_law_minus", none), "_law_minus", "_law_minus", defArgs s__law_minus, defBody s__law_minus, defScope s__law_minus, [], []⟩
def d__law_odd : He.DefD := ⟨("_law_odd", none), "_law_odd", "_law_odd", defArgs s__law_odd, defBody s__law_odd, defScope s__law_odd, [], []⟩
def d__law_number : He.DefD := ⟨("_law_number", none), "_law_number", "_law_number", defArgs s__law_number, defBody s__law_number, defScope s__law_number, [], []⟩
def d__law_numbers : He.DefD := ⟨("_law_numbers", none), "_law_numbers", "_law_numbers", defArgs s__law_numbers, defBody s__law_numbers, defScope s__law_numbers, [], []⟩
def d__law_trial : He.DefD := ⟨("_law_trial", none), "_law_trial", "_law_trial", defArgs s__law_trial, defBody s__law_trial, defScope s__law_trial, [], []⟩
def d__law_first_ones : He.DefD := ⟨("_law_first_ones", none), "_law_first_ones", "_law_first_ones", defArgs s__law_first_ones, defBody s__law_first_ones, defScope s__law_first_ones, [], []⟩
def d__law_second_ones : He.DefD := ⟨("_law_second_ones", none), "_law_second_ones", "_law_second_ones", defArgs s__law_second_ones, defBody s__law_second_ones, defScope s__law_second_ones, [], []⟩
def d__law_sorts : He.DefD := ⟨("_law_sorts", none), "_law_sorts", "_law_sorts", defArgs s__law_sorts, defBody s__law_sorts, defScope s__law_sorts, [], []⟩
def d__law_is_alone : He.DefD := ⟨("_law_is_alone", none), "_law_is_alone", "_law_is_alone", defArgs s__law_is_alone, defBody s__law_is_alone, defScope s__law_is_alone, [], []⟩
def d__law_is_kept : He.DefD := ⟨("_law_is_kept", none), "_law_is_kept", "_law_is_kept", defArgs s__law_is_kept, defBody s__law_is_kept, defScope s__law_is_kept, [], []⟩
def d__law_right : He.DefD := ⟨("_law_right", none), "_law_right", "_law_right", defArgs s__law_right, defBody s__law_right, defScope s__law_right, [], []⟩
def d_law : He.DefD := ⟨("law", none), "law", "law", defArgs s_law, defBody s_law, defScope s_law, [], []⟩
def fn : List He.DefD := [d__law_well, d__law_draw, d__law_one, d__law_lean, d__law_minus, d__law_odd, d__law_number, d__law_numbers, d__law_trial, d__law_first_ones, d__law_second_ones, d__law_sorts, d__law_is_alone, d__law_is_kept, d__law_right, d_law, di_InvalidTrial, di_InvalidWorld, di_InvalidQuestion, di_InvalidTelling, di_InvalidTable, di_InvalidShares, di_InvalidNumber, di_InvalidName, di_InvalidDeed, di_Unlike, di_Unfit, di_InvalidLot, di_InvalidRows, di_InvalidWords, di_InvalidRuns, di_InvalidBook, di_InvalidLines, di_InvalidText]
def fa : List He.Fa := [.glo "_law_well", .glo "_law_draw", .glo "_law_one", .glo "_law_lean", .glo "_law_minus", .glo "_law_odd", .glo "_law_number", .glo "_law_numbers", .glo "_law_trial", .glo "_law_first_ones", .glo "_law_second_ones", .glo "_law_sorts", .glo "_law_is_alone", .glo "_law_is_kept", .glo "_law_right", .glo "law", .glo "InvalidTrial", .glo "InvalidWorld", .glo "InvalidQuestion", .glo "InvalidTelling", .glo "InvalidTable", .glo "InvalidShares", .glo "InvalidNumber", .glo "InvalidName", .glo "InvalidDeed", .glo "Unlike", .glo "Unfit", .glo "InvalidLot", .glo "InvalidRows", .glo "InvalidWords", .glo "InvalidRuns", .glo "InvalidBook", .glo "InvalidLines", .glo "InvalidText", .glo "NotTold", .glo "NothingToUndo", .glo "NothingToRedo", .glo "TrialError", .free "int", .free "len", .free "abs", .free "divmod", .free "range", .free "tuple", .free "list", .free "zip", .free "enumerate", .free "repr", .free "isinstance", .free "all", .free "any", .free "max", .free "min", .free "bool", .free "ValueError", .free "TypeError", .free "KeyError", .free "IndexError", .free "ZeroDivisionError", .free "RuntimeError"]
def oexB (K : PySem.W.Frag) (C : Addr) : Bool := match K.lookup C with
  | some ⟨.type t, _, .cls cd, sl⟩ => decide (t = "type") && (match cd.mro, sl.toList with
    | .ref C' :: bm, [_, _, _, _, some (.builtin n), _] => decide (C' = C) && (decide (n = "ValueError.__new__") && (!cd.hasDel && (cd.hasDict && PySem.HandSPX.refsVE bm)))
    | _, _ => false)
  | _ => false
theorem oexB_ok {K : PySem.W.Frag} {C : Addr} (h : oexB K C = true) : ∃ nm q N bs bm sn sub ab col dd k0 k1 k2 k3 k5, K.lookup C = some (excClassObj nm q C N bs bm true sn sub ab col dd k0 k1 k2 k3 k5 "ValueError.__new__") ∧ PySem.HandSPX.refsVE bm = true := by
  unfold oexB at h
  split at h
  · rename_i t dd cd sl ho
    obtain ⟨h1, h⟩ := He.ba h
    have e1 := of_decide_eq_true h1
    clear h1
    subst e1
    split at h
    · rename_i C' bm k0 k1 k2 k3 n k5 hm hs
      obtain ⟨_, h⟩ := He.ba h
      obtain ⟨h2, h⟩ := He.ba h
      obtain ⟨h3, h⟩ := He.ba h
      obtain ⟨h4, h⟩ := He.ba h
      obtain ⟨h5, h6⟩ := He.ba h
      have e2 := of_decide_eq_true h2
      have e3 := of_decide_eq_true h3
      clear h2 h3
      subst e2
      subst e3
      obtain ⟨nm, bs, mro, ns, qn, hd, sn, sub, ab, col, del⟩ := cd
      dsimp only at hm h4 h5
      have h4' : del = false := by
        cases del with
        | true => cases h4
        | false => rfl
      subst hm h4' h5
      have hsl : sl = #[k0, k1, k2, k3, some (.builtin "ValueError.__new__"), k5] := by
        obtain ⟨l⟩ := sl
        simp only at hs
        rw [hs]
      subst hsl
      exact ⟨nm, qn, ns, bs, bm, sn, sub, ab, col, dd, k0, k1, k2, k3, k5, ho, h6⟩
    · obtain ⟨_, h⟩ := He.ba h
      cases h
  · cases h
def clB (K : PySem.W.Frag) (C : Addr) : Bool := (PySem.W.clsIn K C).isSome && (xfB K C && (decide (PySem.W.findIn K (.ref C) "__class__" = some (some (.builtin "object.__class__"))) && decide (PySem.W.mroIn K C (.type "object") = some true)))
def clA (K : PySem.W.Frag) : Bool := decide (PySem.W.specialIn K (.builtin "object.__class__") "__get__" = some (some (.builtin "getset_descriptor.__get__"))) && decide (PySem.W.takesIn K (.builtin "object.__class__") = some true)
theorem clB_ok {K : PySem.W.Frag} {C : Addr} (a : clA K = true) (h : clB K C = true) : IxC K C ∧ XfC K C := by
  obtain ⟨a1, a2⟩ := He.ba a
  obtain ⟨h1, h⟩ := He.ba h
  obtain ⟨h2, h⟩ := He.ba h
  obtain ⟨h3, h4⟩ := He.ba h
  have x := xfB_ok h2
  exact ⟨⟨h1, x.ga, x.gg, x.exC, of_decide_eq_true h3, of_decide_eq_true a1, of_decide_eq_true a2, of_decide_eq_true h4⟩, x⟩
/-- an error class with its own __init__ -/
def erB (K : PySem.W.Frag) (C : Addr) (f : Str) : Bool := oexB K C && (decide (PySem.W.findIn K (.ref C) "__setattr__" = some (some (.builtin "object.__setattr__"))) && (decide (PySem.W.typeIn K (.ref C) = some (.type "type")) && (PySem.W.keepIn K (.ref C) &&
  (decide (PySem.W.findIn K (.ref C) f = some none) && (decide (PySem.W.findIn K (.ref C) "__init__" = some (some (.ref (He.ma K C "__init__")))) && decide (PySem.W.typeIn K (.ref (He.ma K C "__init__")) = some (.type "function")))))))
def e0B (K : PySem.W.Frag) (C : Addr) : Bool := PySem.W.excIn K C [.type "ValueError", .type "Exception", .type "BaseException", .type "object"] "ValueError.__new__" && PySem.W.keepIn K (.ref C)
def kitB1 (K : PySem.W.Frag) (C D : Addr) (b : Bool) : Bool := decide (PySem.W.kitOne K (.ref C) (.ref D) = some b)
def kitB2 (K : PySem.W.Frag) (C : Addr) (s : String) (b : Bool) : Bool := decide (PySem.W.kitOne K (.ref C) (.type s) = some b)
def fl (i : Nat) : Str := if i < 11 then "given" else if i < 17 then "index" else "line"
def ex (K : PySem.W.Frag) : Bool := clA K && (((List.range 22).all fun i => clB K (Cf K i)) && (((List.range 18).all fun i => erB K (Cf K i) (fl i)) && ((e0B K (Cf K 18) && (e0B K (Cf K 19) && (e0B K (Cf K 20) && e0B K (Cf K 21)))) &&
  (((List.range 22).all fun i => (List.range 21).all fun j => kitB1 K (Cf K i) (Cf K j) (decide (i = j))) && ((List.range 22).all fun i => kitB1 K (Cf K i) (Cf K 21) true && (kitB2 K (Cf K i) "ValueError" true && (["TypeError", "KeyError", "IndexError", "ZeroDivisionError", "RuntimeError"].all fun s => kitB2 K (Cf K i) s false)))))))
abbrev R : PySem.W.OpenRow := PySem.W.OpenLaw.row PySem.Challenge.rw_trialground_k01_errors_each_of_its_own
abbrev hk : PySem.W.Hook := He.hookX 6 fa fn [] [] ex
def ob (s : PySem.W.SharedT) : He.AlX := He.obsX 6 fa fn [] [] ex (HandSHeadRun.getT s)
theorem ob_eq (s : PySem.W.SharedT) : ob s = hk.obs s.abs := He.obsX_eq (HandSHeadRun.getT_eq s)
end K1

set_option Elab.async false
set_option linter.all false
set_option maxRecDepth 100000
set_option maxHeartbeats 0
set_option autoImplicit false
namespace K1
open PySem PySem.Spec PyProof.Rows L2 RZ Gd
def LO : List PySem.Str := [PySem.Str.ofString "InvalidTrial", PySem.Str.ofString "InvalidWorld", PySem.Str.ofString "InvalidQuestion", PySem.Str.ofString "InvalidTelling", PySem.Str.ofString "InvalidTable", PySem.Str.ofString "InvalidShares", PySem.Str.ofString "InvalidNumber", PySem.Str.ofString "InvalidName", PySem.Str.ofString "InvalidDeed", PySem.Str.ofString "Unlike", PySem.Str.ofString "Unfit", PySem.Str.ofString "InvalidLot", PySem.Str.ofString "InvalidRows", PySem.Str.ofString "InvalidWords", PySem.Str.ofString "InvalidRuns", PySem.Str.ofString "InvalidBook", PySem.Str.ofString "InvalidLines", PySem.Str.ofString "InvalidText", PySem.Str.ofString "NotTold", PySem.Str.ofString "NothingToUndo", PySem.Str.ofString "NothingToRedo", PySem.Str.ofString "TrialError", PySem.Str.ofString "_law_well", PySem.Str.ofString "_law_draw", PySem.Str.ofString "_law_one", PySem.Str.ofString "_law_lean", PySem.Str.ofString "_law_minus", PySem.Str.ofString "_law_odd", PySem.Str.ofString "_law_number", PySem.Str.ofString "_law_numbers", PySem.Str.ofString "_law_trial", PySem.Str.ofString "_law_first_ones", PySem.Str.ofString "_law_second_ones", PySem.Str.ofString "_law_sorts", PySem.Str.ofString "_law_is_alone", PySem.Str.ofString "_law_is_kept", PySem.Str.ofString "_law_right"]
theorem run (w : World) : HandSHeadRun.RunEq R (PySem.W.view R.prog [39]) hk ob 6000 LO w := by
  intro os
  kernel_rfl
end K1

set_option Elab.async false
set_option linter.all false
set_option maxRecDepth 100000
set_option maxHeartbeats 8000000
set_option autoImplicit false
namespace K1
open PySem PySem.Spec PyProof.Rows L2 RZ Gd
/-! the head's facts, put together -/
section
variable {P : Program} {w : World} {K : PySem.W.Frag} {mg : Str → Option Value} {base : Heap} {f : Addr} {fd : FuncData}
theorem kw_one {qual : Str} {params : Arguments} {body : List Stmt} {scope : Scope} {g : Str} (F : FunD K "__init__" qual params body scope [] [] f fd)
    (h : ∀ (kV doc pm : Value) (an : Option Addr) (cdv ct u v : Value), bindArgs (PySem.W.fnOf "__init__" qual params body scope .none kV doc pm an cdv ct) ⟨[u], [(g, v)]⟩ = pure [(PySem.Str.ofString "self", u), (g, v)]) (s : Shared) (u v : Value) : BindsTo s fd ⟨[u], [(g, v)]⟩ [(PySem.Str.ofString "self", u), (g, v)] := by
  obtain ⟨oc, od, dV, kV, doc, pm, an, cdv, ct, osl, rfl, lk, hcd, hD, hK⟩ := F.ex
  rcases hD with ⟨_, rfl⟩ | ⟨e, _⟩
  · exact .of_eq (h kV doc pm an cdv ct u v)
  · exact absurd rfl e
theorem ini_pure {f : Str} {vs : List V} {H : Hp} {Q : VK} {E : XK} (h : spInit K f vs H Q E) : tOst K f (tVar 0) (tVar 1) { nx := fun _ H' => Q .non H', rt := Q } (start ["self", f] vs) H := by
  obtain ⟨a, C, v, rfl, o, no, e, q⟩ := h
  exact ⟨v, rfl, .ref a, rfl, a, C, rfl, o, no, .inl ⟨e, fun dx n ne => q dx n ne⟩⟩
theorem erI_of {x f : Str} {C fI : Addr} (g : mg x = some (.ref C)) (i : IxC K C ∧ XfC K C) (b : erB K C f = true) (e : fI = He.ma K C "__init__") (F : FnOk P w K mg base CX0 1 fI fd ["self", f] (spInit K f)) (hb : Binds K fd ["self", f] [])
    (hk : ∀ (s : Shared) (u v : Value), BindsTo s fd ⟨[u], [(f, v)]⟩ [("self", u), (f, v)]) : ErI P w K mg base x f C := by
  subst e
  obtain ⟨b1, b⟩ := He.ba b
  obtain ⟨b2, b⟩ := He.ba b
  obtain ⟨b3, b⟩ := He.ba b
  obtain ⟨b4, b⟩ := He.ba b
  obtain ⟨b5, b⟩ := He.ba b
  obtain ⟨b6, b7⟩ := He.ba b
  exact ⟨⟨g, ⟨oexB_ok b1, of_decide_eq_true b2, i.2.exC, of_decide_eq_true b3, b4⟩, i.2.ga, i.2.gg, i.2.hdC⟩, of_decide_eq_true b5, ⟨_, fd, of_decide_eq_true b6, of_decide_eq_true b7, F, hb, hk⟩⟩
theorem ini_InvalidTrial (F : FunD K "__init__" "InvalidTrial.__init__" (defArgs si_InvalidTrial) (defBody si_InvalidTrial) (defScope si_InvalidTrial) [] [] f fd) : FnOk P w K mg base CX0 1 f fd ["self", "given"] (spInit K "given") ∧ Binds K fd ["self", "given"] [] ∧ ∀ (s : Shared) (u v : Value), BindsTo s fd ⟨[u], [("given", v)]⟩ [("self", u), ("given", v)] := by
  have S : FnScope ["self", "given"] ["self", "given"] (defScope si_InvalidTrial) := ⟨rfl, rfl, rfl, by decide +kernel, rfl, by decide +kernel, by decide +kernel⟩
  refine ⟨F.ok S (fun vs H Q E h => ?_) (fun cdv A outer s H vs Q E hr h => ⟨_, PSs.nox (pss_one (ps_ost (pv 0) (pv 1))), ini_pure h⟩), F.bindsN fun _ _ _ _ _ _ us hl => match us, hl with | [_, _], _ => rfl, kw_one F fun _ _ _ _ _ _ _ _ => rfl⟩
  obtain ⟨a, C, v, rfl, _⟩ := h
  rfl
theorem ini_InvalidWorld (F : FunD K "__init__" "InvalidWorld.__init__" (defArgs si_InvalidWorld) (defBody si_InvalidWorld) (defScope si_InvalidWorld) [] [] f fd) : FnOk P w K mg base CX0 1 f fd ["self", "given"] (spInit K "given") ∧ Binds K fd ["self", "given"] [] ∧ ∀ (s : Shared) (u v : Value), BindsTo s fd ⟨[u], [("given", v)]⟩ [("self", u), ("given", v)] := by
  have S : FnScope ["self", "given"] ["self", "given"] (defScope si_InvalidWorld) := ⟨rfl, rfl, rfl, by decide +kernel, rfl, by decide +kernel, by decide +kernel⟩
  refine ⟨F.ok S (fun vs H Q E h => ?_) (fun cdv A outer s H vs Q E hr h => ⟨_, PSs.nox (pss_one (ps_ost (pv 0) (pv 1))), ini_pure h⟩), F.bindsN fun _ _ _ _ _ _ us hl => match us, hl with | [_, _], _ => rfl, kw_one F fun _ _ _ _ _ _ _ _ => rfl⟩
  obtain ⟨a, C, v, rfl, _⟩ := h
  rfl
theorem ini_InvalidQuestion (F : FunD K "__init__" "InvalidQuestion.__init__" (defArgs si_InvalidQuestion) (defBody si_InvalidQuestion) (defScope si_InvalidQuestion) [] [] f fd) : FnOk P w K mg base CX0 1 f fd ["self", "given"] (spInit K "given") ∧ Binds K fd ["self", "given"] [] ∧ ∀ (s : Shared) (u v : Value), BindsTo s fd ⟨[u], [("given", v)]⟩ [("self", u), ("given", v)] := by
  have S : FnScope ["self", "given"] ["self", "given"] (defScope si_InvalidQuestion) := ⟨rfl, rfl, rfl, by decide +kernel, rfl, by decide +kernel, by decide +kernel⟩
  refine ⟨F.ok S (fun vs H Q E h => ?_) (fun cdv A outer s H vs Q E hr h => ⟨_, PSs.nox (pss_one (ps_ost (pv 0) (pv 1))), ini_pure h⟩), F.bindsN fun _ _ _ _ _ _ us hl => match us, hl with | [_, _], _ => rfl, kw_one F fun _ _ _ _ _ _ _ _ => rfl⟩
  obtain ⟨a, C, v, rfl, _⟩ := h
  rfl
theorem ini_InvalidTelling (F : FunD K "__init__" "InvalidTelling.__init__" (defArgs si_InvalidTelling) (defBody si_InvalidTelling) (defScope si_InvalidTelling) [] [] f fd) : FnOk P w K mg base CX0 1 f fd ["self", "given"] (spInit K "given") ∧ Binds K fd ["self", "given"] [] ∧ ∀ (s : Shared) (u v : Value), BindsTo s fd ⟨[u], [("given", v)]⟩ [("self", u), ("given", v)] := by
  have S : FnScope ["self", "given"] ["self", "given"] (defScope si_InvalidTelling) := ⟨rfl, rfl, rfl, by decide +kernel, rfl, by decide +kernel, by decide +kernel⟩
  refine ⟨F.ok S (fun vs H Q E h => ?_) (fun cdv A outer s H vs Q E hr h => ⟨_, PSs.nox (pss_one (ps_ost (pv 0) (pv 1))), ini_pure h⟩), F.bindsN fun _ _ _ _ _ _ us hl => match us, hl with | [_, _], _ => rfl, kw_one F fun _ _ _ _ _ _ _ _ => rfl⟩
  obtain ⟨a, C, v, rfl, _⟩ := h
  rfl
theorem ini_InvalidTable (F : FunD K "__init__" "InvalidTable.__init__" (defArgs si_InvalidTable) (defBody si_InvalidTable) (defScope si_InvalidTable) [] [] f fd) : FnOk P w K mg base CX0 1 f fd ["self", "given"] (spInit K "given") ∧ Binds K fd ["self", "given"] [] ∧ ∀ (s : Shared) (u v : Value), BindsTo s fd ⟨[u], [("given", v)]⟩ [("self", u), ("given", v)] := by
  have S : FnScope ["self", "given"] ["self", "given"] (defScope si_InvalidTable) := ⟨rfl, rfl, rfl, by decide +kernel, rfl, by decide +kernel, by decide +kernel⟩
  refine ⟨F.ok S (fun vs H Q E h => ?_) (fun cdv A outer s H vs Q E hr h => ⟨_, PSs.nox (pss_one (ps_ost (pv 0) (pv 1))), ini_pure h⟩), F.bindsN fun _ _ _ _ _ _ us hl => match us, hl with | [_, _], _ => rfl, kw_one F fun _ _ _ _ _ _ _ _ => rfl⟩
  obtain ⟨a, C, v, rfl, _⟩ := h
  rfl
theorem ini_InvalidShares (F : FunD K "__init__" "InvalidShares.__init__" (defArgs si_InvalidShares) (defBody si_InvalidShares) (defScope si_InvalidShares) [] [] f fd) : FnOk P w K mg base CX0 1 f fd ["self", "given"] (spInit K "given") ∧ Binds K fd ["self", "given"] [] ∧ ∀ (s : Shared) (u v : Value), BindsTo s fd ⟨[u], [("given", v)]⟩ [("self", u), ("given", v)] := by
  have S : FnScope ["self", "given"] ["self", "given"] (defScope si_InvalidShares) := ⟨rfl, rfl, rfl, by decide +kernel, rfl, by decide +kernel, by decide +kernel⟩
  refine ⟨F.ok S (fun vs H Q E h => ?_) (fun cdv A outer s H vs Q E hr h => ⟨_, PSs.nox (pss_one (ps_ost (pv 0) (pv 1))), ini_pure h⟩), F.bindsN fun _ _ _ _ _ _ us hl => match us, hl with | [_, _], _ => rfl, kw_one F fun _ _ _ _ _ _ _ _ => rfl⟩
  obtain ⟨a, C, v, rfl, _⟩ := h
  rfl
theorem ini_InvalidNumber (F : FunD K "__init__" "InvalidNumber.__init__" (defArgs si_InvalidNumber) (defBody si_InvalidNumber) (defScope si_InvalidNumber) [] [] f fd) : FnOk P w K mg base CX0 1 f fd ["self", "given"] (spInit K "given") ∧ Binds K fd ["self", "given"] [] ∧ ∀ (s : Shared) (u v : Value), BindsTo s fd ⟨[u], [("given", v)]⟩ [("self", u), ("given", v)] := by
  have S : FnScope ["self", "given"] ["self", "given"] (defScope si_InvalidNumber) := ⟨rfl, rfl, rfl, by decide +kernel, rfl, by decide +kernel, by decide +kernel⟩
  refine ⟨F.ok S (fun vs H Q E h => ?_) (fun cdv A outer s H vs Q E hr h => ⟨_, PSs.nox (pss_one (ps_ost (pv 0) (pv 1))), ini_pure h⟩), F.bindsN fun _ _ _ _ _ _ us hl => match us, hl with | [_, _], _ => rfl, kw_one F fun _ _ _ _ _ _ _ _ => rfl⟩
  obtain ⟨a, C, v, rfl, _⟩ := h
  rfl
theorem ini_InvalidName (F : FunD K "__init__" "InvalidName.__init__" (defArgs si_InvalidName) (defBody si_InvalidName) (defScope si_InvalidName) [] [] f fd) : FnOk P w K mg base CX0 1 f fd ["self", "given"] (spInit K "given") ∧ Binds K fd ["self", "given"] [] ∧ ∀ (s : Shared) (u v : Value), BindsTo s fd ⟨[u], [("given", v)]⟩ [("self", u), ("given", v)] := by
  have S : FnScope ["self", "given"] ["self", "given"] (defScope si_InvalidName) := ⟨rfl, rfl, rfl, by decide +kernel, rfl, by decide +kernel, by decide +kernel⟩
  refine ⟨F.ok S (fun vs H Q E h => ?_) (fun cdv A outer s H vs Q E hr h => ⟨_, PSs.nox (pss_one (ps_ost (pv 0) (pv 1))), ini_pure h⟩), F.bindsN fun _ _ _ _ _ _ us hl => match us, hl with | [_, _], _ => rfl, kw_one F fun _ _ _ _ _ _ _ _ => rfl⟩
  obtain ⟨a, C, v, rfl, _⟩ := h
  rfl
theorem ini_InvalidDeed (F : FunD K "__init__" "InvalidDeed.__init__" (defArgs si_InvalidDeed) (defBody si_InvalidDeed) (defScope si_InvalidDeed) [] [] f fd) : FnOk P w K mg base CX0 1 f fd ["self", "given"] (spInit K "given") ∧ Binds K fd ["self", "given"] [] ∧ ∀ (s : Shared) (u v : Value), BindsTo s fd ⟨[u], [("given", v)]⟩ [("self", u), ("given", v)] := by
  have S : FnScope ["self", "given"] ["self", "given"] (defScope si_InvalidDeed) := ⟨rfl, rfl, rfl, by decide +kernel, rfl, by decide +kernel, by decide +kernel⟩
  refine ⟨F.ok S (fun vs H Q E h => ?_) (fun cdv A outer s H vs Q E hr h => ⟨_, PSs.nox (pss_one (ps_ost (pv 0) (pv 1))), ini_pure h⟩), F.bindsN fun _ _ _ _ _ _ us hl => match us, hl with | [_, _], _ => rfl, kw_one F fun _ _ _ _ _ _ _ _ => rfl⟩
  obtain ⟨a, C, v, rfl, _⟩ := h
  rfl
theorem ini_Unlike (F : FunD K "__init__" "Unlike.__init__" (defArgs si_Unlike) (defBody si_Unlike) (defScope si_Unlike) [] [] f fd) : FnOk P w K mg base CX0 1 f fd ["self", "given"] (spInit K "given") ∧ Binds K fd ["self", "given"] [] ∧ ∀ (s : Shared) (u v : Value), BindsTo s fd ⟨[u], [("given", v)]⟩ [("self", u), ("given", v)] := by
  have S : FnScope ["self", "given"] ["self", "given"] (defScope si_Unlike) := ⟨rfl, rfl, rfl, by decide +kernel, rfl, by decide +kernel, by decide +kernel⟩
  refine ⟨F.ok S (fun vs H Q E h => ?_) (fun cdv A outer s H vs Q E hr h => ⟨_, PSs.nox (pss_one (ps_ost (pv 0) (pv 1))), ini_pure h⟩), F.bindsN fun _ _ _ _ _ _ us hl => match us, hl with | [_, _], _ => rfl, kw_one F fun _ _ _ _ _ _ _ _ => rfl⟩
  obtain ⟨a, C, v, rfl, _⟩ := h
  rfl
theorem ini_Unfit (F : FunD K "__init__" "Unfit.__init__" (defArgs si_Unfit) (defBody si_Unfit) (defScope si_Unfit) [] [] f fd) : FnOk P w K mg base CX0 1 f fd ["self", "given"] (spInit K "given") ∧ Binds K fd ["self", "given"] [] ∧ ∀ (s : Shared) (u v : Value), BindsTo s fd ⟨[u], [("given", v)]⟩ [("self", u), ("given", v)] := by
  have S : FnScope ["self", "given"] ["self", "given"] (defScope si_Unfit) := ⟨rfl, rfl, rfl, by decide +kernel, rfl, by decide +kernel, by decide +kernel⟩
  refine ⟨F.ok S (fun vs H Q E h => ?_) (fun cdv A outer s H vs Q E hr h => ⟨_, PSs.nox (pss_one (ps_ost (pv 0) (pv 1))), ini_pure h⟩), F.bindsN fun _ _ _ _ _ _ us hl => match us, hl with | [_, _], _ => rfl, kw_one F fun _ _ _ _ _ _ _ _ => rfl⟩
  obtain ⟨a, C, v, rfl, _⟩ := h
  rfl
theorem ini_InvalidLot (F : FunD K "__init__" "InvalidLot.__init__" (defArgs si_InvalidLot) (defBody si_InvalidLot) (defScope si_InvalidLot) [] [] f fd) : FnOk P w K mg base CX0 1 f fd ["self", "index"] (spInit K "index") ∧ Binds K fd ["self", "index"] [] ∧ ∀ (s : Shared) (u v : Value), BindsTo s fd ⟨[u], [("index", v)]⟩ [("self", u), ("index", v)] := by
  have S : FnScope ["self", "index"] ["self", "index"] (defScope si_InvalidLot) := ⟨rfl, rfl, rfl, by decide +kernel, rfl, by decide +kernel, by decide +kernel⟩
  refine ⟨F.ok S (fun vs H Q E h => ?_) (fun cdv A outer s H vs Q E hr h => ⟨_, PSs.nox (pss_one (ps_ost (pv 0) (pv 1))), ini_pure h⟩), F.bindsN fun _ _ _ _ _ _ us hl => match us, hl with | [_, _], _ => rfl, kw_one F fun _ _ _ _ _ _ _ _ => rfl⟩
  obtain ⟨a, C, v, rfl, _⟩ := h
  rfl
theorem ini_InvalidRows (F : FunD K "__init__" "InvalidRows.__init__" (defArgs si_InvalidRows) (defBody si_InvalidRows) (defScope si_InvalidRows) [] [] f fd) : FnOk P w K mg base CX0 1 f fd ["self", "index"] (spInit K "index") ∧ Binds K fd ["self", "index"] [] ∧ ∀ (s : Shared) (u v : Value), BindsTo s fd ⟨[u], [("index", v)]⟩ [("self", u), ("index", v)] := by
  have S : FnScope ["self", "index"] ["self", "index"] (defScope si_InvalidRows) := ⟨rfl, rfl, rfl, by decide +kernel, rfl, by decide +kernel, by decide +kernel⟩
  refine ⟨F.ok S (fun vs H Q E h => ?_) (fun cdv A outer s H vs Q E hr h => ⟨_, PSs.nox (pss_one (ps_ost (pv 0) (pv 1))), ini_pure h⟩), F.bindsN fun _ _ _ _ _ _ us hl => match us, hl with | [_, _], _ => rfl, kw_one F fun _ _ _ _ _ _ _ _ => rfl⟩
  obtain ⟨a, C, v, rfl, _⟩ := h
  rfl
theorem ini_InvalidWords (F : FunD K "__init__" "InvalidWords.__init__" (defArgs si_InvalidWords) (defBody si_InvalidWords) (defScope si_InvalidWords) [] [] f fd) : FnOk P w K mg base CX0 1 f fd ["self", "index"] (spInit K "index") ∧ Binds K fd ["self", "index"] [] ∧ ∀ (s : Shared) (u v : Value), BindsTo s fd ⟨[u], [("index", v)]⟩ [("self", u), ("index", v)] := by
  have S : FnScope ["self", "index"] ["self", "index"] (defScope si_InvalidWords) := ⟨rfl, rfl, rfl, by decide +kernel, rfl, by decide +kernel, by decide +kernel⟩
  refine ⟨F.ok S (fun vs H Q E h => ?_) (fun cdv A outer s H vs Q E hr h => ⟨_, PSs.nox (pss_one (ps_ost (pv 0) (pv 1))), ini_pure h⟩), F.bindsN fun _ _ _ _ _ _ us hl => match us, hl with | [_, _], _ => rfl, kw_one F fun _ _ _ _ _ _ _ _ => rfl⟩
  obtain ⟨a, C, v, rfl, _⟩ := h
  rfl
theorem ini_InvalidRuns (F : FunD K "__init__" "InvalidRuns.__init__" (defArgs si_InvalidRuns) (defBody si_InvalidRuns) (defScope si_InvalidRuns) [] [] f fd) : FnOk P w K mg base CX0 1 f fd ["self", "index"] (spInit K "index") ∧ Binds K fd ["self", "index"] [] ∧ ∀ (s : Shared) (u v : Value), BindsTo s fd ⟨[u], [("index", v)]⟩ [("self", u), ("index", v)] := by
  have S : FnScope ["self", "index"] ["self", "index"] (defScope si_InvalidRuns) := ⟨rfl, rfl, rfl, by decide +kernel, rfl, by decide +kernel, by decide +kernel⟩
  refine ⟨F.ok S (fun vs H Q E h => ?_) (fun cdv A outer s H vs Q E hr h => ⟨_, PSs.nox (pss_one (ps_ost (pv 0) (pv 1))), ini_pure h⟩), F.bindsN fun _ _ _ _ _ _ us hl => match us, hl with | [_, _], _ => rfl, kw_one F fun _ _ _ _ _ _ _ _ => rfl⟩
  obtain ⟨a, C, v, rfl, _⟩ := h
  rfl
theorem ini_InvalidBook (F : FunD K "__init__" "InvalidBook.__init__" (defArgs si_InvalidBook) (defBody si_InvalidBook) (defScope si_InvalidBook) [] [] f fd) : FnOk P w K mg base CX0 1 f fd ["self", "index"] (spInit K "index") ∧ Binds K fd ["self", "index"] [] ∧ ∀ (s : Shared) (u v : Value), BindsTo s fd ⟨[u], [("index", v)]⟩ [("self", u), ("index", v)] := by
  have S : FnScope ["self", "index"] ["self", "index"] (defScope si_InvalidBook) := ⟨rfl, rfl, rfl, by decide +kernel, rfl, by decide +kernel, by decide +kernel⟩
  refine ⟨F.ok S (fun vs H Q E h => ?_) (fun cdv A outer s H vs Q E hr h => ⟨_, PSs.nox (pss_one (ps_ost (pv 0) (pv 1))), ini_pure h⟩), F.bindsN fun _ _ _ _ _ _ us hl => match us, hl with | [_, _], _ => rfl, kw_one F fun _ _ _ _ _ _ _ _ => rfl⟩
  obtain ⟨a, C, v, rfl, _⟩ := h
  rfl
theorem ini_InvalidLines (F : FunD K "__init__" "InvalidLines.__init__" (defArgs si_InvalidLines) (defBody si_InvalidLines) (defScope si_InvalidLines) [] [] f fd) : FnOk P w K mg base CX0 1 f fd ["self", "index"] (spInit K "index") ∧ Binds K fd ["self", "index"] [] ∧ ∀ (s : Shared) (u v : Value), BindsTo s fd ⟨[u], [("index", v)]⟩ [("self", u), ("index", v)] := by
  have S : FnScope ["self", "index"] ["self", "index"] (defScope si_InvalidLines) := ⟨rfl, rfl, rfl, by decide +kernel, rfl, by decide +kernel, by decide +kernel⟩
  refine ⟨F.ok S (fun vs H Q E h => ?_) (fun cdv A outer s H vs Q E hr h => ⟨_, PSs.nox (pss_one (ps_ost (pv 0) (pv 1))), ini_pure h⟩), F.bindsN fun _ _ _ _ _ _ us hl => match us, hl with | [_, _], _ => rfl, kw_one F fun _ _ _ _ _ _ _ _ => rfl⟩
  obtain ⟨a, C, v, rfl, _⟩ := h
  rfl
theorem ini_InvalidText (F : FunD K "__init__" "InvalidText.__init__" (defArgs si_InvalidText) (defBody si_InvalidText) (defScope si_InvalidText) [] [] f fd) : FnOk P w K mg base CX0 1 f fd ["self", "line"] (spInit K "line") ∧ Binds K fd ["self", "line"] [] ∧ ∀ (s : Shared) (u v : Value), BindsTo s fd ⟨[u], [("line", v)]⟩ [("self", u), ("line", v)] := by
  have S : FnScope ["self", "line"] ["self", "line"] (defScope si_InvalidText) := ⟨rfl, rfl, rfl, by decide +kernel, rfl, by decide +kernel, by decide +kernel⟩
  refine ⟨F.ok S (fun vs H Q E h => ?_) (fun cdv A outer s H vs Q E hr h => ⟨_, PSs.nox (pss_one (ps_ost (pv 0) (pv 1))), ini_pure h⟩), F.bindsN fun _ _ _ _ _ _ us hl => match us, hl with | [_, _], _ => rfl, kw_one F fun _ _ _ _ _ _ _ _ => rfl⟩
  obtain ⟨a, C, v, rfl, _⟩ := h
  rfl
theorem all_rng {n i : Nat} {p : Nat → Bool} (h : (List.range n).all p = true) (hi : i < n) : p i = true := List.all_eq_true.mp h i (List.mem_range.mpr hi)
theorem ec_of {h : Heap} (X : K.In h) (G : h.Ns mainGlobals mg) (c : He.SaysD fa fn K) (m : ex K = true) : Ec P w K mg base (Cf K) := by
  obtain ⟨mA, m⟩ := He.ba m
  obtain ⟨m1, m⟩ := He.ba m
  obtain ⟨m2, m⟩ := He.ba m
  obtain ⟨m3, m⟩ := He.ba m
  obtain ⟨m4, m5⟩ := He.ba m
  have cl : ∀ i, i < 22 → IxC K (Cf K i) ∧ XfC K (Cf K i) := fun i hi => clB_ok mA (all_rng (p := fun i => clB K (Cf K i)) m1 hi)
  have er : ∀ i, i < 18 → erB K (Cf K i) (fl i) = true := fun i hi => all_rng (p := fun i => erB K (Cf K i) (fl i)) m2 hi
  have no : ∀ i, i < 18 → PySem.W.findIn K (.ref (Cf K i)) (fl i) = some none := fun i hi => by
    obtain ⟨_, b⟩ := He.ba (er i hi)
    obtain ⟨_, b⟩ := He.ba b
    obtain ⟨_, b⟩ := He.ba b
    obtain ⟨_, b⟩ := He.ba b
    obtain ⟨b5, _⟩ := He.ba b
    exact of_decide_eq_true b5
  have k5 : ∀ i, i < 22 → kitB1 K (Cf K i) (Cf K 21) true = true ∧ kitB2 K (Cf K i) "ValueError" true = true ∧ (["TypeError", "KeyError", "IndexError", "ZeroDivisionError", "RuntimeError"].all fun s => kitB2 K (Cf K i) s false) = true := fun i hi => by
    obtain ⟨a, b⟩ := He.ba (all_rng m5 hi)
    obtain ⟨b, c⟩ := He.ba b
    exact ⟨a, b, c⟩
  obtain ⟨e18, m3⟩ := He.ba m3
  obtain ⟨e19, m3⟩ := He.ba m3
  obtain ⟨e20, e21⟩ := He.ba m3
  obtain ⟨fd0, F0⟩ := c.def_ 16 (d := di_InvalidTrial) rfl
  obtain ⟨fd1, F1⟩ := c.def_ 17 (d := di_InvalidWorld) rfl
  obtain ⟨fd2, F2⟩ := c.def_ 18 (d := di_InvalidQuestion) rfl
  obtain ⟨fd3, F3⟩ := c.def_ 19 (d := di_InvalidTelling) rfl
  obtain ⟨fd4, F4⟩ := c.def_ 20 (d := di_InvalidTable) rfl
  obtain ⟨fd5, F5⟩ := c.def_ 21 (d := di_InvalidShares) rfl
  obtain ⟨fd6, F6⟩ := c.def_ 22 (d := di_InvalidNumber) rfl
  obtain ⟨fd7, F7⟩ := c.def_ 23 (d := di_InvalidName) rfl
  obtain ⟨fd8, F8⟩ := c.def_ 24 (d := di_InvalidDeed) rfl
  obtain ⟨fd9, F9⟩ := c.def_ 25 (d := di_Unlike) rfl
  obtain ⟨fd10, F10⟩ := c.def_ 26 (d := di_Unfit) rfl
  obtain ⟨fd11, F11⟩ := c.def_ 27 (d := di_InvalidLot) rfl
  obtain ⟨fd12, F12⟩ := c.def_ 28 (d := di_InvalidRows) rfl
  obtain ⟨fd13, F13⟩ := c.def_ 29 (d := di_InvalidWords) rfl
  obtain ⟨fd14, F14⟩ := c.def_ 30 (d := di_InvalidRuns) rfl
  obtain ⟨fd15, F15⟩ := c.def_ 31 (d := di_InvalidBook) rfl
  obtain ⟨fd16, F16⟩ := c.def_ 32 (d := di_InvalidLines) rfl
  obtain ⟨fd17, F17⟩ := c.def_ 33 (d := di_InvalidText) rfl
  exact {
    g_InvalidTrial := He.glo_ok X G (c.fact 16 (f := .glo "InvalidTrial") rfl)
    g_InvalidWorld := He.glo_ok X G (c.fact 17 (f := .glo "InvalidWorld") rfl)
    g_InvalidQuestion := He.glo_ok X G (c.fact 18 (f := .glo "InvalidQuestion") rfl)
    g_InvalidTelling := He.glo_ok X G (c.fact 19 (f := .glo "InvalidTelling") rfl)
    g_InvalidTable := He.glo_ok X G (c.fact 20 (f := .glo "InvalidTable") rfl)
    g_InvalidShares := He.glo_ok X G (c.fact 21 (f := .glo "InvalidShares") rfl)
    g_InvalidNumber := He.glo_ok X G (c.fact 22 (f := .glo "InvalidNumber") rfl)
    g_InvalidName := He.glo_ok X G (c.fact 23 (f := .glo "InvalidName") rfl)
    g_InvalidDeed := He.glo_ok X G (c.fact 24 (f := .glo "InvalidDeed") rfl)
    g_Unlike := He.glo_ok X G (c.fact 25 (f := .glo "Unlike") rfl)
    g_Unfit := He.glo_ok X G (c.fact 26 (f := .glo "Unfit") rfl)
    g_InvalidLot := He.glo_ok X G (c.fact 27 (f := .glo "InvalidLot") rfl)
    g_InvalidRows := He.glo_ok X G (c.fact 28 (f := .glo "InvalidRows") rfl)
    g_InvalidWords := He.glo_ok X G (c.fact 29 (f := .glo "InvalidWords") rfl)
    g_InvalidRuns := He.glo_ok X G (c.fact 30 (f := .glo "InvalidRuns") rfl)
    g_InvalidBook := He.glo_ok X G (c.fact 31 (f := .glo "InvalidBook") rfl)
    g_InvalidLines := He.glo_ok X G (c.fact 32 (f := .glo "InvalidLines") rfl)
    g_InvalidText := He.glo_ok X G (c.fact 33 (f := .glo "InvalidText") rfl)
    g_NotTold := He.glo_ok X G (c.fact 34 (f := .glo "NotTold") rfl)
    g_NothingToUndo := He.glo_ok X G (c.fact 35 (f := .glo "NothingToUndo") rfl)
    g_NothingToRedo := He.glo_ok X G (c.fact 36 (f := .glo "NothingToRedo") rfl)
    g_TrialError := He.glo_ok X G (c.fact 37 (f := .glo "TrialError") rfl)
    x_InvalidTrial := erI_of (He.glo_ok X G (c.fact 16 (f := .glo "InvalidTrial") rfl)) (cl 0 (by decide)) (er 0 (by decide)) rfl (ini_InvalidTrial (P := P) (w := w) (mg := mg) (base := base) F0).1 (ini_InvalidTrial (P := P) (w := w) (mg := mg) (base := base) F0).2.1 (ini_InvalidTrial (P := P) (w := w) (mg := mg) (base := base) F0).2.2
    x_InvalidWorld := erI_of (He.glo_ok X G (c.fact 17 (f := .glo "InvalidWorld") rfl)) (cl 1 (by decide)) (er 1 (by decide)) rfl (ini_InvalidWorld (P := P) (w := w) (mg := mg) (base := base) F1).1 (ini_InvalidWorld (P := P) (w := w) (mg := mg) (base := base) F1).2.1 (ini_InvalidWorld (P := P) (w := w) (mg := mg) (base := base) F1).2.2
    x_InvalidQuestion := erI_of (He.glo_ok X G (c.fact 18 (f := .glo "InvalidQuestion") rfl)) (cl 2 (by decide)) (er 2 (by decide)) rfl (ini_InvalidQuestion (P := P) (w := w) (mg := mg) (base := base) F2).1 (ini_InvalidQuestion (P := P) (w := w) (mg := mg) (base := base) F2).2.1 (ini_InvalidQuestion (P := P) (w := w) (mg := mg) (base := base) F2).2.2
    x_InvalidTelling := erI_of (He.glo_ok X G (c.fact 19 (f := .glo "InvalidTelling") rfl)) (cl 3 (by decide)) (er 3 (by decide)) rfl (ini_InvalidTelling (P := P) (w := w) (mg := mg) (base := base) F3).1 (ini_InvalidTelling (P := P) (w := w) (mg := mg) (base := base) F3).2.1 (ini_InvalidTelling (P := P) (w := w) (mg := mg) (base := base) F3).2.2
    x_InvalidTable := erI_of (He.glo_ok X G (c.fact 20 (f := .glo "InvalidTable") rfl)) (cl 4 (by decide)) (er 4 (by decide)) rfl (ini_InvalidTable (P := P) (w := w) (mg := mg) (base := base) F4).1 (ini_InvalidTable (P := P) (w := w) (mg := mg) (base := base) F4).2.1 (ini_InvalidTable (P := P) (w := w) (mg := mg) (base := base) F4).2.2
    x_InvalidShares := erI_of (He.glo_ok X G (c.fact 21 (f := .glo "InvalidShares") rfl)) (cl 5 (by decide)) (er 5 (by decide)) rfl (ini_InvalidShares (P := P) (w := w) (mg := mg) (base := base) F5).1 (ini_InvalidShares (P := P) (w := w) (mg := mg) (base := base) F5).2.1 (ini_InvalidShares (P := P) (w := w) (mg := mg) (base := base) F5).2.2
    x_InvalidNumber := erI_of (He.glo_ok X G (c.fact 22 (f := .glo "InvalidNumber") rfl)) (cl 6 (by decide)) (er 6 (by decide)) rfl (ini_InvalidNumber (P := P) (w := w) (mg := mg) (base := base) F6).1 (ini_InvalidNumber (P := P) (w := w) (mg := mg) (base := base) F6).2.1 (ini_InvalidNumber (P := P) (w := w) (mg := mg) (base := base) F6).2.2
    x_InvalidName := erI_of (He.glo_ok X G (c.fact 23 (f := .glo "InvalidName") rfl)) (cl 7 (by decide)) (er 7 (by decide)) rfl (ini_InvalidName (P := P) (w := w) (mg := mg) (base := base) F7).1 (ini_InvalidName (P := P) (w := w) (mg := mg) (base := base) F7).2.1 (ini_InvalidName (P := P) (w := w) (mg := mg) (base := base) F7).2.2
    x_InvalidDeed := erI_of (He.glo_ok X G (c.fact 24 (f := .glo "InvalidDeed") rfl)) (cl 8 (by decide)) (er 8 (by decide)) rfl (ini_InvalidDeed (P := P) (w := w) (mg := mg) (base := base) F8).1 (ini_InvalidDeed (P := P) (w := w) (mg := mg) (base := base) F8).2.1 (ini_InvalidDeed (P := P) (w := w) (mg := mg) (base := base) F8).2.2
    x_Unlike := erI_of (He.glo_ok X G (c.fact 25 (f := .glo "Unlike") rfl)) (cl 9 (by decide)) (er 9 (by decide)) rfl (ini_Unlike (P := P) (w := w) (mg := mg) (base := base) F9).1 (ini_Unlike (P := P) (w := w) (mg := mg) (base := base) F9).2.1 (ini_Unlike (P := P) (w := w) (mg := mg) (base := base) F9).2.2
    x_Unfit := erI_of (He.glo_ok X G (c.fact 26 (f := .glo "Unfit") rfl)) (cl 10 (by decide)) (er 10 (by decide)) rfl (ini_Unfit (P := P) (w := w) (mg := mg) (base := base) F10).1 (ini_Unfit (P := P) (w := w) (mg := mg) (base := base) F10).2.1 (ini_Unfit (P := P) (w := w) (mg := mg) (base := base) F10).2.2
    x_InvalidLot := erI_of (He.glo_ok X G (c.fact 27 (f := .glo "InvalidLot") rfl)) (cl 11 (by decide)) (er 11 (by decide)) rfl (ini_InvalidLot (P := P) (w := w) (mg := mg) (base := base) F11).1 (ini_InvalidLot (P := P) (w := w) (mg := mg) (base := base) F11).2.1 (ini_InvalidLot (P := P) (w := w) (mg := mg) (base := base) F11).2.2
    x_InvalidRows := erI_of (He.glo_ok X G (c.fact 28 (f := .glo "InvalidRows") rfl)) (cl 12 (by decide)) (er 12 (by decide)) rfl (ini_InvalidRows (P := P) (w := w) (mg := mg) (base := base) F12).1 (ini_InvalidRows (P := P) (w := w) (mg := mg) (base := base) F12).2.1 (ini_InvalidRows (P := P) (w := w) (mg := mg) (base := base) F12).2.2
    x_InvalidWords := erI_of (He.glo_ok X G (c.fact 29 (f := .glo "InvalidWords") rfl)) (cl 13 (by decide)) (er 13 (by decide)) rfl (ini_InvalidWords (P := P) (w := w) (mg := mg) (base := base) F13).1 (ini_InvalidWords (P := P) (w := w) (mg := mg) (base := base) F13).2.1 (ini_InvalidWords (P := P) (w := w) (mg := mg) (base := base) F13).2.2
    x_InvalidRuns := erI_of (He.glo_ok X G (c.fact 30 (f := .glo "InvalidRuns") rfl)) (cl 14 (by decide)) (er 14 (by decide)) rfl (ini_InvalidRuns (P := P) (w := w) (mg := mg) (base := base) F14).1 (ini_InvalidRuns (P := P) (w := w) (mg := mg) (base := base) F14).2.1 (ini_InvalidRuns (P := P) (w := w) (mg := mg) (base := base) F14).2.2
    x_InvalidBook := erI_of (He.glo_ok X G (c.fact 31 (f := .glo "InvalidBook") rfl)) (cl 15 (by decide)) (er 15 (by decide)) rfl (ini_InvalidBook (P := P) (w := w) (mg := mg) (base := base) F15).1 (ini_InvalidBook (P := P) (w := w) (mg := mg) (base := base) F15).2.1 (ini_InvalidBook (P := P) (w := w) (mg := mg) (base := base) F15).2.2
    x_InvalidLines := erI_of (He.glo_ok X G (c.fact 32 (f := .glo "InvalidLines") rfl)) (cl 16 (by decide)) (er 16 (by decide)) rfl (ini_InvalidLines (P := P) (w := w) (mg := mg) (base := base) F16).1 (ini_InvalidLines (P := P) (w := w) (mg := mg) (base := base) F16).2.1 (ini_InvalidLines (P := P) (w := w) (mg := mg) (base := base) F16).2.2
    x_InvalidText := erI_of (He.glo_ok X G (c.fact 33 (f := .glo "InvalidText") rfl)) (cl 17 (by decide)) (er 17 (by decide)) rfl (ini_InvalidText (P := P) (w := w) (mg := mg) (base := base) F17).1 (ini_InvalidText (P := P) (w := w) (mg := mg) (base := base) F17).2.1 (ini_InvalidText (P := P) (w := w) (mg := mg) (base := base) F17).2.2
    e_NotTold := (He.ba e18).1
    k_NotTold := (He.ba e18).2
    e_NothingToUndo := (He.ba e19).1
    k_NothingToUndo := (He.ba e19).2
    e_NothingToRedo := (He.ba e20).1
    k_NothingToRedo := (He.ba e20).2
    e_TrialError := (He.ba e21).1
    k_TrialError := (He.ba e21).2
    ix := fun i hi => (cl i hi).1
    xf := fun i hi => (cl i (by omega)).2
    noG := fun i hi => by
      have q := no i (by omega)
      rwa [show fl i = "given" from if_pos hi] at q
    noI := fun i h1 h2 => by
      have q := no i (by omega)
      rwa [show fl i = "index" from (if_neg (by omega)).trans (if_pos h2)] at q
    noL := no 17 (by decide)
    kit := fun i j hi hj => of_decide_eq_true (all_rng (all_rng m4 hi) hj)
    kb := fun i hi => of_decide_eq_true (k5 i hi).1
    kv := fun i hi => of_decide_eq_true (k5 i hi).2.1
    kn := fun i s hi hs => of_decide_eq_true (List.all_eq_true.mp (k5 i hi).2.2 s (by simpa using hs)) }
theorem def1 {h : Heap} (X : K.In h) (G : h.Ns mainGlobals mg) {x : Str} {st : Stmt} (g : (He.Fa.glo x).ok K = true) (d : ∃ fd, FunD K x x (defArgs st) (defBody st) (defScope st) [] [] (He.ga K x) fd) : Def1 K mg x st := by
  obtain ⟨fd, F⟩ := d
  exact ⟨_, fd, F, He.glo_ok X G g⟩
theorem txt_of {h : Heap} (X : K.In h) (G : h.Ns mainGlobals mg) (c : He.SaysD fa fn K) : Txt mg := ⟨He.free_ok X G (c.fact 38 (f := .free "int") rfl), He.free_ok X G (c.fact 39 (f := .free "len") rfl), He.free_ok X G (c.fact 40 (f := .free "abs") rfl), He.free_ok X G (c.fact 41 (f := .free "divmod") rfl), He.free_ok X G (c.fact 42 (f := .free "range") rfl), He.free_ok X G (c.fact 43 (f := .free "tuple") rfl), He.free_ok X G (c.fact 44 (f := .free "list") rfl), He.free_ok X G (c.fact 45 (f := .free "zip") rfl), He.free_ok X G (c.fact 46 (f := .free "enumerate") rfl), He.free_ok X G (c.fact 47 (f := .free "repr") rfl), He.free_ok X G (c.fact 48 (f := .free "isinstance") rfl), He.free_ok X G (c.fact 49 (f := .free "all") rfl), He.free_ok X G (c.fact 50 (f := .free "any") rfl), He.free_ok X G (c.fact 51 (f := .free "max") rfl), He.free_ok X G (c.fact 52 (f := .free "min") rfl), He.free_ok X G (c.fact 53 (f := .free "bool") rfl), He.free_ok X G (c.fact 54 (f := .free "ValueError") rfl), He.free_ok X G (c.fact 55 (f := .free "TypeError") rfl), He.free_ok X G (c.fact 56 (f := .free "KeyError") rfl), He.free_ok X G (c.fact 57 (f := .free "IndexError") rfl), He.free_ok X G (c.fact 58 (f := .free "ZeroDivisionError") rfl), He.free_ok X G (c.fact 59 (f := .free "RuntimeError") rfl)⟩
theorem law_cal {h : Heap} (X : K.In h) (G : h.Ns mainGlobals mg) (c : He.SaysD fa fn K) (m : ex K = true) (S : SysM base) : Cal P w K mg base "law" 7 P_law (spLaw K) := by
  have T := txt_of X G c
  have EC : Ec P w K mg base (Cf K) := ec_of X G c m
  have D_law_well : Def1 K mg "_law_well" s__law_well := def1 X G (c.fact 0 (f := .glo "_law_well") rfl) (c.def_ 0 (d := d__law_well) rfl)
  have D_law_draw : Def1 K mg "_law_draw" s__law_draw := def1 X G (c.fact 1 (f := .glo "_law_draw") rfl) (c.def_ 1 (d := d__law_draw) rfl)
  have D_law_one : Def1 K mg "_law_one" s__law_one := def1 X G (c.fact 2 (f := .glo "_law_one") rfl) (c.def_ 2 (d := d__law_one) rfl)
  have D_law_lean : Def1 K mg "_law_lean" s__law_lean := def1 X G (c.fact 3 (f := .glo "_law_lean") rfl) (c.def_ 3 (d := d__law_lean) rfl)
  have D_law_minus : Def1 K mg "_law_minus" s__law_minus := def1 X G (c.fact 4 (f := .glo "_law_minus") rfl) (c.def_ 4 (d := d__law_minus) rfl)
  have D_law_odd : Def1 K mg "_law_odd" s__law_odd := def1 X G (c.fact 5 (f := .glo "_law_odd") rfl) (c.def_ 5 (d := d__law_odd) rfl)
  have D_law_number : Def1 K mg "_law_number" s__law_number := def1 X G (c.fact 6 (f := .glo "_law_number") rfl) (c.def_ 6 (d := d__law_number) rfl)
  have D_law_numbers : Def1 K mg "_law_numbers" s__law_numbers := def1 X G (c.fact 7 (f := .glo "_law_numbers") rfl) (c.def_ 7 (d := d__law_numbers) rfl)
  have D_law_trial : Def1 K mg "_law_trial" s__law_trial := def1 X G (c.fact 8 (f := .glo "_law_trial") rfl) (c.def_ 8 (d := d__law_trial) rfl)
  have D_law_first_ones : Def1 K mg "_law_first_ones" s__law_first_ones := def1 X G (c.fact 9 (f := .glo "_law_first_ones") rfl) (c.def_ 9 (d := d__law_first_ones) rfl)
  have D_law_second_ones : Def1 K mg "_law_second_ones" s__law_second_ones := def1 X G (c.fact 10 (f := .glo "_law_second_ones") rfl) (c.def_ 10 (d := d__law_second_ones) rfl)
  have D_law_sorts : Def1 K mg "_law_sorts" s__law_sorts := def1 X G (c.fact 11 (f := .glo "_law_sorts") rfl) (c.def_ 11 (d := d__law_sorts) rfl)
  have D_law_is_alone : Def1 K mg "_law_is_alone" s__law_is_alone := def1 X G (c.fact 12 (f := .glo "_law_is_alone") rfl) (c.def_ 12 (d := d__law_is_alone) rfl)
  have D_law_is_kept : Def1 K mg "_law_is_kept" s__law_is_kept := def1 X G (c.fact 13 (f := .glo "_law_is_kept") rfl) (c.def_ 13 (d := d__law_is_kept) rfl)
  have D_law_right : Def1 K mg "_law_right" s__law_right := def1 X G (c.fact 14 (f := .glo "_law_right") rfl) (c.def_ 14 (d := d__law_right) rfl)
  have Dlaw : Def1 K mg "law" s_law := def1 X G (c.fact 15 (f := .glo "law") rfl) (c.def_ 15 (d := d_law) rfl)
  have c_draw := cal__law_draw (P := P) (w := w) (base := base) T D_law_draw
  have c_well := cal__law_well (P := P) (w := w) (base := base) T D_law_well
  have c_one := cal__law_one T D_law_one c_draw
  have c_oneD : Cal P w K mg base "_law_one" 2 P__law_one (spOneD K) := c_one.imp fun _ _ _ _ q => one_d q
  have c_lean := cal__law_lean (P := P) (w := w) (base := base) T D_law_lean
  have c_minus := cal__law_minus T D_law_minus c_lean
  have c_number := cal__law_number T D_law_number c_draw c_oneD c_lean
  have c_numbers := cal__law_numbers T D_law_numbers c_number
  have c_odd := cal__law_odd T D_law_odd c_oneD
  have c_trial := cal__law_trial T D_law_trial c_draw c_one c_numbers c_minus
  have c_first := cal__law_first_ones T D_law_first_ones EC
  have c_second := cal__law_second_ones T D_law_second_ones EC
  have c_sorts := cal__law_sorts T D_law_sorts EC
  have c_alone := cal__law_is_alone T D_law_is_alone EC c_sorts
  have c_kept := cal__law_is_kept T D_law_is_kept S EC c_first c_second c_alone
  have c_right := cal__law_right T D_law_right S EC c_kept c_odd c_trial c_sorts
  exact cal_law T Dlaw c_right c_well
end
end K1
open PySem PySem.W PySem.Calls PyProof.Rows
theorem PySem.Challenge.cw_trialground_k01_errors_each_of_its_own_holds : PySem.Challenge.rw_trialground_k01_errors_each_of_its_own.Holds := by
  w_on; o_law
  refine HandSHeadRun.head_any (r := K1.R) (q := view K1.R.prog [39]) (H := K1.hk) (ob := K1.ob) (M := 6000) (loose := K1.LO) (d := HandSHeadRun.topDef K1.R.prog 39) (kwd := []) K1.ob_eq
    (by kernel_rfl) (fun s => by kernel_rfl) K1.run (by kernel_rfl) (by kernel_rfl) (by kernel_rfl) (by rfl) (by first | assumption | decide +kernel) (by decide +kernel) ⟨rfl, rfl, rfl, rfl, rfl, by decide +kernel⟩ ?hw ?hc
  case hw => w_witness2
  case hc =>
    refine Gd.walk_g (l := PySem.Challenge.rw_trialground_k01_errors_each_of_its_own) (n := 63) (k := 7) (x := "_law_script") (CX := fun _ => L2.CX0) rfl (by decide) (by kernel_rfl) ⟨rfl, by decide, by decide⟩ (by kernel_rfl) ?F (fun _ _ _ _ _ z => z)
    intro w mg fa h Y G hmg0
    obtain ⟨K, KX, c⟩ := Y
    have hmg : mg ("law" : PySem.Str) = some (.ref fa) := by
      have e : (HandSHeadRun.topDef K1.R.prog 39).name = ("law" : PySem.Str) := by kernel_rfl
      rw [← e]
      exact hmg0
    refine ⟨K, KX, [], K1.spLaw K, (fun p hp => nomatch hp), (fun p hp => nomatch hp), (fun p hp => nomatch hp), fun H a ns hl _ _ hS => ⟨a, ns, rfl, hS, by omega, fun _ => rfl⟩, fun base _ _ S _ => ?_⟩
    obtain ⟨f, fd, F, hm, hk, hb⟩ := K1.law_cal (P := (PySem.Challenge.rw_trialground_k01_errors_each_of_its_own).prog) (w := w) KX G c.t.d c.more S
    have e := hm.symm.trans hmg
    cases e
    exact ⟨fd, F, hb⟩
#print axioms PySem.Challenge.cw_trialground_k01_errors_each_of_its_own_holds
