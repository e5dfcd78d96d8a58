import PyProof.Rows.All
import Wide.All
import OpenK.AllK
import Wide.FinOn
import HandS.ForMost
import HandS.ForExc
import HandS.Defaults
import HandS.EndTab
import HandS.HeadWalk
import HandS.HeadHook4
import HandS.AnyAll
import HandS.Lambda
import HandS.TupAny
import HandS.TupMul
import HandS.WideBits
import HandS.Wide
import HandS.Zip
import HandS.IsInst
import HandS.Flow
import HandS.Style
import HandS.Gcd
import PyProof.ReprRoads
import HandS.Codes
import HandS.Iter
import HandS.ExcInit
import HandS.ExcOwn
import HandS.ExcValue
import HandS.ExcField
import KE.KExcIs
import PyProof.GenQ
import PyProof.ConsumeWalk
import HandS.GenOver
import HandS.GenList
import PyProof.ConsumeS
import KE.DataMinMax
import KE.GoesEnum
import KE.KMathGC
import KE.SortData
import HandS.Deep
import HandS.SetFor
import HandS.Strs
import PyProof.ReprBulk
import KE.KStateDown
import HandS.HeadHook1
import HandS.HeadHook2
import HandS.HeadHook3
import HandS.Head0
import HandS.Head1
import HandS.Head2
import HandS.Head3
import HandS.HeadEnd
import PySem.Challenge.RW_trialground_k28_signs_odd_lots_products
set_option Elab.async false
set_option linter.all false
set_option maxRecDepth 100000
set_option maxHeartbeats 2000000
/-! Gd: a def's promise kept where no printing is under way (repr may be asked there); its rules; the end of a law. -/
namespace Gd
open PySem PySem.Spec PyProof.Rows L2

/-- nothing is being printed around here -/
def Cl (A : Around) : Prop := A.guards = some []
theorem cl_caller : Cl callerA := rfl
theorem cl_deeper {A : Around} (h : Cl A) (env : Env) : Cl (A.deeper env) := by
  unfold Cl at *
  first
    | exact h
    | (simp [Around.deeper, h]; done)
    | (show (A.deeper env).guards = some []; unfold Around.deeper; simpa using h)
theorem cl_in1 {A : Around} (h : Cl A) : Cl A.in1 := h

/-- a def keeps its promise, wherever nothing is being printed -/
structure FnG (P : Program) (w : World) (K : PySem.W.Frag) (mg : Str → Option Value) (base : Heap) (CX : CXT) (k : Nat) (f : Addr) (fd : FuncData) (ps : List Str) (sp : Sp) : Prop where
  len : ∀ vs H Q E, sp vs H Q E → vs.length = ps.length
  run : ∀ (A : Around) (outer : List Env) (s : Shared) (H : Hp) (args : Args) (us : List Value) (vs : List V) (Q : VK) (E : XK), Cl A → Room k A → Env0 P w K mg base A outer s H → BindsTo s fd args (ps.zip us) → Vals vs us → sp vs H Q E →
    codeAny (model P w) A (.call (.ref f) args) (CR CX outer P w H s Q E) s

section
variable {P : Program} {w : World} {K : PySem.W.Frag} {mg : Str → Option Value} {base : Heap} {CX : CXT} {j k : Nat} {f : Addr} {fd : FuncData} {ps : List Str} {sp sp' : Sp}
theorem FnG.of (F : FnOk P w K mg base CX k f fd ps sp) : FnG P w K mg base CX k f fd ps sp :=
  ⟨F.len, fun A o s H a us vs Q E _ => F.run A o s H a us vs Q E⟩
theorem FnG.up (F : FnG P w K mg base CX j f fd ps sp) (h : j ≤ k) : FnG P w K mg base CX k f fd ps sp :=
  ⟨F.len, fun A o s H a us vs Q E g r => F.run A o s H a us vs Q E g (r.mono h)⟩
theorem FnG.imp (F : FnG P w K mg base CX k f fd ps sp) (h : ∀ vs H Q E, sp' vs H Q E → sp vs H Q E) : FnG P w K mg base CX k f fd ps sp' :=
  ⟨fun vs H Q E q => F.len vs H Q E (h vs H Q E q), fun A o s H a us vs Q E g r e b v q => F.run A o s H a us vs Q E g r e b v (h vs H Q E q)⟩

/-- the rule of a def, by its body -/
theorem FnG.ok {x qual : Str} {params : Arguments} {body : List Stmt} {scope : Scope} {dvs : List V} {kws : List (Str × V)} {N : List Str}
    (F : FunD K x qual params body scope dvs kws f fd) (S : FnScope N ps scope) (len : ∀ vs H Q E, sp vs H Q E → vs.length = ps.length)
    (hb : ∀ (cdv : Value) (A : Around) (outer : List Env) (s : Shared) (H : Hp) (vs : List V) (Q : VK) (E : XK), Cl (A.deeper (envOfC qual scope s.heap.objs.size f cdv)) → Room k (A.deeper (envOfC qual scope s.heap.objs.size f cdv)) → PySem.W.codeIn K cdv qual = true → (∀ c, K.lookup f = some c → ∃ fd', c.data = .func fd' ∧ fd'.code = cdv) → sp vs H Q E →
      ∃ t, PSs (cxOf CX P w K mg base N qual scope f cdv A outer s H E) body t ∧ t { nx := fun _ H' => Q .non H', rt := Q } (start N vs) H) :
    FnG P w K mg base CX (k + 1) f fd ps sp := by
  obtain ⟨oc, od, dV, kV, doc, pm, an, cdv, ct, osl, rfl, lk, hcd, _, _⟩ := F.ex
  refine ⟨len, fun A outer s H args us vs Q E hG hr e0 hbi r hsp => ?_⟩
  have hl := len _ _ _ _ hsp
  have old : ∀ b o, base.get? b = some o → s.heap.get? b = some o := fun b o e => (e0.bs b o e).1
  have KX : K.In s.heap := e0.mod.kin.keeps old
  have params_ok : ∀ y ∈ ps.zip us, scope.names.lookup y.1 = some .local ∨ (scope.names.lookup y.1 = some .cell ∧ ((cellsFrom (s.heap.objs.size + 1) scope.names []).lookup y.1).isSome = true) := by
    rintro ⟨n, v⟩ hy
    exact (S.par n (List.of_mem_zip hy).1).imp id fun q => ⟨q, PySem.W.cellsFrom_some _ _ _ (.inl q)⟩
  refine codeAny_call_function hr.depth (KX _ _ lk) rfl S.co S.gen rfl (PySem.W.codeRec_of KX hcd) (hbi _ _ _ _ ?_)
  refine wpAny_newFunctionEnv_cells S.kind params_ok fun env he s1 x => ?_
  subst he
  refine ⟨(e0.mod.nolimit.keeps old).keeps x.toInCall.keep, codeAny_func ?_⟩
  obtain ⟨t, ht, hq⟩ := hb cdv A outer s H vs Q E (cl_deeper hG _) (hr.deeper _) hcd (fun c hc => by rw [lk] at hc; cases hc; exact ⟨_, rfl, rfl⟩) hsp
  have I := inv_start (CX := CX) (P := P) (w := w) (E := E) S hr.hd e0 hl r x
  refine wpAny_mono (ht.run [] s1 _ H _ I hq) (fun fl s' hs => ?_) fun e s' hs => hs
  cases fl with
  | ret u =>
    obtain ⟨v, σ', H', J, rv, q⟩ := hs
    exact ⟨v, H', J.os, J.bare, J.base, J.hok, rv, q⟩
  | next =>
    obtain ⟨σ', H', J, q⟩ := hs
    exact ⟨.non, H', J.os, J.bare, J.base, J.hok, rfl, q⟩
  | brk => exact (show False from let ⟨_, _, _, q⟩ := hs; q).elim
  | cont => exact (show False from let ⟨_, _, _, q⟩ := hs; q).elim
end

/-! ### calls -/
section
variable {X : Cx} {CX : CXT} {k : Nat} {f : Addr} {fd : FuncData} {ps ks : List Str} {sp : Sp} {dvs : List V} {ds : List Value} {E : XK} {x : Str} {p pos : Pos} {e : Expr} {es : List Expr} {t tk : TA} {kws : List Keyword}
  {g : List Value → List Value → List Value} {gV : List V → List V → List V}
theorem run_g {pins : List (Addr × Obj)} {σ : L2.St} {H : Hp} {s : Shared} {Q : VK} {us vs' : List Value} {zs : List V} {args : Args} (F : FnG X.prog X.w X.K X.mg X.base CX k f fd ps sp) (hG : Cl X.A) (hr : Room k X.A) (hx : Passes CX X E)
    (I : Inv X pins σ H s) (hb : us.length = ps.length → BindsTo s fd args (ps.zip us)) (r : Vals zs us) (h : sp zs H Q E) : codeAny (model X.prog X.w) X.A (.call (.ref f) args) (fun r s' => match r with
      | .ok (.ret u) => EP X pins σ Q u s'
      | .ok _ => False
      | .error e => X.xe e s') s := by
  have hl : us.length = ps.length := by rw [← Paired.length r]; exact F.len _ _ _ _ h
  refine codeAny_mono (F.run X.A X.stack s H args us zs Q E hG hr I.env0 (hb hl) r h) fun r s' hq => ?_
  cases r with
  | error e => exact hx pins σ H s e s' I hq
  | ok fl =>
    cases fl with
    | ret u => exact I.after hq
    | next => exact hq
    | brk => exact hq
    | cont => exact hq
theorem call_g {pins : List (Addr × Obj)} {σ : L2.St} {H : Hp} {s : Shared} {Q : VK} {us : List Value} {zs : List V} {us0 : List Value} {kw : List (Str × Value)} (F : FnG X.prog X.w X.K X.mg X.base CX k f fd ps sp) (hG : Cl X.A) (hr : Room k X.A) (hx : Passes CX X E)
    (I : Inv X pins σ H s) (hb : us.length = ps.length → BindsTo s fd ⟨us0, kw⟩ (ps.zip us)) (r : Vals zs us) (h : sp zs H Q E) : wpAny (model X.prog X.w) X.A (call (.ref f) us0 kw) (EP X pins σ Q) X.xe s := by
  refine wpAny_call (codeAny_mono (run_g (vs' := us0) F hG hr hx I hb r h) fun r s' hq => ?_)
  cases r with
  | error e => exact hq
  | ok fl =>
    cases fl with
    | ret u => exact hq
    | next => exact hq.elim
    | brk => exact hq.elim
    | cont => exact hq.elim
/-- f(e, ..) -/
theorem pe_cg (F : FnG X.prog X.w X.K X.mg X.base CX k f fd ps sp) (hG : Cl X.A) (hr : Room k X.A) (hg : Gl X x) (hm : X.mg x = some (.ref f)) (hk : PySem.W.keepIn X.K (.ref f) = true) (hb : Binds X.K fd ps ds) (hd : Vals dvs ds) (hx : Passes CX X E)
    (ha : PA X (e :: es) t) (hdb : (x == ("__debug__" : Str)) = false := by decide) (he : starEach (e :: es) X.env = (false, eval e X.env) :: starEach es X.env := by rfl) (hpl : (backTo pos (starEach es X.env)).any (·.1) = false := by rfl) :
    PE X (.Call (.Name x p) (e :: es) [] pos) (tCall sp dvs E t) :=
  ⟨fun pins s σ H Q I h => wpAny_Call_Name_kw (ld_glob I hg hm (PySem.W.callWith_K (h₀ := X.base) I.ok.mod.kin hk (thn (ha.run pos pins s σ H _ I h) fun us s1 ⟨vs, H1, I1, r, q⟩ =>
    ⟨I1.kIn, call_g F hG hr hx I1 (hb s1 us I1.kIn) (r.append hd) q⟩) he hpl) hdb)⟩
/-- f() -/
theorem pe_cg0 (F : FnG X.prog X.w X.K X.mg X.base CX k f fd ps sp) (hG : Cl X.A) (hr : Room k X.A) (hg : Gl X x) (hm : X.mg x = some (.ref f)) (hk : PySem.W.keepIn X.K (.ref f) = true) (hb : Binds X.K fd ps ds) (hd : Vals dvs ds) (hx : Passes CX X E)
    (hdb : (x == ("__debug__" : Str)) = false := by decide) : PE X (.Call (.Name x p) [] [] pos) (tCall sp dvs E tNil) :=
  ⟨fun pins s σ H Q I h => wpAny_Call_Name_kw (ld_glob I hg hm (PySem.W.callWith_K0 I.kIn hk (call_g (us0 := []) F hG hr hx I (hb s [] I.kIn) (.append .nil hd) h)) hdb)⟩
end

section
variable {X : Cx} {CX : CXT} {k : Nat} {f : Addr} {fd : FuncData} {ps ks : List Str} {sp : Sp} {E : XK} {x : Str} {p pos : Pos} {e : Expr} {es : List Expr} {t tk : TA} {kws : List Keyword} {n m : Nat}
  {g : {α : Type} → List α → List α → List α}
/-- n values by position, m by name (ks): g puts them in the parameters' order -/
structure KwB (K : PySem.W.Frag) (fd : FuncData) (ps ks : List Str) (n : Nat) (g : {α : Type} → List α → List α → List α) : Prop where
  to : ∀ (s : Shared) (us ws : List Value), us.length = n → ws.length = ks.length → BindsTo s fd ⟨us, ks.zip ws⟩ (ps.zip (g us ws))
  rel : ∀ {vs zs : List V} {us ws : List Value}, Vals vs us → Vals zs ws → vs.length = n → zs.length = ks.length → Vals (g vs zs) (g us ws)
/-- f(e, .., k = v, ..) -/
def tCK (sp : Sp) (n m : Nat) (g : {α : Type} → List α → List α → List α) (E : XK) (t tk : TA) : TE := fun σ H Q => t σ H fun vs H1 => tk σ H1 fun zs H2 => vs.length = n ∧ zs.length = m ∧ sp (g vs zs) H2 Q E
theorem pe_ck0 (F : FnG X.prog X.w X.K X.mg X.base CX k f fd ps sp) (hG : Cl X.A) (hr : Room k X.A) (hg : Gl X x) (hm : X.mg x = some (.ref f)) (hk : PySem.W.keepIn X.K (.ref f) = true) (hb : KwB X.K fd ps ks 0 g) (hx : Passes CX X E) (hkw : PK X kws tk)
    (hall : (backToKw pos (keywordEach kws X.env)).all (·.1.isSome) = true := by rfl) (hks : (backToKw pos (keywordEach kws X.env)).filterMap (·.1) = ks := by rfl) (hdb : (x == ("__debug__" : Str)) = false := by decide)
    (hpl : ((backTo pos (starEach [] X.env)).any (·.1) || (backToKw pos (keywordEach kws X.env)).any (·.1.isNone)) = false := by rfl) :
    PE X (.Call (.Name x p) [] kws pos) (tCK sp 0 ks.length g E tNil tk) := by
  refine ⟨fun pins s σ H Q I h => wpAny_Call_Name_kw (ld_glob I hg hm (PySem.W.callWith_KW0 (h₀ := X.base) I.ok.mod.kin hk hall (thn (hkw.run pos pins s σ H _ I h) fun ws s2 ⟨zs, H2, I2, rz, l1, l2, q2⟩ => ⟨I2.kIn, ?_⟩) hpl) hdb)⟩
  rw [hks]
  have lw : ws.length = ks.length := by rw [← Paired.length rz]; exact l2
  exact call_g (us := g [] ws) (zs := g [] zs) F hG hr hx I2 (fun _ => hb.to s2 [] ws rfl lw) (hb.rel .nil rz rfl l2) q2
end

/-! ### the end of a law -/
/-- what is known of the tables: cs, code objects and their tables -/
theorem law_end {P : Program} {w : World} {K : PySem.W.Frag} {mg mb : Str → Option Value} {CX : CXT} {k : Nat} {fa a : Addr} {cs : List (Addr × Addr)} {x : Str} {sp : Sp} {s₁ : Shared} {vs : List Value} {ns : List Int}
    (KX : K.In s₁.heap) (hns : s₁.heap.Ns mainGlobals mg) (hb : s₁.heap.Ns builtinsNs mb) (hbb : ∀ x : Str, x ≠ "__name__" → mb x = bootBuiltins x) (hlim : s₁.heap.NoLimit) (hg : s₁.gens = #[])
    (hT : ∀ p ∈ cs, s₁.heap.get? p.2 = some { cls := .none, data := .fields #[] }) (nT : ∀ p ∈ cs, K.lookup p.2 = none) (C : ∀ p ∈ cs, PySem.W.CodeHd s₁.heap p.1 p.2)
    (hbm : ∃ (bm : Addr) (ob : Obj), mg "__builtins__" = some (.ref bm) ∧ bm ≠ builtinsNs ∧ s₁.heap.get? bm = some ob ∧ ob.cls = .type "module" ∧ ob.dict = some builtinsNs ∧ ob.data = .plain)
    (ha : s₁.heap.get? a = some { cls := .type "list", data := .seq vs.toArray }) (hi : IntsAre vs ns) (hl : ns.length ≤ sizeLine) (hr : Room k callerA)
    (hsys : ∃ m, s₁.heap.Ns sysModules m) (F : ∀ base : Heap, K.In base → base.Ns mainGlobals mg → (∃ m, base.Ns sysModules m) → (∀ p ∈ cs, LamX.TabB base mg p.1 p.2) → ∃ fd, FnG P w K mg base CX k fa fd [x] sp ∧ Binds K fd [x] [])
    (hsp : ∀ H : Hp, (∀ p ∈ cs, H p.2 = some (.tbl #[])) → SqL K H a (ns.map V.int) → sp [.ref a] H (fun v _ => v = .bl true) fun _ _ _ => False)
    (hCX : ∀ H e s', CX [] H s₁ (fun _ _ _ => False) e s' → False) :
    codeAny (model P w) callerA (.call (.ref fa) ⟨[.ref a], []⟩) (fun r s' => r = .ok (.ret (.bool true)) ∧ OldK s₁.heap s'.heap ∧ s'.os = s₁.os ∧ AllBare s'.gens) s₁ := by
  let T : Addr → Prop := fun b => ∃ p ∈ cs, p.2 = b
  have isT : ∀ b, T b → s₁.heap.get? b = some { cls := .none, data := .fields #[] } := by
    rintro b ⟨p, hp, rfl⟩
    exact hT p hp
  have aT : ¬ T a := fun z => by
    have q := isT a z
    rw [ha] at q
    exact absurd (congrArg Obj.cls (Option.some.inj q)) (by simp)
  have main : ∀ H : Hp, (∀ b, T b → H b = some (.tbl #[])) → (∀ b u, H b = some u → T b ∨ (b = a ∧ K.lookup a = none ∧ u = .frz { cls := .type "list", data := .seq vs.toArray } (.lst (ns.map V.int)))) → SqL K H a (ns.map V.int) →
      codeAny (model P w) callerA (.call (.ref fa) ⟨[.ref a], []⟩) (fun r s' => r = .ok (.ret (.bool true)) ∧ OldK s₁.heap s'.heap ∧ s'.os = s₁.os ∧ AllBare s'.gens) s₁ := by
    intro H hH hO hS
    have hok : HOk P w H s₁.heap := fun b u e => by
      rcases hO b u e with z | ⟨rfl, _, rfl⟩
      · rw [hH b z] at e
        cases e
        exact isT b z
      · exact ⟨ha, by rw [List.length_map]; exact hl, vs, _, vals_ints hi, ha⟩
    have free : ∀ {b : Addr} {o : Obj}, s₁.heap.get? b = some o → o.cls ≠ .type "list" → o.cls ≠ .none → H b = none := fun {b o} e h1 h2 => by
      cases q : H b with
      | none => rfl
      | some u =>
        rcases hO b u q with z | ⟨rfl, _, _⟩
        · rw [isT b z] at e
          cases e
          exact absurd rfl h2
        · rw [ha] at e
          cases e
          exact absurd rfl h1
    have freeD : ∀ {b : Addr} {o : Obj}, s₁.heap.get? b = some o → (∀ ws n, o.data ≠ .seq ws n) → o.data ≠ .fields #[] → H b = none := fun {b o} e h1 h2 => by
      cases q : H b with
      | none => rfl
      | some u =>
        rcases hO b u q with z | ⟨rfl, _, _⟩
        · rw [isT b z] at e
          cases e
          exact absurd rfl h2
        · rw [ha] at e
          cases e
          exact absurd rfl (h1 _ _)
    have ns' : ∀ {b : Addr} {m : Str → Option Value}, s₁.heap.Ns b m → (hidT s₁.heap H).Ns b m := fun {b m} ⟨o, es, ep, e, d, r⟩ => ⟨o, es, ep, hidT_get e (freeD e (fun _ _ z => by rw [d] at z; cases z) fun z => by rw [d] at z; cases z), d, r⟩
    have hKb : K.In (hidT s₁.heap H) := fun b o e => hidT_get (KX b o e) (by
      cases q : H b with
      | none => rfl
      | some u =>
        rcases hO b u q with ⟨p, hp, rfl⟩ | ⟨rfl, z, _⟩
        · rw [nT p hp] at e
          cases e
        · rw [z] at e
          cases e)
    have hM : L2.Mod K mg (hidT s₁.heap H) := ⟨hKb, ns' hns, ⟨mb, ns' hb, hbb⟩, let ⟨mc, h1, h2⟩ := hlim; ⟨mc, ns' h1, h2⟩⟩
    have TB : ∀ p ∈ cs, LamX.TabB (hidT s₁.heap H) mg p.1 p.2 := fun p hp => by
      refine ⟨?_, ?_, ?_⟩
      · obtain ⟨o, us, file, tf, flags, tg, inF, text, tt, e1, r1, r2, r3, r4, r5, r6, r7, r8, hne⟩ := C p hp
        refine ⟨o, us, file, tf, flags, tg, inF, text, tt, hidT_get e1 (freeD e1 (fun _ _ z => by rw [r2] at z; cases z) fun z => ?_), r1, r2, r3, r4, r5, r6, r7, r8, hne⟩
        rw [r2] at z
        injection z with z
        rw [z] at r3
        simp at r3
      · obtain ⟨bm, ob, b1, b2, b3, b4, b5, b6⟩ := hbm
        have nd : ∀ {c : Addr} {oc : Obj}, s₁.heap.get? c = some oc → oc.data ≠ .plain → bm ≠ c := fun {c oc} e hne z => by
          rw [← z, b3] at e
          cases e
          exact hne b6
        refine ⟨bm, ob, b1, b2, ?_, nd (hT p hp) (fun z => by cases z), hidT_get b3 (freeD b3 (fun _ _ z => by rw [b6] at z; cases z) fun z => by rw [b6] at z; cases z), b4, b5, b6⟩
        obtain ⟨o, es, ep, e, hd, _⟩ := hns
        exact nd e fun z => by rw [hd] at z; cases z
      · intro z
        obtain ⟨o, es, ep, e, hd, _⟩ := hns
        rw [z, hT p hp] at e
        cases e
        cases hd
    have e0 : Env0 P w K mg (hidT s₁.heap H) callerA [] s₁ H := ⟨rfl, hM, fun b o e => of_hidT e, Nat.le_of_eq (hidT_size _ _), trivial, fun b hb => absurd (show b ∈ ([] : List Addr) from hb) (by simp), hok, .of_eq hg⟩
    obtain ⟨fd, FF, hbind⟩ := F _ hKb (ns' hns) (let ⟨m, q⟩ := hsys; ⟨m, ns' q⟩) TB
    refine codeAny_mono (FF.run callerA [] s₁ H ⟨[.ref a], []⟩ [.ref a] [.ref a] _ _ cl_caller hr e0 (hbind s₁ [.ref a] KX rfl) (.cons rfl .nil) (hsp H (fun p hp => hH p.2 ⟨p, hp, rfl⟩) hS)) fun r s' h => ?_
    cases r with
    | error e => exact (hCX H e s' h).elim
    | ok fl =>
      cases fl with
      | next => exact False.elim h
      | brk => exact False.elim h
      | cont => exact False.elim h
      | ret u =>
        obtain ⟨v, H', os, bare, un, hok', r', q⟩ := h
        obtain rfl : v = .bl true := q
        obtain rfl : u = Value.bool true := r'
        have key : ∀ b o, ¬ T b → s₁.heap.get? b = some o → s'.heap.get? b = some o := fun b o nb e => by
          cases q : H b with
          | none => exact un.keep b o e q (fun z => absurd (show b ∈ ([] : List Addr) from z) (by simp)) (by simp)
          | some u =>
            rcases hO b u q with z | ⟨rfl, _, rfl⟩
            · exact absurd z nb
            · rw [(hok _ _ q).1] at e
              cases e
              exact (hok' _ _ (un.frzs _ _ _ q)).1
        have grown : ∀ b, T b → ∃ more : Array Value, s'.heap.get? b = some { cls := .none, data := .fields more } := fun b hb => by
          obtain ⟨more, z⟩ := un.tbls b #[] (hH b hb)
          exact ⟨_, hok' b _ z⟩
        refine ⟨rfl, ⟨fun b o e => ?_, fun b o e => ?_⟩, os, bare⟩
        · by_cases hb : T b
          · obtain ⟨p, hp, rfl⟩ := id hb
            obtain ⟨more, hm⟩ := grown _ hb
            rw [hT p hp] at e
            cases e
            exact .inr (.inl ⟨((C p hp).tab (hT p hp)).isCodeTable, rfl, #[], more, rfl, by rw [Array.empty_append]; exact hm⟩)
          · exact .inl (key b o hb e)
        · by_cases hb : T b
          · obtain ⟨more, hm⟩ := grown b hb
            exact ⟨_, hm⟩
          · exact ⟨o, key b o hb e⟩
  classical
  cases hk : K.lookup a with
  | some o =>
    have e := KX a o hk
    rw [ha] at e
    cases e
    refine main (fun b => if T b then some (.tbl #[]) else none) (fun b z => if_pos z) (fun b u e => ?_) (.inr ⟨_, vs.toArray, _, hk, rfl, rfl, rfl, by rw [List.size_toArray, hi.length]; exact hl, by simpa using vals_ints hi⟩)
    by_cases hb : T b
    · exact .inl hb
    · have e' := (if_neg hb).symm.trans e
      cases e'
  | none =>
    refine main (fun b => if T b then some (.tbl #[]) else if b = a then some (.frz { cls := .type "list", data := .seq vs.toArray } (.lst (ns.map V.int))) else none) (fun b z => if_pos z) (fun b u e => ?_)
      (.inl (.inr ⟨{ cls := .type "list", data := .seq vs.toArray }, (if_neg aT).trans (if_pos rfl)⟩))
    by_cases hb : T b
    · exact .inl hb
    · have e1 := (if_neg hb).symm.trans e
      by_cases h2 : b = a
      · have e2 := (if_pos h2).symm.trans e1
        cases e2
        exact .inr ⟨h2, hk, rfl⟩
      · have e2 := (if_neg h2).symm.trans e1
        cases e2
/-- what is known of the law at the head's heap -/
def LawG (l : PySem.W.OpenLaw) (w : World) (K : PySem.W.Frag) (CX : CXT) (k n : Nat) (x : Str) (mg : Str → Option Value) (fa : Addr) (h : Heap) : Prop :=
  ∃ (cs : List (Addr × Addr)) (sp : Sp), (∀ p ∈ cs, h.get? p.2 = some { cls := .none, data := .fields #[] }) ∧ (∀ p ∈ cs, K.lookup p.2 = none) ∧ (∀ p ∈ cs, PySem.W.CodeHd h p.1 p.2) ∧
    (∀ (H : Hp) (a : Addr) (ns : List Int), ns.length ≤ n → (∀ z ∈ ns, Builtin.Int.intBits z ≤ 1048576) → (∀ p ∈ cs, H p.2 = some (.tbl #[])) → SqL K H a (ns.map V.int) → sp [.ref a] H (fun v _ => v = .bl true) fun _ _ _ => False) ∧
    ∀ base : Heap, K.In base → base.Ns mainGlobals mg → (∃ m, base.Ns sysModules m) → (∀ p ∈ cs, LamX.TabB base mg p.1 p.2) → ∃ fd, FnG l.prog w K mg base CX k fa fd [x] sp ∧ Binds K fd [x] []
theorem sys_of {h : Heap} (q : h.NoSeer) : ∃ m, h.Ns sysModules m := by
  have z := q.mods
  obtain ⟨m, a, _⟩ := z
  exact ⟨m, a⟩
theorem walk_g {l : PySem.W.OpenLaw} {n k : Nat} {q : Program} {loose : List Str} {XP : (Str → Option Value) → Heap → Prop} {YP : World → Heap → Prop} {d : DefRec} {CX : World → CXT} {x : Str}
    (hn : l.most = some n) (hn2 : n ≤ sizeLine) (hdf : d.params.defaults = []) (hr : Room k callerA) (hq : importsNone q = true)
    (F : ∀ (w : World) (mg : Str → Option Value) (fa : Addr) (h : Heap), YP w h → h.Ns mainGlobals mg → mg d.name = some (.ref fa) → ∃ K : PySem.W.Frag, K.In h ∧ LawG l w K (CX w) k n x mg fa h)
    (hCX : ∀ (w : World) (H : Hp) (s : Shared) (e : Value) (s' : Shared), CX w [] H s (fun _ _ _ => False) e s' → False) :
    PySem.W.WalkO q loose XP YP l.row.toRowW d [] (fun f vs => PySem.call f vs) := by
  refine Att.attach_callB hn hdf fun w s₀ s₁ mg mb fa o pm cd doc a vs ns G Y ho hd hcd hmg hobj hints hlen hbits hg => ?_
  obtain ⟨K, KX, cs, sp, hT, nT, C, hsp, hF⟩ := F w mg fa _ Y G.T.g hmg
  exact law_end KX G.T.g G.T.b G.T.builtins G.T.nolimit hg hT nT C G.T.bmain hobj hints (Nat.le_trans hlen hn2) hr (sys_of (G.T.seer hq)) hF (fun H hH hS => hsp H a ns hlen hbits hH hS) fun H e s' => hCX w H s₁ e s'
end Gd

set_option Elab.async false
set_option linter.all false
set_option maxRecDepth 100000
set_option maxHeartbeats 2000000
/-! Rp: plain data in the abstract heap, its printing, comparisons; rules of either kind. -/
namespace Gd
open PySem PySem.Spec PyProof.Rows L2

/-! ### data -/
mutual
/-- at the value v there is the datum: none, a bool, an int, a text, a list, a tuple of such, an empty dict -/
inductive Dt (w : Addr) (K : PySem.W.Frag) (H : Hp) : V → PyData → Prop
  | non : Dt w K H .non .none
  | bl (b : Bool) : Dt w K H (.bl b) (.bool b)
  | int (i : Int) : Dt w K H (.int i) (.int i)
  | str (x : Str) : Dt w K H (.str x) (.str x)
  | lst {a : Addr} {xs : List V} {ds : List PyData} (n : a ≠ w) (h : SqL K H a xs) (r : DtL w K H xs ds) : Dt w K H (.ref a) (.list ds)
  | tup {a : Addr} {xs : List V} {ds : List PyData} (h : SqT K H a xs) (r : DtL w K H xs ds) : Dt w K H (.ref a) (.tuple ds)
  | dic {a : Addr} (h : H a = some (.dK [])) : Dt w K H (.ref a) (.dict [])
inductive DtL (w : Addr) (K : PySem.W.Frag) (H : Hp) : List V → List PyData → Prop
  | nil : DtL w K H [] []
  | cons {v : V} {vs : List V} {d : PyData} {ds : List PyData} (h : Dt w K H v d) (r : DtL w K H vs ds) : DtL w K H (v :: vs) (d :: ds)
end
/-- all but the list at w stands as it stood -/
def Kp (w : Addr) (H H' : Hp) : Prop := ∀ b o, b ≠ w → H b = some o → H' b = some o
theorem Kp.refl (w : Addr) (H : Hp) : Kp w H H := fun _ _ _ h => h
theorem Kp.trans {w : Addr} {H H1 H2 : Hp} (a : Kp w H H1) (b : Kp w H1 H2) : Kp w H H2 := fun c o n h => b c o n (a c o n h)
theorem Kp.same {w : Addr} {H H' : Hp} (a : Same H H') : Kp w H H' := fun b o _ h => a b o h
theorem Kp.new {w p : Addr} {H : Hp} {o : HO} (h : H p = none) : Kp w H (upd H p o) := fun b u _ e => by rw [upd_ne (ne_of_none e h)]; exact e
theorem Kp.put {w : Addr} {H : Hp} {o : HO} : Kp w H (upd H w o) := fun b u n e => by rw [upd_ne n]; exact e
theorem same_new {p : Addr} {H : Hp} {o : HO} (h : H p = none) : Same H (upd H p o) := fun b u e => by rw [upd_ne (ne_of_none e h)]; exact e

/-- H' holds what H holds of such things -/
structure Hd (H H' : Hp) : Prop where
  rd : ∀ a u, (∃ xs, u = .lst xs) ∨ (∃ xs, u = .tup xs) → Rd H a u → Rd H' a u
  dk : ∀ a, H a = some (.dK []) → H' a = some (.dK [])
theorem Hd.of {H H' : Hp} (s : Same H H') : Hd H H' := ⟨fun a u _ h => by
  rcases h with h | ⟨o, h⟩
  · exact .inl (s _ _ h)
  · exact .inr ⟨o, s _ _ h⟩, fun a h => s _ _ h⟩
theorem Same.sqT {K : PySem.W.Frag} {H H' : Hp} {a : Addr} {xs : List V} (s : Same H H') (h : SqT K H a xs) : SqT K H' a xs := by
  rcases h with (h | ⟨o, h⟩) | h
  · exact .inl (.inl (s _ _ h))
  · exact .inl (.inr ⟨o, s _ _ h⟩)
  · exact .inr h
mutual
theorem Dt.same {w : Addr} {K : PySem.W.Frag} {H H' : Hp} (s : Same H H') : ∀ {v : V} {d : PyData}, Dt w K H v d → Dt w K H' v d
  | _, _, .non => .non
  | _, _, .bl b => .bl b
  | _, _, .int i => .int i
  | _, _, .str x => .str x
  | _, _, .lst n h r => .lst n (s.seq h) (DtL.same s r)
  | _, _, .tup h r => .tup (Same.sqT s h) (DtL.same s r)
  | _, _, .dic h => .dic (s _ _ h)
theorem DtL.same {w : Addr} {K : PySem.W.Frag} {H H' : Hp} (s : Same H H') : ∀ {vs : List V} {ds : List PyData}, DtL w K H vs ds → DtL w K H' vs ds
  | _, _, .nil => .nil
  | _, _, .cons h r => .cons (Dt.same s h) (DtL.same s r)
end
theorem DtL.length {w : Addr} {K : PySem.W.Frag} {H : Hp} : ∀ {vs : List V} {ds : List PyData}, DtL w K H vs ds → vs.length = ds.length
  | _, _, .nil => rfl
  | _, _, .cons _ r => congrArg Nat.succ (DtL.length r)
theorem DtL.get {w : Addr} {K : PySem.W.Frag} {H : Hp} : ∀ {vs : List V} {ds : List PyData}, DtL w K H vs ds → ∀ {i : Nat} {v : V}, vs[i]? = some v → ∃ d, ds[i]? = some d ∧ Dt w K H v d
  | _, _, .nil, _, _, e => by simp at e
  | _, _, .cons h r, 0, _, e => by simp at e; subst e; exact ⟨_, rfl, h⟩
  | _, _, .cons h r, i + 1, _, e => by simpa using DtL.get r (i := i) (by simpa using e)
theorem DtL.append {w : Addr} {K : PySem.W.Frag} {H : Hp} : ∀ {vs us : List V} {ds es : List PyData}, DtL w K H vs ds → DtL w K H us es → DtL w K H (vs ++ us) (ds ++ es)
  | _, _, _, _, .nil, s => s
  | _, _, _, _, .cons h r, s => .cons h (DtL.append r s)
theorem DtL.rep {w : Addr} {K : PySem.W.Frag} {H : Hp} {v : V} {d : PyData} (h : Dt w K H v d) : ∀ n, DtL w K H (List.replicate n v) (List.replicate n d)
  | 0 => .nil
  | n + 1 => .cons h (DtL.rep h n)

/-- the first fact of a base: where the table of modules stands -/
def SysM (base : Heap) : Prop := ∃ m, base.Ns sysModules m
section
variable {X : Cx} {pins : List (Addr × Obj)} {σ : L2.St} {H : Hp} {s : Shared} {w : Addr}
theorem sys_ne (S : SysM X.base) (I : Inv X pins σ H s) {a : Addr} {o : Obj} (e : s.heap.get? a = some o) (h : ∀ es n, o.data ≠ .dict es n) : sysModules ≠ a := fun z => by
  obtain ⟨m, os, es, ep, e1, e2, _⟩ := S
  have e3 := I.bk _ _ e1
  rw [z, e] at e3
  cases e3
  exact h _ _ e2
mutual
theorem Dt.reads (S : SysM X.base) (I : Inv X pins σ H s) : ∀ (d : PyData) (v : V) (u : Value), Dt w X.K H v d → RelV v u → ∃ as, Reads s.heap u d as ∧ sysModules ∉ as
  | .none, _, _, h, r => by cases h; cases r; exact ⟨_, .none, by simp⟩
  | .bool b, _, _, h, r => by cases h; cases r; exact ⟨_, .bool b, by simp⟩
  | .int i, _, _, h, r => by cases h; obtain ⟨t, rfl⟩ := r; exact ⟨_, .int i t, by simp⟩
  | .str x, _, _, h, r => by cases h; obtain ⟨t, rfl⟩ := r; exact ⟨_, .str x t, by simp⟩
  | .list ds, _, _, h, r => by
    cases h with
    | lst hw hs ha =>
      cases r
      obtain ⟨its, rv, ⟨o, n, ho, hc, _, hd⟩, _⟩ := I.list hs
      obtain ⟨as, hr, hn⟩ := DtL.reads S I ds _ its ha rv
      refine ⟨_, .list ho hc hd hr, fun z => ?_⟩
      rcases List.mem_cons.mp z with z | z
      · exact sys_ne S I ho (fun es n q => by rw [hd] at q; cases q) z
      · exact hn z
  | .tuple ds, _, _, h, r => by
    cases h with
    | tup hs ha =>
      cases r
      obtain ⟨its, rv, ⟨o, ho, hc, n, hd⟩, _⟩ := I.tuple hs
      obtain ⟨as, hr, hn⟩ := DtL.reads S I ds _ its ha rv
      exact ⟨_, .tuple ho hc hd hr, hn⟩
  | .dict kvs, _, _, h, r => by
    cases h with
    | dic h =>
      cases r
      obtain ⟨_, hne, vs, rv, o, es, ep, e1, e2, e3, _, e4, _⟩ := I.hok _ _ h
      cases rv
      have e4' : es = #[] := by
        have z : es.toList = [] := by
          generalize es.toList = l at e4
          cases e4
          rfl
        exact Array.toList_eq_nil_iff.mp z
      subst e4'
      refine ⟨[_] ++ [], .dict (as := []) (bs := []) e1 e2.1 e3 .nil .nil, fun z => ?_⟩
      simp only [List.append_nil, List.mem_cons, List.not_mem_nil, or_false] at z
      rw [← z] at hne
      exact absurd hne (by simp)
theorem DtL.reads (S : SysM X.base) (I : Inv X pins σ H s) : ∀ (ds : List PyData) (vs : List V) (us : List Value), DtL w X.K H vs ds → Vals vs us → ∃ as, ReadsAll s.heap us ds as ∧ sysModules ∉ as
  | [], _, _, h, r => by cases h; cases r; exact ⟨_, .nil, by simp⟩
  | d :: ds, _, _, h, r => by
    cases h with
    | cons h1 h2 =>
      cases r with
      | cons r1 r2 =>
        obtain ⟨as, q1, n1⟩ := Dt.reads S I d _ _ h1 r1
        obtain ⟨bs, q2, n2⟩ := DtL.reads S I ds _ _ h2 r2
        exact ⟨_, .cons q1 q2, fun z => (List.mem_append.mp z).elim n1 n2⟩
end
/-- repr(x), x an object -/
def rRepr (K : PySem.W.Frag) : List V → Hp → VK → Prop := fun xs H Q => ∃ w a d, xs = [.ref a] ∧ Dt w K H (.ref a) d ∧ d.showable = true ∧ d.depth ≤ 100 ∧ d.shown.length ≤ sizeLine ∧ Q (.str d.shown) H
theorem call_repr (S : SysM X.base) (hG : Cl X.A) (hu : X.A.units + 150 < cLine) : CallR X (.builtin "repr") (rRepr X.K) := by
  intro pins s σ H xs us Q I r h
  obtain ⟨w, a, d, rfl, hd, h1, h2, h3, q⟩ := h
  cases r with
  | cons r1 r2 =>
    cases r2
    obtain ⟨as, hr, hn⟩ := Dt.reads S I d _ _ hd r1
    cases r1
    exact repr_of_reads' (A := X.A) hr h1 (fun _ => hn) hG (by omega) (fun _ _ e => e) (fun h' u tk hk => ⟨.str d.shown, H, I.kept hk, ⟨u, rfl⟩, q⟩) h3
end
end Gd

set_option Elab.async false
set_option linter.all false
set_option maxRecDepth 100000
set_option maxHeartbeats 2000000
/-! Ru: operators of either kind, a called def in one word. -/
namespace Gd
open PySem PySem.Spec PyProof.Rows L2
section
variable {X : Cx}
def rAddA (K : PySem.W.Frag) : R2 := fun x y H Q => rI0 (fun i j => .int (i + j)) x y H Q ∨ rCatA K x y H Q ∨ rCat x y H Q
theorem op_addA : OpR X (binaryOp .Add) (rAddA X.K) := op_add.or (op_catA.or op_cat)
def CMulA (i j : Int) : Prop := CMul i j ∨ CMulW i j
theorem op_mulI : OpR X (binaryOp .Mult) (rI CMulA fun i j => .int (i * j)) := by
  intro pins s σ H x y v u Q I rx ry h
  obtain ⟨i, j, rfl, rfl, hc, q⟩ := h
  rcases hc with hc | hc
  · exact op_mul pins s σ H _ _ v u Q I rx ry ⟨i, j, rfl, rfl, hc, q⟩
  · exact op_mulW pins s σ H _ _ v u Q I rx ry ⟨i, j, rfl, rfl, hc, q⟩
def rMulA (K : PySem.W.Frag) : R2 := fun x y H Q => rI CMulA (fun i j => .int (i * j)) x y H Q ∨ rRepT K x y H Q ∨ rRep x y H Q
theorem op_mulA : OpR X (binaryOp .Mult) (rMulA X.K) := op_mulI.or (op_repT.or op_rep)
def rEqA (K : PySem.W.Frag) : R2 := fun x y H Q => rEq x y H Q ∨ rEqD K x y H Q
theorem op_eqA (hu : X.A.units + 64 < cLine) : OpR X (compareOp .Eq) (rEqA X.K) := op_eq.or (op_eqD hu)
def rNeA (K : PySem.W.Frag) : R2 := fun x y H Q => rNe x y H Q ∨ rNeD K x y H Q
theorem op_neA (hu : X.A.units + 64 < cLine) : OpR X (compareOp .NotEq) (rNeA X.K) := op_ne.or (op_neD hu)
abbrev rSub : R2 := rI0 fun i j => .int (i - j)
abbrev rDiv : R2 := rI CDivW fun i j => .int (i / j)
abbrev rMod : R2 := rI (fun _ j => 0 < j) fun i j => .int (i % j)
abbrev rPow : R2 := rI CPow fun i j => .int (i ^ j.toNat)
def rSlS (K : PySem.W.Frag) : V → Option Int → Option Int → Hp → VK → Prop := fun x lo hi H Q => rSlL K x lo hi H Q ∨ rSlA K x lo hi H Q
theorem sl_any : SlR X (rSlS X.K) := sl_list.or sl_tupA
end
/-- a def that may be called: it keeps its promise, its name, its binding -/
def Cal (P : Program) (w : World) (K : PySem.W.Frag) (mg : Str → Option Value) (base : Heap) (x : Str) (k : Nat) (ps : List Str) (sp : Sp) : Prop :=
  ∃ f fd, FnG P w K mg base CX0 k f fd ps sp ∧ mg x = some (.ref f) ∧ PySem.W.keepIn K (.ref f) = true ∧ Binds K fd ps []
/-- a def of the text as it stands behind the top -/
def Def1 (K : PySem.W.Frag) (mg : Str → Option Value) (x : Str) (st : Stmt) : Prop :=
  ∃ f fd, FunD K x x (defArgs st) (defBody st) (defScope st) [] [] f fd ∧ mg x = some (.ref f)
section
variable {X : Cx} {k : Nat} {ps : List Str} {sp : Sp} {x : Str} {p pos : Pos} {e : Expr} {es : List Expr} {t : TA}
theorem pe_cal (C : Cal X.prog X.w X.K X.mg X.base x k ps sp) (hG : Cl X.A) (hr : Room k X.A) (hg : Gl X x) (ha : PA X (e :: es) t) (hdb : (x == ("__debug__" : Str)) = false := by decide) (he : starEach (e :: es) X.env = (false, eval e X.env) :: starEach es X.env := by rfl) (hpl : (backTo pos (starEach es X.env)).any (·.1) = false := by rfl) :
    PE X (.Call (.Name x p) (e :: es) [] pos) (tCall sp [] E0 t) := by
  obtain ⟨f, fd, F, hm, hk, hb⟩ := C
  exact pe_cg F hG hr hg hm hk hb .nil pass0 ha hdb he hpl
end
section
variable {P : Program} {w : World} {K : PySem.W.Frag} {mg : Str → Option Value} {base : Heap} {x : Str} {st : Stmt} {N ps : List Str} {k : Nat} {sp : Sp}
/-- a def of the text may be called -/
theorem Def1.cal (D : Def1 K mg x st) (S : FnScope N ps (defScope st)) (len : ∀ vs H Q E, sp vs H Q E → vs.length = ps.length)
    (hbi : ∀ (kV doc pm : Value) (an : Option Addr) (cdv ct : Value) (us : List Value), us.length = ps.length → bindArgs (PySem.W.fnOf x x (defArgs st) (defBody st) (defScope st) .none kV doc pm an cdv ct) ⟨us, []⟩ = pure (ps.zip us))
    (hb : ∀ (f : Addr) (cdv : Value) (A : Around) (outer : List Env) (s : Shared) (H : Hp) (vs : List V) (Q : VK) (E : XK), Cl (A.deeper (envOfC x (defScope st) s.heap.objs.size f cdv)) → Room k (A.deeper (envOfC x (defScope st) s.heap.objs.size f cdv)) → sp vs H Q E →
      ∃ t, PSs (cxOf CX0 P w K mg base N x (defScope st) f cdv A outer s H E).nox (defBody st) t ∧ t { nx := fun _ H' => Q .non H', rt := Q } (start N vs) H) :
    Cal P w K mg base x (k + 1) ps sp := by
  obtain ⟨f, fd, F, g⟩ := D
  refine ⟨f, fd, FnG.ok F S len (fun cdv A outer s H vs Q E hG hr _ _ h => ?_), g, F.kp, F.bindsN hbi⟩
  obtain ⟨t, h1, h2⟩ := hb f cdv A outer s H vs Q E hG hr h
  exact ⟨t, h1.nox, h2⟩
end
end Gd

set_option Elab.async false
set_option linter.all false
set_option maxRecDepth 100000
set_option maxHeartbeats 4000000
set_option autoImplicit false
/-! Wr: readings, a step at a time. -/
namespace Gd
open PySem PySem.Spec PyProof.Rows L2
/-! ### readings with names -/
def rInt : List V → Hp → VK → Prop := fun xs H Q => (∃ i, xs = [.int i] ∧ Q (.int i) H) ∨ ∃ k, xs = [.bl k] ∧ Q (.int (if k then 1 else 0)) H
def rAbs : List V → Hp → VK → Prop := fun xs H Q => ∃ i, xs = [.int i] ∧ Q (.int (if i < 0 then -i else i)) H
def rLen (K : PySem.W.Frag) : List V → Hp → VK → Prop := fun xs H Q => ∃ p ys, xs = [.ref p] ∧ (SqL K H p ys ∨ SqT K H p ys) ∧ Q (.int ys.length) H
def rDvm : List V → Hp → VK → Prop := fun xs H Q => ∃ i j, xs = [.int i, .int j] ∧ CDivP i j ∧ ∀ p, H p = none → Q (.ref p) (upd H p (.tup [.int (i / j), .int (i % j)]))
def rTup (K : PySem.W.Frag) : List V → Hp → VK → Prop := fun xs H Q => ∃ p ys, xs = [.ref p] ∧ ((SqL K H p ys ∧ ∀ l, H l = none → Q (.ref l) (upd H l (.tup ys))) ∨ (SqT K H p ys ∧ Q (.ref p) H))
def rLst (K : PySem.W.Frag) : List V → Hp → VK → Prop := fun xs H Q => ∃ p ys, xs = [.ref p] ∧ (SqL K H p ys ∨ SqT K H p ys) ∧ ∀ l, H l = none → Q (.ref l) (upd H l (.lst ys))
def rGt : R2 := rI0 fun i j => .bl (decide (j < i))
def rGe : R2 := rI0 fun i j => .bl (decide (j ≤ i))
def rLt : R2 := rI0 fun i j => .bl (decide (i < j))
def rLe : R2 := rI0 fun i j => .bl (decide (i ≤ j))
section
variable {X : Cx}
theorem call_intA : CallR X (.type "int") rInt := call_int1
theorem call_absA : CallR X (.builtin "abs") rAbs := call_abs
theorem call_lenA : CallR X (.builtin "len") (rLen X.K) := call_len_seq
theorem call_dvmA : CallR X (.builtin "divmod") rDvm := call_divmodW
theorem call_tupA : CallR X (.type "tuple") (rTup X.K) := call_tuple_of
theorem call_lstA : CallR X (.type "list") (rLst X.K) := call_list_of
theorem op_gtA : OpR X (compareOp .Gt) rGt := op_gt
theorem op_geA : OpR X (compareOp .GtE) rGe := op_ge
theorem op_ltA : OpR X (compareOp .Lt) rLt := op_lt
theorem op_leA : OpR X (compareOp .LtE) rLe := op_le
end
section
variable {n : L2.St → Hp → Prop} {r : VK} {b c : L2.St → Hp → Prop} {σ : L2.St} {H : Hp} {Q : VK} {t u : TS} {te ta tb : TE} {tt tu : TT} {g : TG} {a v x y : V} {K : PySem.W.Frag}
theorem w_seq (h : t ⟨u ⟨n, r, b, c⟩, r, b, c⟩ σ H) : tSeq t u ⟨n, r, b, c⟩ σ H := h
theorem w_next (h : n σ H) : tNext ⟨n, r, b, c⟩ σ H := h
theorem w_brk (h : b σ H) : tBreak ⟨n, r, b, c⟩ σ H := h
theorem w_cont (h : c σ H) : tCont ⟨n, r, b, c⟩ σ H := h
theorem w_asg (h : te σ H fun x H1 => g x σ H1 n) : tAsg te g ⟨n, r, b, c⟩ σ H := h
theorem w_ret (h : te σ H r) : tRet te ⟨n, r, b, c⟩ σ H := h
theorem w_retN (h : r .non H) : tRetN ⟨n, r, b, c⟩ σ H := h
theorem w_drop (h : te σ H fun _ H1 => n σ H1) : tDrop te ⟨n, r, b, c⟩ σ H := h
theorem w_if (h : tt σ H fun k H1 => if k = true then t ⟨n, r, b, c⟩ σ H1 else u ⟨n, r, b, c⟩ σ H1) : tIfS tt t u ⟨n, r, b, c⟩ σ H := h
theorem w_c (h : Q v H) : tC v σ H Q := h
theorem w_op {q : R2} (h : ta σ H fun x H1 => tb σ H1 fun y H2 => q x y H2 Q) : tOp q ta tb σ H Q := h
theorem w_un {q : V → Hp → VK → Prop} (h : ta σ H fun x H1 => q x H1 Q) : tUn q ta σ H Q := h
theorem w_cb {q : List V → Hp → VK → Prop} {tz : TA} (h : tz σ H fun vs H1 => q vs H1 Q) : tCB q tz σ H Q := h
theorem w_nil {R : List V → Hp → Prop} (h : R [] H) : tNil σ H R := h
theorem w_cons {R : List V → Hp → Prop} {tz : TA} (h : ta σ H fun x H1 => tz σ H1 fun xs H2 => R (x :: xs) H2) : tCons ta tz σ H R := h
theorem w_tup {tz : TA} (h : tz σ H fun xs H1 => xs.length ≤ sizeLine ∧ ∀ p, H1 p = none → Q (.ref p) (upd H1 p (.tup xs))) : tTup tz σ H Q := h
theorem w_lst {tz : TA} (h : tz σ H fun xs H1 => xs.length ≤ sizeLine ∧ ∀ p, H1 p = none → Q (.ref p) (upd H1 p (.lst xs))) : tLst tz σ H Q := h
theorem w_test {R : Bool → Hp → Prop} (h : te σ H fun x H1 => ∃ k, x = .bl k ∧ R k H1) : tTest te σ H R := h
theorem w_tB {R : Bool → Hp → Prop} (h : te σ H fun x H1 => ∃ k, x = .bl k ∧ R k H1) : tB te σ H R := h
theorem w_bl {k : Bool} {R : Bool → Prop} (h : R k) : ∃ k', V.bl k = .bl k' ∧ R k' := ⟨k, rfl, h⟩
theorem w_and {R : Bool → Hp → Prop} (h : tt σ H fun k H1 => if k = true then tu σ H1 R else R false H1) : tAnd tt tu σ H R := h
theorem w_or {R : Bool → Hp → Prop} (h : tt σ H fun k H1 => if k = true then R true H1 else tu σ H1 R) : tOr tt tu σ H R := h
theorem w_not {R : Bool → Hp → Prop} (h : tt σ H fun k H1 => R (!k) H1) : tNot tt σ H R := h
theorem w_ife (h : tt σ H fun k H1 => if k = true then ta σ H1 Q else tb σ H1 Q) : tIf tt ta tb σ H Q := h
theorem w_andV (h : ta σ H fun x H1 => ∃ k, x = .bl k ∧ if k = true then tb σ H1 Q else Q (.bl false) H1) : tAndV ta tb σ H Q := h
theorem w_orV (h : ta σ H fun x H1 => ∃ k, x = .bl k ∧ if k = true then Q (.bl true) H1 else tb σ H1 Q) : tOrV ta tb σ H Q := h
theorem w_notV (h : ta σ H fun x H1 => ∃ k, x = .bl k ∧ Q (.bl (!k)) H1) : tNotV ta σ H Q := h
theorem w_sub {to ti : TE} {s : TSet} {N : L2.St → Hp → Prop} (h : to σ H fun o H1 => ti σ H1 fun i H2 => s o i v H2 fun H3 => N σ H3) : gSub to ti s v σ H N := h
theorem w_gtup {k : Nat} {z : TGs} {N : L2.St → Hp → Prop} {p : Addr} {xs : List V} (h : SqT K H p xs) (l : xs.length = k) (q : z xs σ H N) : gTup K k z (.ref p) σ H N := ⟨p, xs, rfl, h, l, q⟩
theorem w_gnil {N : L2.St → Hp → Prop} (h : N σ H) : gNil [] σ H N := ⟨rfl, h⟩
theorem w_gcons {z : TGs} {vs : List V} {N : L2.St → Hp → Prop} (h : g v σ H fun σ' H' => z vs σ' H' N) : gCons g z (v :: vs) σ H N := ⟨v, vs, rfl, h⟩
theorem w_call {sp : Sp} {E : XK} {tz : TA} (h : tz σ H fun vs H1 => sp (vs ++ []) H1 Q E) : tCall sp [] E tz σ H Q := h
theorem w_forL {tl : TE} {g : TG} {tb : TS} (h : tl σ H fun x H1 => ∃ a, x = .ref a ∧ (∃ xs, SqL K H1 a xs) ∧ ∃ W : Nat → Nat → L2.St → Hp → Prop, (∃ m, W 0 m σ H1) ∧ ∀ i m σ H, W i m σ H →
    ((Itl K a).stop i H ∧ n σ H) ∨ ((Itl K a).go i H ∧ ∃ N : L2.St → Hp → Prop, (∀ σ' H', N σ' H' → ∃ m', m' < m ∧ W (i + 1) m' σ' H') ∧ ∀ x H', (Itl K a).yld i H x H' → g x σ H' fun σ2 H2 => tb ⟨N, r, n, N⟩ σ2 H2)) : tFor (iList K tl) g tb ⟨n, r, b, c⟩ σ H := h
theorem w_forT {tl : TE} {g : TG} {tb : TS} (h : tl σ H fun x H1 => ∃ a, x = .ref a ∧ (∃ xs, SqT K H1 a xs) ∧ ∃ W : Nat → Nat → L2.St → Hp → Prop, (∃ m, W 0 m σ H1) ∧ ∀ i m σ H, W i m σ H →
    ((Itt K a).stop i H ∧ n σ H) ∨ ((Itt K a).go i H ∧ ∃ N : L2.St → Hp → Prop, (∀ σ' H', N σ' H' → ∃ m', m' < m ∧ W (i + 1) m' σ' H') ∧ ∀ x H', (Itt K a).yld i H x H' → g x σ H' fun σ2 H2 => tb ⟨N, r, n, N⟩ σ2 H2)) : tFor (iTup K tl) g tb ⟨n, r, b, c⟩ σ H := h
theorem f_list {K : PySem.W.Frag} {a : Addr} {xs : List V} {g : TG} {tb : TS} (Pv : Nat → L2.St → Hp → Prop) (h0 : Pv 0 σ H) (hl : ∀ i σ H, i ≤ xs.length → Pv i σ H → SqL K H a xs)
    (hs : ∀ i x σ H, xs[i]? = some x → Pv i σ H → g x σ H fun σ2 H2 => tb ⟨Pv (i + 1), r, n, Pv (i + 1)⟩ σ2 H2) (hd : ∀ σ H, Pv xs.length σ H → n σ H) :
    ∃ W : Nat → Nat → L2.St → Hp → Prop, (∃ m, W 0 m σ H) ∧ ∀ i m σ H, W i m σ H →
      ((Itl K a).stop i H ∧ n σ H) ∨ ((Itl K a).go i H ∧ ∃ N : L2.St → Hp → Prop, (∀ σ' H', N σ' H' → ∃ m', m' < m ∧ W (i + 1) m' σ' H') ∧ ∀ x H', (Itl K a).yld i H x H' → g x σ H' fun σ2 H2 => tb ⟨N, r, n, N⟩ σ2 H2) := for_list (D := ⟨n, r, n, n⟩) Pv h0 hl hs hd
theorem f_tup {K : PySem.W.Frag} {a : Addr} {xs : List V} {g : TG} {tb : TS} (Pv : Nat → L2.St → Hp → Prop) (h0 : Pv 0 σ H) (hl : ∀ i σ H, i ≤ xs.length → Pv i σ H → SqT K H a xs)
    (hs : ∀ i x σ H, xs[i]? = some x → Pv i σ H → g x σ H fun σ2 H2 => tb ⟨Pv (i + 1), r, n, Pv (i + 1)⟩ σ2 H2) (hd : ∀ σ H, Pv xs.length σ H → n σ H) :
    ∃ W : Nat → Nat → L2.St → Hp → Prop, (∃ m, W 0 m σ H) ∧ ∀ i m σ H, W i m σ H →
      ((Itt K a).stop i H ∧ n σ H) ∨ ((Itt K a).go i H ∧ ∃ N : L2.St → Hp → Prop, (∀ σ' H', N σ' H' → ∃ m', m' < m ∧ W (i + 1) m' σ' H') ∧ ∀ x H', (Itt K a).yld i H x H' → g x σ H' fun σ2 H2 => tb ⟨N, r, n, N⟩ σ2 H2) := for_tup (D := ⟨n, r, n, n⟩) Pv h0 hl hs hd
theorem w_forR {tz : TA} {g : TG} {tb : TS} (h : tz σ H fun vs H1 => ∃ j : Int, vs = [.int j] ∧ -(2 ^ 62) ≤ j ∧ j < 2 ^ 62 ∧ ∃ W : Nat → Nat → L2.St → Hp → Prop, (∃ m, W 0 m σ H1) ∧ ∀ i m σ H, W i m σ H →
    ((Itr 0 j.toNat).stop i H ∧ n σ H) ∨ ((Itr 0 j.toNat).go i H ∧ ∃ N : L2.St → Hp → Prop, (∀ σ' H', N σ' H' → ∃ m', m' < m ∧ W (i + 1) m' σ' H') ∧ ∀ x H', (Itr 0 j.toNat).yld i H x H' → g x σ H' fun σ2 H2 => tb ⟨N, r, n, N⟩ σ2 H2)) : tFor (iRng1 tz) g tb ⟨n, r, b, c⟩ σ H := h
theorem f_range {lo : Int} {k : Nat} {g : TG} {tb : TS} (Pv : Nat → L2.St → Hp → Prop) (h0 : Pv 0 σ H)
    (hs : ∀ i σ H, i < k → Pv i σ H → g (.int (lo + i)) σ H fun σ2 H2 => tb ⟨Pv (i + 1), r, n, Pv (i + 1)⟩ σ2 H2) (hd : ∀ σ H, Pv k σ H → n σ H) :
    ∃ W : Nat → Nat → L2.St → Hp → Prop, (∃ m, W 0 m σ H) ∧ ∀ i m σ H, W i m σ H →
      ((Itr lo k).stop i H ∧ n σ H) ∨ ((Itr lo k).go i H ∧ ∃ N : L2.St → Hp → Prop, (∀ σ' H', N σ' H' → ∃ m', m' < m ∧ W (i + 1) m' σ' H') ∧ ∀ x H', (Itr lo k).yld i H x H' → g x σ H' fun σ2 H2 => tb ⟨N, r, n, N⟩ σ2 H2) := for_range (D := ⟨n, r, n, n⟩) Pv h0 hs hd
/-- a while by what holds between the turns -/
theorem w_while {tt : TT} {tb : TS} (Pv : L2.St → Hp → Prop) (μ : L2.St → Hp → Nat) (h0 : Pv σ H)
    (hs : ∀ σ H, Pv σ H → tt σ H fun k H1 => if k = true then tb ⟨fun σ' H' => Pv σ' H' ∧ μ σ' H' < μ σ H, r, n, fun σ' H' => Pv σ' H' ∧ μ σ' H' < μ σ H⟩ σ H1 else n σ H1)
    (mono : ∀ σ H Q Q', (∀ b H1, Q b H1 → Q' b H1) → tt σ H Q → tt σ H Q') : tWhile tt tb ⟨n, r, b, c⟩ σ H := while_by (D := ⟨n, r, b, c⟩) Pv μ h0 hs mono
theorem w_par {i j : Nat} {tz : TA} (h : tz σ H fun vs H1 => ∃ u v, vs = [u, v] ∧ n ((σ.set i (some u)).set j (some v)) H1) : tPar i j tz ⟨n, r, b, c⟩ σ H := h
theorem w_par3 {i j l : Nat} {tz : TA} (h : tz σ H fun vs H1 => ∃ u v w, vs = [u, v, w] ∧ n (((σ.set i (some u)).set j (some v)).set l (some w)) H1) : tPar3 i j l tz ⟨n, r, b, c⟩ σ H := h
theorem w_sl {q : V → Option Int → Option Int → Hp → VK → Prop} {tl th : TO} (h : te σ H fun x H1 => tl σ H1 fun l H2 => th σ H2 fun u H3 => q x l u H3 Q) : tSl q te tl th σ H Q := h
theorem w_nop {R : Option Int → Hp → Prop} (h : R none H) : tNoPart σ H R := h
theorem w_part {R : Option Int → Hp → Prop} (h : te σ H fun x H1 => ∃ i, x = .int i ∧ R (some i) H1) : tPart te σ H R := h
theorem w_len {k : Nat} {B : Prop} (h : k ≤ 1000) (q : B) : k ≤ sizeLine ∧ B := ⟨Nat.le_trans h (by decide), q⟩
theorem w_vint {j : Int} {R : Int → Prop} (h : R j) : ∃ i, V.int j = .int i ∧ R i := ⟨j, rfl, h⟩
theorem w_vbl2 {x y : V} {R : V → V → Prop} (h : R x y) : ∃ u v, [x, y] = [u, v] ∧ R u v := ⟨x, y, rfl, h⟩
theorem w_vbl3 {x y z : V} {R : V → V → V → Prop} (h : R x y z) : ∃ u v w, [x, y, z] = [u, v, w] ∧ R u v w := ⟨x, y, z, rfl, h⟩
theorem cutV_mem {xs : List V} {lo hi : Option Int} {x : V} (h : x ∈ cutV xs lo hi) : x ∈ xs := List.mem_of_mem_drop (List.mem_of_mem_take h)
theorem cut_int {ns : List Int} {lo hi : Option Int} {i : Nat} {x : V} (h : (cutV (ns.map V.int) lo hi)[i]? = some x) : ∃ z, x = .int z := by
  obtain ⟨z, _, e⟩ := List.mem_map.mp (cutV_mem (List.mem_of_getElem? h))
  exact ⟨z, e.symm⟩
/-- name.append(e) -/
theorem w_appV {tz : TA} {l : Addr} {xs : List V} {i : Nat} (e : σ[i]? = some (some (.ref l))) (hl : H l = some (.lst xs)) (h : tz σ H fun vs H2 => rAppend (.ref l) vs H2 Q) : tBM K "list" rAppend (tVar i) tz σ H Q :=
  ⟨_, e, .inl ⟨rfl, _, .inl (.inl hl)⟩, h⟩
theorem w_apd {l : Addr} {xs : List V} {y : V} (hl : H l = some (.lst xs)) (z : xs.length < sizeLine) (h : Q .non (upd H l (.lst (xs ++ [y])))) : rAppend (.ref l) [y] H Q := ⟨l, xs, y, rfl, rfl, hl, z, h⟩
/-! values -/
variable {i j : Int} {k : Bool} {p : Addr} {xs ys : List V}
theorem w_gt (h : Q (.bl (decide (j < i))) H) : rGt (.int i) (.int j) H Q := ⟨i, j, rfl, rfl, h⟩
theorem w_ge (h : Q (.bl (decide (j ≤ i))) H) : rGe (.int i) (.int j) H Q := ⟨i, j, rfl, rfl, h⟩
theorem w_lt (h : Q (.bl (decide (i < j))) H) : rLt (.int i) (.int j) H Q := ⟨i, j, rfl, rfl, h⟩
theorem w_le (h : Q (.bl (decide (i ≤ j))) H) : rLe (.int i) (.int j) H Q := ⟨i, j, rfl, rfl, h⟩
theorem w_subI (h : Q (.int (i - j)) H) : rI0 (fun i j => V.int (i - j)) (.int i) (.int j) H Q := ⟨i, j, rfl, rfl, h⟩
theorem w_neg (h : Q (.int (-i)) H) : rU (fun i => V.int (-i)) (.int i) H Q := ⟨i, rfl, h⟩
theorem w_addI (h : Q (.int (i + j)) H) : rAddA K (.int i) (.int j) H Q := .inl ⟨i, j, rfl, rfl, h⟩
theorem w_mulI (z : CMulA i j) (h : Q (.int (i * j)) H) : rMulA K (.int i) (.int j) H Q := .inl ⟨i, j, rfl, rfl, z, h⟩
theorem w_mod (z : 0 < j) (h : Q (.int (i % j)) H) : rI (fun _ j => 0 < j) (fun i j => V.int (i % j)) (.int i) (.int j) H Q := ⟨i, j, rfl, rfl, z, h⟩
theorem w_div (z : CDivW i j) (h : Q (.int (i / j)) H) : rI CDivW (fun i j => V.int (i / j)) (.int i) (.int j) H Q := ⟨i, j, rfl, rfl, z, h⟩
theorem w_pow (z : CPow i j) (h : Q (.int (i ^ j.toNat)) H) : rI CPow (fun i j => V.int (i ^ j.toNat)) (.int i) (.int j) H Q := ⟨i, j, rfl, rfl, z, h⟩
theorem w_eqS (z : scal x y = true) (h : Q (.bl (decide (x = y))) H) : rEqA K x y H Q := .inl ⟨z, h⟩
theorem w_neS (z : scal x y = true) (h : Q (.bl (!decide (x = y))) H) : rNeA K x y H Q := .inl ⟨z, h⟩
theorem w_eqD {d e : PyData} (h1 : Dp K H x d) (h2 : Dp K H y e) (s1 : SeqAt.shaped d = true) (s2 : SeqAt.shaped e = true) (h : Q (.bl (PyData.eqv d e)) H) : rEqA K x y H Q := .inr ⟨d, e, h1, h2, s1, s2, h⟩
theorem w_neD {d e : PyData} (h1 : Dp K H x d) (h2 : Dp K H y e) (s1 : SeqAt.shaped d = true) (s2 : SeqAt.shaped e = true) (h : Q (.bl (!PyData.eqv d e)) H) : rNeA K x y H Q := .inr ⟨d, e, h1, h2, s1, s2, h⟩
theorem w_ixL (h : SqL K H p xs) (e : atI xs i = some v) (q : Q v H) : rIx K (.ref p) (.int i) H Q := .inl ⟨p, xs, i, v, rfl, rfl, h, e, q⟩
theorem w_ixT (h : SqT K H p xs) (e : atI xs i = some v) (q : Q v H) : rIx K (.ref p) (.int i) H Q := .inr (.inl ⟨p, xs, i, v, rfl, rfl, h, e, q⟩)
theorem w_set {m : Nat} {N : Hp → Prop} (h : H p = some (.lst xs)) (e : ixN xs.length i = some m) (q : N (upd H p (.lst (xs.set m v)))) : rSetL (.ref p) (.int i) v H N := ⟨p, xs, i, m, rfl, rfl, h, e, q⟩
theorem hold_new {H : Hp} {q : Addr} {u o : HO} (h : H p = some u) (hn : H q = none) : upd H q o p = some u := by rw [upd_ne (ne_of_none h hn)]; exact h
theorem w_set0 {N : Hp → Prop} (h : H p = some (.lst (x :: xs))) (q : N (upd H p (.lst (v :: xs)))) : rSetL (.ref p) (.int 0) v H N := ⟨p, _, 0, 0, rfl, rfl, h, by unfold ixN; simp, q⟩
theorem w_set1 {N : Hp → Prop} {x1 : V} (h : H p = some (.lst (x :: x1 :: xs))) (q : N (upd H p (.lst (x :: v :: xs)))) : rSetL (.ref p) (.int 1) v H N := ⟨p, _, 1, 1, rfl, rfl, h, by unfold ixN; simp; omega, q⟩
theorem w_set2 {N : Hp → Prop} {x1 x2 : V} (h : H p = some (.lst (x :: x1 :: x2 :: xs))) (q : N (upd H p (.lst (x :: x1 :: v :: xs)))) : rSetL (.ref p) (.int 2) v H N := ⟨p, _, 2, 2, rfl, rfl, h, by unfold ixN; simp; omega, q⟩
theorem w_int (h : Q (.int i) H) : rInt [.int i] H Q := .inl ⟨i, rfl, h⟩
theorem w_intB (h : Q (.int (if k then 1 else 0)) H) : rInt [.bl k] H Q := .inr ⟨k, rfl, h⟩
theorem w_abs (h : Q (.int (if i < 0 then -i else i)) H) : rAbs [.int i] H Q := ⟨i, rfl, h⟩
theorem w_lenL (h : SqL K H p xs) (q : Q (.int xs.length) H) : rLen K [.ref p] H Q := ⟨p, xs, rfl, .inl h, q⟩
theorem w_lenT (h : SqT K H p xs) (q : Q (.int xs.length) H) : rLen K [.ref p] H Q := ⟨p, xs, rfl, .inr h, q⟩
theorem w_dvm (z : CDivP i j) (h : ∀ p, H p = none → Q (.ref p) (upd H p (.tup [.int (i / j), .int (i % j)]))) : rDvm [.int i, .int j] H Q := ⟨i, j, rfl, z, h⟩
theorem w_tupL (h : SqL K H p xs) (q : ∀ l, H l = none → Q (.ref l) (upd H l (.tup xs))) : rTup K [.ref p] H Q := ⟨p, xs, rfl, .inl ⟨h, q⟩⟩
theorem w_ite {A B : Prop} {q : Prop} {_ : Decidable q} (h1 : q → A) (h2 : ¬ q → B) : if decide q = true then A else B := by
  by_cases h : q
  · rw [decide_eq_true h, if_pos rfl]; exact h1 h
  · rw [decide_eq_false h, if_neg Bool.false_ne_true]; exact h2 h
theorem w_iteB {A B : Prop} {k : Bool} (h1 : k = true → A) (h2 : k = false → B) : if k = true then A else B := by
  cases k
  · exact h2 rfl
  · exact h1 rfl
theorem w_iteT {A B : Prop} (h1 : A) : if true = true then A else B := by rw [if_pos rfl]; exact h1
theorem w_iteF {A B : Prop} (h1 : B) : if false = true then A else B := by rw [if_neg Bool.false_ne_true]; exact h1
theorem w_slL {lo hi : Option Int} (h : SqL K H p xs) (q : ∀ l, H l = none → Q (.ref l) (upd H l (.lst (cutV xs lo hi)))) : rSlS K (.ref p) lo hi H Q := .inl ⟨p, xs, rfl, h, q⟩
end
/-! ### slots -/
section
variable {σ : L2.St} {H : Hp} {Q : VK} {N : L2.St → Hp → Prop} {v : V}

theorem w_var0 (h : Q v H) : tVar 0 (some v :: σ) H Q := ⟨v, rfl, h⟩
theorem w_nam0 {a0 : Option V} (h : N (some v :: σ) H) : gName 0 v (a0 :: σ) H N := h
theorem w_var1 {a0 : Option V} (h : Q v H) : tVar 1 (a0 :: some v :: σ) H Q := ⟨v, rfl, h⟩
theorem w_nam1 {a0 a1 : Option V} (h : N (a0 :: some v :: σ) H) : gName 1 v (a0 :: a1 :: σ) H N := h
theorem w_var2 {a0 a1 : Option V} (h : Q v H) : tVar 2 (a0 :: a1 :: some v :: σ) H Q := ⟨v, rfl, h⟩
theorem w_nam2 {a0 a1 a2 : Option V} (h : N (a0 :: a1 :: some v :: σ) H) : gName 2 v (a0 :: a1 :: a2 :: σ) H N := h
theorem w_var3 {a0 a1 a2 : Option V} (h : Q v H) : tVar 3 (a0 :: a1 :: a2 :: some v :: σ) H Q := ⟨v, rfl, h⟩
theorem w_nam3 {a0 a1 a2 a3 : Option V} (h : N (a0 :: a1 :: a2 :: some v :: σ) H) : gName 3 v (a0 :: a1 :: a2 :: a3 :: σ) H N := h
theorem w_var4 {a0 a1 a2 a3 : Option V} (h : Q v H) : tVar 4 (a0 :: a1 :: a2 :: a3 :: some v :: σ) H Q := ⟨v, rfl, h⟩
theorem w_nam4 {a0 a1 a2 a3 a4 : Option V} (h : N (a0 :: a1 :: a2 :: a3 :: some v :: σ) H) : gName 4 v (a0 :: a1 :: a2 :: a3 :: a4 :: σ) H N := h
theorem w_var5 {a0 a1 a2 a3 a4 : Option V} (h : Q v H) : tVar 5 (a0 :: a1 :: a2 :: a3 :: a4 :: some v :: σ) H Q := ⟨v, rfl, h⟩
theorem w_nam5 {a0 a1 a2 a3 a4 a5 : Option V} (h : N (a0 :: a1 :: a2 :: a3 :: a4 :: some v :: σ) H) : gName 5 v (a0 :: a1 :: a2 :: a3 :: a4 :: a5 :: σ) H N := h
theorem w_var6 {a0 a1 a2 a3 a4 a5 : Option V} (h : Q v H) : tVar 6 (a0 :: a1 :: a2 :: a3 :: a4 :: a5 :: some v :: σ) H Q := ⟨v, rfl, h⟩
theorem w_nam6 {a0 a1 a2 a3 a4 a5 a6 : Option V} (h : N (a0 :: a1 :: a2 :: a3 :: a4 :: a5 :: some v :: σ) H) : gName 6 v (a0 :: a1 :: a2 :: a3 :: a4 :: a5 :: a6 :: σ) H N := h
theorem w_var7 {a0 a1 a2 a3 a4 a5 a6 : Option V} (h : Q v H) : tVar 7 (a0 :: a1 :: a2 :: a3 :: a4 :: a5 :: a6 :: some v :: σ) H Q := ⟨v, rfl, h⟩
theorem w_nam7 {a0 a1 a2 a3 a4 a5 a6 a7 : Option V} (h : N (a0 :: a1 :: a2 :: a3 :: a4 :: a5 :: a6 :: some v :: σ) H) : gName 7 v (a0 :: a1 :: a2 :: a3 :: a4 :: a5 :: a6 :: a7 :: σ) H N := h
theorem w_var8 {a0 a1 a2 a3 a4 a5 a6 a7 : Option V} (h : Q v H) : tVar 8 (a0 :: a1 :: a2 :: a3 :: a4 :: a5 :: a6 :: a7 :: some v :: σ) H Q := ⟨v, rfl, h⟩
theorem w_nam8 {a0 a1 a2 a3 a4 a5 a6 a7 a8 : Option V} (h : N (a0 :: a1 :: a2 :: a3 :: a4 :: a5 :: a6 :: a7 :: some v :: σ) H) : gName 8 v (a0 :: a1 :: a2 :: a3 :: a4 :: a5 :: a6 :: a7 :: a8 :: σ) H N := h
theorem w_var9 {a0 a1 a2 a3 a4 a5 a6 a7 a8 : Option V} (h : Q v H) : tVar 9 (a0 :: a1 :: a2 :: a3 :: a4 :: a5 :: a6 :: a7 :: a8 :: some v :: σ) H Q := ⟨v, rfl, h⟩
theorem w_nam9 {a0 a1 a2 a3 a4 a5 a6 a7 a8 a9 : Option V} (h : N (a0 :: a1 :: a2 :: a3 :: a4 :: a5 :: a6 :: a7 :: a8 :: some v :: σ) H) : gName 9 v (a0 :: a1 :: a2 :: a3 :: a4 :: a5 :: a6 :: a7 :: a8 :: a9 :: σ) H N := h
theorem w_var10 {a0 a1 a2 a3 a4 a5 a6 a7 a8 a9 : Option V} (h : Q v H) : tVar 10 (a0 :: a1 :: a2 :: a3 :: a4 :: a5 :: a6 :: a7 :: a8 :: a9 :: some v :: σ) H Q := ⟨v, rfl, h⟩
theorem w_nam10 {a0 a1 a2 a3 a4 a5 a6 a7 a8 a9 a10 : Option V} (h : N (a0 :: a1 :: a2 :: a3 :: a4 :: a5 :: a6 :: a7 :: a8 :: a9 :: some v :: σ) H) : gName 10 v (a0 :: a1 :: a2 :: a3 :: a4 :: a5 :: a6 :: a7 :: a8 :: a9 :: a10 :: σ) H N := h
theorem w_var11 {a0 a1 a2 a3 a4 a5 a6 a7 a8 a9 a10 : Option V} (h : Q v H) : tVar 11 (a0 :: a1 :: a2 :: a3 :: a4 :: a5 :: a6 :: a7 :: a8 :: a9 :: a10 :: some v :: σ) H Q := ⟨v, rfl, h⟩
theorem w_nam11 {a0 a1 a2 a3 a4 a5 a6 a7 a8 a9 a10 a11 : Option V} (h : N (a0 :: a1 :: a2 :: a3 :: a4 :: a5 :: a6 :: a7 :: a8 :: a9 :: a10 :: some v :: σ) H) : gName 11 v (a0 :: a1 :: a2 :: a3 :: a4 :: a5 :: a6 :: a7 :: a8 :: a9 :: a10 :: a11 :: σ) H N := h
theorem w_var12 {a0 a1 a2 a3 a4 a5 a6 a7 a8 a9 a10 a11 : Option V} (h : Q v H) : tVar 12 (a0 :: a1 :: a2 :: a3 :: a4 :: a5 :: a6 :: a7 :: a8 :: a9 :: a10 :: a11 :: some v :: σ) H Q := ⟨v, rfl, h⟩
theorem w_nam12 {a0 a1 a2 a3 a4 a5 a6 a7 a8 a9 a10 a11 a12 : Option V} (h : N (a0 :: a1 :: a2 :: a3 :: a4 :: a5 :: a6 :: a7 :: a8 :: a9 :: a10 :: a11 :: some v :: σ) H) : gName 12 v (a0 :: a1 :: a2 :: a3 :: a4 :: a5 :: a6 :: a7 :: a8 :: a9 :: a10 :: a11 :: a12 :: σ) H N := h
theorem w_var13 {a0 a1 a2 a3 a4 a5 a6 a7 a8 a9 a10 a11 a12 : Option V} (h : Q v H) : tVar 13 (a0 :: a1 :: a2 :: a3 :: a4 :: a5 :: a6 :: a7 :: a8 :: a9 :: a10 :: a11 :: a12 :: some v :: σ) H Q := ⟨v, rfl, h⟩
theorem w_nam13 {a0 a1 a2 a3 a4 a5 a6 a7 a8 a9 a10 a11 a12 a13 : Option V} (h : N (a0 :: a1 :: a2 :: a3 :: a4 :: a5 :: a6 :: a7 :: a8 :: a9 :: a10 :: a11 :: a12 :: some v :: σ) H) : gName 13 v (a0 :: a1 :: a2 :: a3 :: a4 :: a5 :: a6 :: a7 :: a8 :: a9 :: a10 :: a11 :: a12 :: a13 :: σ) H N := h
theorem w_var14 {a0 a1 a2 a3 a4 a5 a6 a7 a8 a9 a10 a11 a12 a13 : Option V} (h : Q v H) : tVar 14 (a0 :: a1 :: a2 :: a3 :: a4 :: a5 :: a6 :: a7 :: a8 :: a9 :: a10 :: a11 :: a12 :: a13 :: some v :: σ) H Q := ⟨v, rfl, h⟩
theorem w_nam14 {a0 a1 a2 a3 a4 a5 a6 a7 a8 a9 a10 a11 a12 a13 a14 : Option V} (h : N (a0 :: a1 :: a2 :: a3 :: a4 :: a5 :: a6 :: a7 :: a8 :: a9 :: a10 :: a11 :: a12 :: a13 :: some v :: σ) H) : gName 14 v (a0 :: a1 :: a2 :: a3 :: a4 :: a5 :: a6 :: a7 :: a8 :: a9 :: a10 :: a11 :: a12 :: a13 :: a14 :: σ) H N := h
theorem w_var15 {a0 a1 a2 a3 a4 a5 a6 a7 a8 a9 a10 a11 a12 a13 a14 : Option V} (h : Q v H) : tVar 15 (a0 :: a1 :: a2 :: a3 :: a4 :: a5 :: a6 :: a7 :: a8 :: a9 :: a10 :: a11 :: a12 :: a13 :: a14 :: some v :: σ) H Q := ⟨v, rfl, h⟩
theorem w_nam15 {a0 a1 a2 a3 a4 a5 a6 a7 a8 a9 a10 a11 a12 a13 a14 a15 : Option V} (h : N (a0 :: a1 :: a2 :: a3 :: a4 :: a5 :: a6 :: a7 :: a8 :: a9 :: a10 :: a11 :: a12 :: a13 :: a14 :: some v :: σ) H) : gName 15 v (a0 :: a1 :: a2 :: a3 :: a4 :: a5 :: a6 :: a7 :: a8 :: a9 :: a10 :: a11 :: a12 :: a13 :: a14 :: a15 :: σ) H N := h
theorem ix_of {n k : Nat} (h : k < n) : ixN n (k : Int) = some k := by
  unfold ixN
  rw [if_pos (by omega), if_pos (by omega)]
  simp
theorem at_of {α : Type} {xs : List α} {k : Nat} {v : α} (h : xs[k]? = some v) : atI xs (k : Int) = some v := by
  unfold atI
  rw [ix_of (List.getElem?_eq_some_iff.mp h).1]
  exact h
theorem at_0 {α : Type} {a0 : α} {l : List α} : atI (a0 :: l) 0 = some a0 := at_of (k := 0) rfl
theorem ix_0 {α : Type} {a0 : α} {l : List α} : ixN (a0 :: l).length 0 = some 0 := ix_of (k := 0) (by simp only [List.length_cons]; omega)
theorem at_1 {α : Type} {a0 a1 : α} {l : List α} : atI (a0 :: a1 :: l) 1 = some a1 := at_of (k := 1) rfl
theorem ix_1 {α : Type} {a0 a1 : α} {l : List α} : ixN (a0 :: a1 :: l).length 1 = some 1 := ix_of (k := 1) (by simp only [List.length_cons]; omega)
theorem at_2 {α : Type} {a0 a1 a2 : α} {l : List α} : atI (a0 :: a1 :: a2 :: l) 2 = some a2 := at_of (k := 2) rfl
theorem ix_2 {α : Type} {a0 a1 a2 : α} {l : List α} : ixN (a0 :: a1 :: a2 :: l).length 2 = some 2 := ix_of (k := 2) (by simp only [List.length_cons]; omega)
theorem at_3 {α : Type} {a0 a1 a2 a3 : α} {l : List α} : atI (a0 :: a1 :: a2 :: a3 :: l) 3 = some a3 := at_of (k := 3) rfl
theorem ix_3 {α : Type} {a0 a1 a2 a3 : α} {l : List α} : ixN (a0 :: a1 :: a2 :: a3 :: l).length 3 = some 3 := ix_of (k := 3) (by simp only [List.length_cons]; omega)
theorem at_4 {α : Type} {a0 a1 a2 a3 a4 : α} {l : List α} : atI (a0 :: a1 :: a2 :: a3 :: a4 :: l) 4 = some a4 := at_of (k := 4) rfl
theorem ix_4 {α : Type} {a0 a1 a2 a3 a4 : α} {l : List α} : ixN (a0 :: a1 :: a2 :: a3 :: a4 :: l).length 4 = some 4 := ix_of (k := 4) (by simp only [List.length_cons]; omega)
theorem at_5 {α : Type} {a0 a1 a2 a3 a4 a5 : α} {l : List α} : atI (a0 :: a1 :: a2 :: a3 :: a4 :: a5 :: l) 5 = some a5 := at_of (k := 5) rfl
theorem ix_5 {α : Type} {a0 a1 a2 a3 a4 a5 : α} {l : List α} : ixN (a0 :: a1 :: a2 :: a3 :: a4 :: a5 :: l).length 5 = some 5 := ix_of (k := 5) (by simp only [List.length_cons]; omega)
theorem at_6 {α : Type} {a0 a1 a2 a3 a4 a5 a6 : α} {l : List α} : atI (a0 :: a1 :: a2 :: a3 :: a4 :: a5 :: a6 :: l) 6 = some a6 := at_of (k := 6) rfl
theorem ix_6 {α : Type} {a0 a1 a2 a3 a4 a5 a6 : α} {l : List α} : ixN (a0 :: a1 :: a2 :: a3 :: a4 :: a5 :: a6 :: l).length 6 = some 6 := ix_of (k := 6) (by simp only [List.length_cons]; omega)
theorem at_7 {α : Type} {a0 a1 a2 a3 a4 a5 a6 a7 : α} {l : List α} : atI (a0 :: a1 :: a2 :: a3 :: a4 :: a5 :: a6 :: a7 :: l) 7 = some a7 := at_of (k := 7) rfl
theorem ix_7 {α : Type} {a0 a1 a2 a3 a4 a5 a6 a7 : α} {l : List α} : ixN (a0 :: a1 :: a2 :: a3 :: a4 :: a5 :: a6 :: a7 :: l).length 7 = some 7 := ix_of (k := 7) (by simp only [List.length_cons]; omega)
end
/-! ### the written part -/
theorem kof {CX : CXT} {P : Program} {w : World} {K : PySem.W.Frag} {mg : Str → Option Value} {base : Heap} {N : List Str} {q : Str} {sc : Scope} {f : Addr} {cd : Value} {A : Around} {outer : List Env} {s : Shared} {H : Hp} {E : XK} {xe : Value → Shared → Prop} :
    ((cxOf CX P w K mg base N q sc f cd A outer s H E).wish xe).K = K := rfl
theorem kof2 {CX : CXT} {P : Program} {w : World} {K : PySem.W.Frag} {mg : Str → Option Value} {base : Heap} {N : List Str} {q : Str} {sc : Scope} {f : Addr} {cd : Value} {A : Around} {outer : List Env} {s : Shared} {H : Hp} {E : XK} :
    (cxOf CX P w K mg base N q sc f cd A outer s H E).K = K := rfl
theorem kofB {X : Cx} {s : Shared} {H : Hp} {sc : Scope} {e : Env} {fp : List Addr} : (X.blk s H sc e fp).K = X.K := rfl
/-! ### sides -/
theorem cmul_l {i j : Int} (h : -(2 ^ 64) < i ∧ i < 2 ^ 64) : CMulA i j := .inl (.inl h)
theorem cmul_r {i j : Int} (h : -(2 ^ 64) < j ∧ j < 2 ^ 64) : CMulA i j := .inl (.inr h)
theorem cdiv_s {i j : Int} (h : 0 < j) (h2 : j < 1073741824) : CDivW i j := ⟨h, Nat.lt_of_lt_of_le (PySem.Flt.log2_lt_of (k := 30) (by decide) (show j.natAbs < 2 ^ 30 by omega)) (by decide)⟩
theorem cdvm_s {i j : Int} (h : 0 < j) (h2 : j < 1073741824) : CDivP i j := ⟨h, PyProof.noPylong_small (by omega)⟩
end Gd

set_option Elab.async false
set_option linter.all false
set_option maxRecDepth 100000
set_option maxHeartbeats 4000000
/-! Wl: the law's wells, and what the drawing defs promise. -/
namespace Gd
open PySem PySem.Spec PyProof.Rows L2
/-- the list of three at w from which numbers are drawn -/
def Wl (H : Hp) (w : Addr) : Prop := ∃ a m n : Int, H w = some (.lst [.int a, .int m, .int n]) ∧ 0 ≤ a ∧ 0 ≤ m ∧ m < 2147483489
/-- what a drawing def leaves -/
def Dr (w : Addr) (H : Hp) (R : Hp → Prop) : Prop := ∀ H', Kp w H H' → Wl H' w → R H'
/-- draw(well, few) -/
def spDraw : Sp := fun vs H Q _ => ∃ (w : Addr) (few : Int), vs = [.ref w, .int few] ∧ 0 < few ∧ few ≤ 1000000000 ∧ Wl H w ∧ ∀ k : Int, 0 ≤ k → k < few → Dr w H fun H' => Q (.int k) H'
end Gd
namespace Gd
open PySem PySem.Spec PyProof.Rows L2
/-- well(script, lap) -/
def spWell (K : PySem.W.Frag) : Sp := fun vs H Q _ => ∃ (a : Addr) (ns : List Int) (lap : Int), vs = [.ref a, .int lap] ∧ SqL K H a (ns.map V.int) ∧ 0 ≤ lap ∧ lap < 1000 ∧ ∀ w H', H w = none → Same H H' → Wl H' w → Q (.ref w) H'
/-- one(well, some), some a tuple or another list -/
def spOne (K : PySem.W.Frag) : Sp := fun vs H Q _ => ∃ (w t : Addr) (xs : List V), vs = [.ref w, .ref t] ∧ (SqT K H t xs ∨ (SqL K H t xs ∧ t ≠ w)) ∧ xs ≠ [] ∧ xs.length ≤ 1000000000 ∧ Wl H w ∧ ∀ v ∈ xs, Dr w H fun H' => Q v H'
/-- lean(top, base): the fraction in lowest terms, base above 0 -/
def leanV (n d : Int) : List V := [.int (n / (Int.gcd n d : Int)), .int (d / (Int.gcd n d : Int))]
def spLean : Sp := fun vs H Q _ => ∃ n d : Int, vs = [.int n, .int d] ∧ 0 < d ∧ d.natAbs < 2 ^ 8000 ∧ ∀ p, H p = none → Q (.ref p) (upd H p (.tup (leanV n d)))
/-- reading ends in the well kept -/
theorem Wl.kp {H H' : Hp} {w v : Addr} (h : Wl H v) (hne : v ≠ w) (k : Kp w H H') : Wl H' v := by
  obtain ⟨a, m, n, e, r⟩ := h
  exact ⟨a, m, n, k _ _ hne e, r⟩
theorem Wl.same {H H' : Hp} {w : Addr} (h : Wl H w) (k : Same H H') : Wl H' w := by
  obtain ⟨a, m, n, e, r⟩ := h
  exact ⟨a, m, n, k _ _ e, r⟩
theorem sqT_ne {K : PySem.W.Frag} {H : Hp} {t w : Addr} {xs ys : List V} (h : H t = some (.tup xs)) (hw : H w = some (.lst ys)) : t ≠ w := fun e => by
  rw [e, hw] at h
  cases h
/-- a tuple stands behind a draw -/
theorem SqT.kp {K : PySem.W.Frag} {H H' : Hp} {t w : Addr} {xs : List V} (h : SqT K H t xs) (hw : Wl H w) (k : Kp w H H') : SqT K H' t xs := by
  obtain ⟨a, m, n, e, _⟩ := hw
  have ne : ∀ o, H t = some o → (∀ z, o ≠ .lst z) → t ≠ w := fun o h1 h2 e1 => by
    rw [e1, e] at h1
    exact h2 _ (Option.some.inj h1).symm
  rcases h with (h | ⟨o, h⟩) | h
  · exact .inl (.inl (k _ _ (ne _ h (by simp)) h))
  · exact .inl (.inr ⟨o, k _ _ (ne _ h (by simp)) h⟩)
  · exact .inr h
theorem SqL.kp {K : PySem.W.Frag} {H H' : Hp} {t w : Addr} {xs : List V} (h : SqL K H t xs) (hn : t ≠ w) (k : Kp w H H') : SqL K H' t xs := by
  rcases h with (h | ⟨o, h⟩) | h
  · exact .inl (.inl (k _ _ hn h))
  · exact .inl (.inr ⟨o, k _ _ hn h⟩)
  · exact .inr h
end Gd
namespace Gd
theorem gcd_abs (n d : Int) : Int.gcd (if n < 0 then -n else n) (if d < 0 then -d else d) = Int.gcd n d := by
  unfold Int.gcd
  congr 1 <;> split <;> simp
theorem gcd_step {x y : Int} (hx : 0 ≤ x) (hy : 0 ≤ y) : Int.gcd y (x % y) = Int.gcd x y := by
  obtain ⟨a, rfl⟩ := Int.eq_ofNat_of_zero_le hx
  obtain ⟨b, rfl⟩ := Int.eq_ofNat_of_zero_le hy
  show Nat.gcd b ((a : Int) % (b : Int)).natAbs = Nat.gcd a b
  rw [← Int.natCast_emod, Int.natAbs_natCast, Nat.gcd_comm b, ← Nat.gcd_rec, Nat.gcd_comm]
theorem gcd_end {x : Int} (hx : 0 ≤ x) : ((Int.gcd x 0 : Nat) : Int) = x := by
  simp [Int.gcd]
  omega
theorem gcd_pos {n d : Int} (h : 0 < d) : (0 : Int) < (Int.gcd n d : Nat) := by
  have := Int.gcd_pos_of_ne_zero_right n (show d ≠ 0 by omega)
  omega
theorem gcd_le {n d : Int} (h : 0 < d) : Int.gcd n d ≤ d.natAbs := Nat.le_of_dvd (by omega) (Nat.gcd_dvd_right _ _)
end Gd
namespace Gd
theorem Wl.apart {H : L2.Hp} {w l : PySem.Addr} (h : Wl H w) (n : H l = none) : w ≠ l := fun e => by
  subst e
  exact h.elim fun _ ⟨_, _, q, _⟩ => by rw [n] at q; cases q
end Gd

set_option Elab.async false
set_option linter.all false
set_option maxRecDepth 100000
set_option maxHeartbeats 4000000
set_option autoImplicit false
/-! Pd: written data, in one word. -/
namespace Gd
open PySem PySem.Spec PyProof.Rows L2
section
variable {w : Addr} {K : PySem.W.Frag} {H H' : Hp}
mutual
theorem Dt.kp (hw : Wl H w) (k : Kp w H H') : ∀ {v : V} {d : PyData}, Dt w K H v d → Dt w K H' v d
  | _, _, .non => .non
  | _, _, .bl b => .bl b
  | _, _, .int i => .int i
  | _, _, .str x => .str x
  | _, _, .lst n h r => .lst n (SqL.kp h n k) (DtL.kp hw k r)
  | _, _, .tup h r => .tup (SqT.kp h hw k) (DtL.kp hw k r)
  | _, _, .dic (a := a) h => .dic (k _ _ (fun e => by
      obtain ⟨_, _, _, e2, _⟩ := hw
      rw [e, e2] at h
      cases h) h)
theorem DtL.kp (hw : Wl H w) (k : Kp w H H') : ∀ {vs : List V} {ds : List PyData}, DtL w K H vs ds → DtL w K H' vs ds
  | _, _, .nil => .nil
  | _, _, .cons h r => .cons (Dt.kp hw k h) (DtL.kp hw k r)
end
theorem DtL.mem : ∀ {vs : List V} {ds : List PyData}, DtL w K H vs ds → ∀ {v : V}, v ∈ vs → ∃ d ∈ ds, Dt w K H v d
  | _, _, .nil, _, e => by cases e
  | _, _, .cons h r, v, e => by
    rcases List.mem_cons.mp e with rfl | e
    · exact ⟨_, List.mem_cons_self .., h⟩
    · obtain ⟨d, m, q⟩ := DtL.mem r e
      exact ⟨d, List.mem_cons_of_mem _ m, q⟩
end
/-- a written datum: what it comes to -/
def tDat (K : PySem.W.Frag) (d : PyData) : TE := fun _ H Q => ∃ w, H w ≠ none ∧ ∀ H' v, Same H H' → Dt w K H' v d → Q v H'
def tDats (K : PySem.W.Frag) (ds : List PyData) : TA := fun _ H Q => ∃ w, H w ≠ none ∧ ∀ H' vs, Same H H' → DtL w K H' vs ds → Q vs H'
section
variable {X : Cx} {e : Expr} {es : List Expr} {t t' : TE} {ta ta' : TA} {d : PyData} {ds : List PyData} {pos : Pos}
theorem pe_weak (h : PE X e t) (f : ∀ σ H Q, t' σ H Q → t σ H Q) : PE X e t' := ⟨fun pins s σ H Q I q => h.run pins s σ H Q I (f σ H Q q)⟩
theorem pa_weak (h : PA X es ta) (f : ∀ σ H Q, ta' σ H Q → ta σ H Q) : PA X es ta' := ⟨fun pos pins s σ H Q I q => h.run pos pins s σ H Q I (f σ H Q q)⟩
theorem pd_int {i j} : PE X (.Constant (.int i) j pos) (tDat X.K (.int i)) := pe_weak pe_int fun _ H _ ⟨_, _, q⟩ => q H _ (Same.refl H) (.int i)
theorem pd_bl {b j} : PE X (.Constant (.bool b) j pos) (tDat X.K (.bool b)) := pe_weak pe_bl fun _ H _ ⟨_, _, q⟩ => q H _ (Same.refl H) (.bl b)
theorem pd_non {j} : PE X (.Constant .none j pos) (tDat X.K .none) := pe_weak pe_non fun _ H _ ⟨_, _, q⟩ => q H _ (Same.refl H) .non
theorem pd_str {x j} : PE X (.Constant (.str x) j pos) (tDat X.K (.str x)) := pe_weak pe_str fun _ H _ ⟨_, _, q⟩ => q H _ (Same.refl H) (.str x)
theorem pd_neg {i j p2} : PE X (.UnaryOp .USub (.Constant (.int i) j p2) pos) (tDat X.K (.int (-i))) := pe_weak (pe_un un_neg pe_int) fun _ H _ ⟨_, _, q⟩ => ⟨i, rfl, q H _ (Same.refl H) (.int (-i))⟩
theorem pd_pow {i k j j2 p2 p3} (h : CPow i k) : PE X (.BinOp (.Constant (.int i) j p2) .Pow (.Constant (.int k) j2 p3) pos) (tDat X.K (.int (i ^ k.toNat))) :=
  pe_weak (pe_op op_pow pe_int pe_int) fun _ H _ ⟨_, _, q⟩ => ⟨i, k, rfl, rfl, h, q H _ (Same.refl H) (.int _)⟩
theorem pds_nil : PA X [] (tDats X.K []) := pa_weak pa_nil fun _ H _ ⟨_, _, q⟩ => q H _ (Same.refl H) .nil
theorem pds_cons (h : PE X e (tDat X.K d)) (r : PA X es (tDats X.K ds)) (hs : starEach (e :: es) X.env = (false, eval e X.env) :: starEach es X.env := by rfl) : PA X (e :: es) (tDats X.K (d :: ds)) :=
  pa_weak (pa_cons h r hs) fun _ H _ ⟨w, n, q⟩ => ⟨w, n, fun H1 v s1 h1 => ⟨w, fun z => n (s1.free z), fun H2 vs s2 h2 => q H2 _ (s1.trans s2) (.cons (Dt.same s2 h1) h2)⟩⟩
theorem pd_tup {x1} (h : PA X es (tDats X.K ds)) (hz : ds.length ≤ 1000 := by decide) : PE X (.Tuple es x1 pos) (tDat X.K (.tuple ds)) :=
  pe_weak (pe_tup h) fun _ H _ ⟨w, n, q⟩ => ⟨w, n, fun H1 vs s1 h1 => ⟨Nat.le_trans (by rw [h1.length]; exact hz) (by decide), fun p hp => q _ _ (s1.trans (same_new hp)) (.tup (SqT.of upd_same) (DtL.same (same_new hp) h1))⟩⟩
theorem pd_lst (h : PA X es (tDats X.K ds)) (hz : ds.length ≤ 1000 := by decide) : PE X (.List es pos) (tDat X.K (.list ds)) :=
  pe_weak (pe_lst h) fun _ H _ ⟨w, n, q⟩ => ⟨w, n, fun H1 vs s1 h1 => ⟨Nat.le_trans (by rw [h1.length]; exact hz) (by decide), fun p hp => q _ _ (s1.trans (same_new hp)) (.lst (fun z => n (s1.free (z ▸ hp))) (SqL.of upd_same) (DtL.same (same_new hp) h1))⟩⟩
theorem pd_dic : PE X (.Dict [] [] pos) (tDat X.K (.dict [])) := by
  refine pe_weak (pe_dnewK) fun σ H Q h => ?_
  obtain ⟨w, n, q⟩ := h
  exact fun p hp => q _ _ (same_new hp) (.dic upd_same)
end
theorem w_dat {K : PySem.W.Frag} {d : PyData} {σ : L2.St} {H : Hp} {Q : VK} {w : Addr} (n : H w ≠ none) (h : ∀ H' v, Same H H' → Dt w K H' v d → Q v H') : tDat K d σ H Q := ⟨w, n, h⟩
theorem Wl.ne {H : Hp} {w : Addr} (h : Wl H w) : H w ≠ none := by
  obtain ⟨a, m, n, e, _⟩ := h
  rw [e]
  simp
/-- one(well, some), some a tuple of data -/
def spOneD (K : PySem.W.Frag) : Sp := fun vs H Q _ => ∃ (w : Addr) (t : V) (ds : List PyData), vs = [.ref w, t] ∧ Dt w K H t (.tuple ds) ∧ ds ≠ [] ∧ ds.length ≤ 1000000 ∧ Wl H w ∧ ∀ d ∈ ds, ∀ H' v, Kp w H H' → Wl H' w → Dt w K H' v d → Q v H'
theorem one_d {K : PySem.W.Frag} {vs : List V} {H : Hp} {Q : VK} {E : XK} (h : spOneD K vs H Q E) : spOne K vs H Q E := by
  obtain ⟨w, t, ds, rfl, hd, n, z, hw, hq⟩ := h
  cases hd with
  | tup hs hr =>
    refine ⟨w, _, _, rfl, .inl hs, fun e => n (by have := hr.length; rw [e] at this; exact List.length_eq_zero_iff.mp this.symm), by rw [hr.length]; omega, hw, fun v hv H' k wl => ?_⟩
    obtain ⟨d, m, q⟩ := hr.mem hv
    exact hq d m H' v k wl (Dt.kp hw k q)
end Gd
namespace Gd
open PySem PySem.Spec PyProof.Rows L2
/-! ### data of tuples alone: they stand whatever lists change -/
mutual
inductive Tt (K : PySem.W.Frag) (H : Hp) : V → PyData → Prop
  | non : Tt K H .non .none
  | bl (b : Bool) : Tt K H (.bl b) (.bool b)
  | int (i : Int) : Tt K H (.int i) (.int i)
  | str (x : Str) : Tt K H (.str x) (.str x)
  | tup {a : Addr} {xs : List V} {ds : List PyData} (h : SqT K H a xs) (r : TtL K H xs ds) : Tt K H (.ref a) (.tuple ds)
inductive TtL (K : PySem.W.Frag) (H : Hp) : List V → List PyData → Prop
  | nil : TtL K H [] []
  | cons {v : V} {vs : List V} {d : PyData} {ds : List PyData} (h : Tt K H v d) (r : TtL K H vs ds) : TtL K H (v :: vs) (d :: ds)
end
/-- tuples stand -/
def TK (H H' : Hp) : Prop := ∀ b o, ((∃ xs, o = .tup xs) ∨ ∃ u v, o = .frz u v) → H b = some o → H' b = some o
theorem TK.refl (H : Hp) : TK H H := fun _ _ _ h => h
theorem TK.trans {H H1 H2 : Hp} (a : TK H H1) (b : TK H1 H2) : TK H H2 := fun c o n h => b c o n (a c o n h)
theorem TK.same {H H' : Hp} (a : Same H H') : TK H H' := fun b o _ h => a b o h
theorem TK.put {H : Hp} {l : Addr} {xs : List V} {o : HO} (h : H l = some (.lst xs)) : TK H (upd H l o) := fun b u n e => by
  rw [upd_ne]
  · exact e
  · rintro rfl
    rw [h] at e
    cases e
    rcases n with ⟨_, n⟩ | ⟨_, _, n⟩ <;> cases n
theorem TK.kp {H H' : Hp} {w : Addr} (hw : Wl H w) (k : Kp w H H') : TK H H' := fun b o n e => k b o (by
  rintro rfl
  obtain ⟨_, _, _, e2, _⟩ := hw
  rw [e2] at e
  cases e
  rcases n with ⟨_, n⟩ | ⟨_, _, n⟩ <;> cases n) e
section
variable {w : Addr} {K : PySem.W.Frag} {H H' : Hp}
theorem SqT.tk {a : Addr} {xs : List V} (k : TK H H') (h : SqT K H a xs) : SqT K H' a xs := by
  rcases h with (h | ⟨o, h⟩) | h
  · exact .inl (.inl (k _ _ (.inl ⟨_, rfl⟩) h))
  · exact .inl (.inr ⟨o, k _ _ (.inr ⟨_, _, rfl⟩) h⟩)
  · exact .inr h
mutual
theorem Tt.tk (k : TK H H') : ∀ {v : V} {d : PyData}, Tt K H v d → Tt K H' v d
  | _, _, .non => .non
  | _, _, .bl b => .bl b
  | _, _, .int i => .int i
  | _, _, .str x => .str x
  | _, _, .tup h r => .tup (SqT.tk k h) (TtL.tk k r)
theorem TtL.tk (k : TK H H') : ∀ {vs : List V} {ds : List PyData}, TtL K H vs ds → TtL K H' vs ds
  | _, _, .nil => .nil
  | _, _, .cons h r => .cons (Tt.tk k h) (TtL.tk k r)
end
mutual
theorem Tt.dt : ∀ {v : V} {d : PyData}, Tt K H v d → Dt w K H v d
  | _, _, .non => .non
  | _, _, .bl b => .bl b
  | _, _, .int i => .int i
  | _, _, .str x => .str x
  | _, _, .tup h r => .tup h (TtL.dt r)
theorem TtL.dt : ∀ {vs : List V} {ds : List PyData}, TtL K H vs ds → DtL w K H vs ds
  | _, _, .nil => .nil
  | _, _, .cons h r => .cons (Tt.dt h) (TtL.dt r)
end
theorem TtL.length : ∀ {vs : List V} {ds : List PyData}, TtL K H vs ds → vs.length = ds.length
  | _, _, .nil => rfl
  | _, _, .cons _ r => congrArg Nat.succ (TtL.length r)
theorem TtL.append : ∀ {vs us : List V} {ds es : List PyData}, TtL K H vs ds → TtL K H us es → TtL K H (vs ++ us) (ds ++ es)
  | _, _, _, _, .nil, s => s
  | _, _, _, _, .cons h r, s => .cons h (TtL.append r s)
theorem TtL.one {v : V} {d : PyData} (h : Tt K H v d) : TtL K H [v] [d] := .cons h .nil
theorem TtL.mem : ∀ {vs : List V} {ds : List PyData}, TtL K H vs ds → ∀ {v : V}, v ∈ vs → ∃ d ∈ ds, Tt K H v d
  | _, _, .nil, _, e => by cases e
  | _, _, .cons h r, v, e => by
    rcases List.mem_cons.mp e with rfl | e
    · exact ⟨_, List.mem_cons_self .., h⟩
    · obtain ⟨d, m, q⟩ := TtL.mem r e
      exact ⟨d, List.mem_cons_of_mem _ m, q⟩
theorem TtL.get : ∀ {vs : List V} {ds : List PyData}, TtL K H vs ds → ∀ {i : Nat} {v : V}, vs[i]? = some v → ∃ d, ds[i]? = some d ∧ Tt K H v d
  | _, _, .nil, _, _, e => by simp at e
  | _, _, .cons h r, 0, _, e => by simp at e; subst e; exact ⟨_, rfl, h⟩
  | _, _, .cons h r, i + 1, _, e => by simpa using TtL.get r (i := i) (by simpa using e)
end
/-! ### fractions, rows -/
def frD (q : Int × Int) : PyData := .tuple [.int q.1, .int q.2]
def rowD (qs : List (Int × Int)) : PyData := .tuple (qs.map frD)
theorem dt_fr {w : Addr} {K : PySem.W.Frag} {H : Hp} {v : V} {q : Int × Int} (h : Dt w K H v (frD q)) : Tt K H v (frD q) := by
  unfold frD at *
  cases h with
  | tup h r =>
    cases r with
    | cons a r =>
      cases r with
      | cons b r =>
        cases r
        cases a
        cases b
        exact .tup h (.cons (.int _) (.cons (.int _) .nil))
theorem tt_fr {K : PySem.W.Frag} {H : Hp} {v : V} {q : Int × Int} (h : Tt K H v (frD q)) : ∃ a, v = .ref a ∧ SqT K H a [.int q.1, .int q.2] := by
  unfold frD at *
  cases h with
  | tup h r =>
    cases r with
    | cons a r =>
      cases r with
      | cons b r =>
        cases r
        cases a
        cases b
        exact ⟨_, rfl, h⟩
theorem tt_row {K : PySem.W.Frag} {H : Hp} {v : V} {qs : List (Int × Int)} (h : Tt K H v (rowD qs)) : ∃ a xs, v = .ref a ∧ SqT K H a xs ∧ TtL K H xs (qs.map frD) := by
  unfold rowD at *
  cases h with
  | tup h r => exact ⟨_, _, rfl, h, r⟩
def NumOk (q : Int × Int) : Prop := 0 < q.2 ∧ Int.gcd q.1 q.2 = 1 ∧ q.1.natAbs ≤ 1000000 ∧ q.2 ≤ 60
instance (q : Int × Int) : Decidable (NumOk q) := by unfold NumOk; infer_instance
def leanF (n d : Int) : Int × Int := (n / (Int.gcd n d : Nat), d / (Int.gcd n d : Nat))
theorem leanF_gcd {n d : Int} (h : 0 < d) : Int.gcd (leanF n d).1 (leanF n d).2 = 1 := by
  have p : 0 < Int.gcd n d := Int.gcd_pos_of_ne_zero_right n (by omega)
  unfold leanF
  exact Int.gcd_ediv_gcd_ediv_gcd p
theorem leanF_pos {n d : Int} (h : 0 < d) : 0 < (leanF n d).2 := by
  have p := gcd_pos (n := n) h
  exact Int.ediv_pos_of_pos_of_dvd h (by omega) (Int.gcd_dvd_right n d)
theorem leanF_n {n d : Int} (h : 0 < d) : (leanF n d).1.natAbs ≤ n.natAbs := by
  unfold leanF
  have p := gcd_pos (n := n) h
  rw [Int.natAbs_ediv_of_dvd (Int.gcd_dvd_left n d)]
  exact Nat.div_le_self _ _
theorem leanF_d {n d : Int} (h : 0 < d) : (leanF n d).2 ≤ d := by
  unfold leanF
  exact Int.ediv_le_self _ (by omega)
def spNumber (K : PySem.W.Frag) : Sp := fun vs H Q _ => ∃ w, vs = [.ref w] ∧ Wl H w ∧ ∀ q, NumOk q → ∀ H' v, Kp w H H' → Wl H' w → Tt K H' v (frD q) → Q v H'
def spNumbers (K : PySem.W.Frag) : Sp := fun vs H Q _ => ∃ (w : Addr) (few : Nat), vs = [.ref w, .int few] ∧ few ≤ 1000 ∧ Wl H w ∧ ∀ qs : List (Int × Int), qs.length = few → (∀ q ∈ qs, NumOk q) → ∀ H' v, Kp w H H' → Wl H' w → Tt K H' v (rowD qs) → Q v H'
def spMinus (K : PySem.W.Frag) : Sp := fun vs H Q _ => ∃ (a b : Addr) (x y : Int × Int), vs = [.ref a, .ref b] ∧ SqT K H a [.int x.1, .int x.2] ∧ SqT K H b [.int y.1, .int y.2] ∧ 0 < x.2 ∧ 0 < y.2 ∧ x.1.natAbs < 2 ^ 4000 ∧ x.2.natAbs < 2 ^ 4000 ∧ y.1.natAbs < 2 ^ 4000 ∧ y.2.natAbs < 2 ^ 4000 ∧
  ∀ p, H p = none → Q (.ref p) (upd H p (.tup [.int (leanF (x.1 * y.2 - y.1 * x.2) (x.2 * y.2)).1, .int (leanF (x.1 * y.2 - y.1 * x.2) (x.2 * y.2)).2]))
end Gd
namespace Gd
open PySem PySem.Spec PyProof.Rows L2
theorem Cal.imp {P : Program} {w : World} {K : PySem.W.Frag} {mg : Str → Option Value} {base : Heap} {x : Str} {k : Nat} {ps : List Str} {sp sp' : Sp} (c : Cal P w K mg base x k ps sp) (h : ∀ vs H Q E, sp' vs H Q E → sp vs H Q E) : Cal P w K mg base x k ps sp' := by
  obtain ⟨f, fd, F, r⟩ := c
  exact ⟨f, fd, F.imp h, r⟩
end Gd
namespace Gd
open PySem PySem.Spec PyProof.Rows L2
/-- a tuple of data and another one -/
theorem w_catD {w : Addr} {K : PySem.W.Frag} {H : Hp} {Q : VK} {x y : V} {ds es : List PyData} (hx : Dt w K H x (.tuple ds)) (hy : Dt w K H y (.tuple es)) (n1 : ds ≠ []) (n2 : es ≠ []) (z : ds.length + es.length ≤ 1000)
    (h : ∀ p xs, H p = none → Dt w K (upd H p (.tup xs)) (.ref p) (.tuple (ds ++ es)) → Q (.ref p) (upd H p (.tup xs))) : rAddA K x y H Q := by
  cases hx with
  | tup hx rx =>
    cases hy with
    | tup hy ry =>
      refine .inr (.inl ⟨_, _, _, _, rfl, rfl, hx, hy, Nat.le_trans (by rw [rx.length, ry.length]; exact z) (by decide), fun e => ?_, fun _ e => ?_, fun _ _ p hp => h p _ hp (.tup (SqT.of upd_same) (DtL.same (same_new hp) (rx.append ry)))⟩)
      · exact absurd (List.length_eq_zero_iff.mp (by rw [← rx.length, e]; rfl)) n1
      · exact absurd (List.length_eq_zero_iff.mp (by rw [← ry.length, e]; rfl)) n2
end Gd

set_option Elab.async false
set_option linter.all false
set_option maxRecDepth 100000
set_option maxHeartbeats 4000000
set_option autoImplicit false
/-! Tr: drawn trials. -/
namespace Gd
open PySem PySem.Spec PyProof.Rows L2 RZ
/-- the least common multiple of 1 .. 60 -/
def L60 : Nat := 9690712164777231700912800
theorem dvd60 {d : Int} (h : 0 < d) (h2 : d ≤ 60) : d ∣ (L60 : Int) := by
  have key : ∀ k : Nat, k < 61 → 0 < k → L60 % k = 0 := by decide
  obtain ⟨k, rfl⟩ := Int.eq_ofNat_of_zero_le (show 0 ≤ d by omega)
  exact Int.natCast_dvd_natCast.mpr (Nat.dvd_of_mod_eq_zero (key k (by omega) (by omega)))
/-- an entry of a row made in i turns -/
def Ent (i : Nat) (q : Int × Int) : Prop := 0 < q.2 ∧ Int.gcd q.1 q.2 = 1 ∧ q.2 ∣ (L60 : Int) ∧ (q.1.natAbs : Int) ≤ 1000000 * 2 ^ i * q.2
theorem Ent.up {i j : Nat} {q : Int × Int} (h : Ent i q) (l : i ≤ j) : Ent j q := by
  obtain ⟨a, b, c, d⟩ := h
  refine ⟨a, b, c, Int.le_trans d ?_⟩
  have e : (2 : Int) ^ i ≤ 2 ^ j := by
    have := Nat.pow_le_pow_right (n := 2) (by decide) l
    exact_mod_cast this
  have e2 : (1000000 : Int) * 2 ^ i ≤ 1000000 * 2 ^ j := by omega
  exact Int.mul_le_mul_of_nonneg_right e2 (by omega)
theorem NumOk.ent {q : Int × Int} (h : NumOk q) : Ent 0 q := by
  obtain ⟨a, b, c, d⟩ := h
  refine ⟨a, b, dvd60 a d, ?_⟩
  have : (q.1.natAbs : Int) ≤ 1000000 := by omega
  have e : (1000000 : Int) * 1 ≤ 1000000 * q.2 := by omega
  simp
  omega
theorem Ent.lt {i : Nat} {q : Int × Int} (h : Ent i q) (hi : i ≤ 10) : q.1.natAbs < 2 ^ 120 ∧ q.2.natAbs < 2 ^ 120 := by
  obtain ⟨a, b, c, d⟩ := h
  have l : q.2 ≤ (L60 : Int) := Int.le_of_dvd (by decide) c
  have e : (2 : Int) ^ i ≤ 2 ^ 10 := by
    have := Nat.pow_le_pow_right (n := 2) (by decide) hi
    exact_mod_cast this
  have e2 : (1000000 : Int) * 2 ^ i ≤ 1000000 * 2 ^ 10 := by omega
  have e3 : (1000000 : Int) * 2 ^ i * q.2 ≤ 1000000 * 2 ^ 10 * L60 := Int.le_trans (Int.mul_le_mul_of_nonneg_right e2 (by omega)) (Int.mul_le_mul_of_nonneg_left l (by decide))
  have e4 : (1000000 : Int) * 2 ^ 10 * L60 < 2 ^ 120 := by decide
  have e5 : (L60 : Int) < 2 ^ 120 := by decide
  have e6 : ((2 ^ 120 : Nat) : Int) = 2 ^ 120 := by decide
  constructor <;> omega
theorem Ent.minus {i : Nat} {x y : Int × Int} (hx : Ent i x) (hy : Ent i y) : Ent (i + 1) (leanF (x.1 * y.2 - y.1 * x.2) (x.2 * y.2)) := by
  obtain ⟨a1, b1, c1, d1⟩ := hx
  obtain ⟨a2, b2, c2, d2⟩ := hy
  have p : 0 < x.2 * y.2 := Int.mul_pos a1 a2
  generalize hn : x.1 * y.2 - y.1 * x.2 = n
  generalize hd : x.2 * y.2 = d at p
  have g0 := gcd_pos (n := n) p
  have gn : (leanF n d).1 * (Int.gcd n d : Nat) = n := Int.ediv_mul_cancel (Int.gcd_dvd_left n d)
  have gd : (leanF n d).2 * (Int.gcd n d : Nat) = d := Int.ediv_mul_cancel (Int.gcd_dvd_right n d)
  refine ⟨leanF_pos p, leanF_gcd p, ?_, ?_⟩
  · obtain ⟨u, hu⟩ := c1
    obtain ⟨v, hv⟩ := c2
    -- n * L = (x.1 u - y.1 v) d
    have e : n * (L60 : Int) = (x.1 * u - y.1 * v) * d := by
      have e1 : n * (L60 : Int) = x.1 * y.2 * L60 - y.1 * x.2 * L60 := by rw [← hn, Int.sub_mul]
      have e2 : x.1 * y.2 * (L60 : Int) = x.1 * u * (x.2 * y.2) := by rw [hu]; simp only [Int.mul_comm, Int.mul_assoc, Int.mul_left_comm]
      have e3 : y.1 * x.2 * (L60 : Int) = y.1 * v * (x.2 * y.2) := by rw [hv]; simp only [Int.mul_comm, Int.mul_assoc, Int.mul_left_comm]
      rw [e1, e2, e3, hd, ← Int.sub_mul]
    have e' : (leanF n d).1 * (L60 : Int) = (x.1 * u - y.1 * v) * (leanF n d).2 := by
      have q : (leanF n d).1 * (L60 : Int) * (Int.gcd n d : Nat) = (x.1 * u - y.1 * v) * (leanF n d).2 * (Int.gcd n d : Nat) := by
        rw [Int.mul_assoc _ (leanF n d).2, gd, ← e, Int.mul_right_comm, gn]
      exact Int.eq_of_mul_eq_mul_right (by omega) q
    have cop : Int.gcd (leanF n d).2 (leanF n d).1 = 1 := by rw [Int.gcd_comm]; exact leanF_gcd p
    have dv : (leanF n d).2 ∣ (leanF n d).1 * (L60 : Int) := ⟨x.1 * u - y.1 * v, by rw [e', Int.mul_comm]⟩
    have dn : (leanF n d).2.natAbs ∣ (leanF n d).1.natAbs * L60 := by
      have := Int.natAbs_dvd_natAbs.mpr dv
      rwa [Int.natAbs_mul, Int.natAbs_natCast] at this
    have := Nat.Coprime.dvd_of_dvd_mul_left (k := (leanF n d).2.natAbs) cop dn
    exact Int.natAbs_dvd_natAbs.mp (by rwa [Int.natAbs_natCast])
  · have s1 : ((x.1 * y.2).natAbs : Int) ≤ 1000000 * 2 ^ i * d := by
      rw [Int.natAbs_mul]
      push_cast
      have : (y.2.natAbs : Int) = y.2 := by omega
      rw [this, ← hd, ← Int.mul_assoc]
      exact Int.mul_le_mul_of_nonneg_right d1 (by omega)
    have s2 : ((y.1 * x.2).natAbs : Int) ≤ 1000000 * 2 ^ i * d := by
      rw [Int.natAbs_mul]
      push_cast
      have : (x.2.natAbs : Int) = x.2 := by omega
      rw [this, ← hd, Int.mul_comm x.2, ← Int.mul_assoc]
      exact Int.mul_le_mul_of_nonneg_right d2 (by omega)
    have s3 : (n.natAbs : Int) ≤ 1000000 * 2 ^ (i + 1) * d := by
      have t : 1000000 * 2 ^ (i + 1) * d = 1000000 * 2 ^ i * d + 1000000 * 2 ^ i * d := by
        rw [Int.pow_succ]
        have : (1000000 : Int) * (2 ^ i * 2) * d = 2 * (1000000 * 2 ^ i * d) := by simp only [Int.mul_comm, Int.mul_assoc, Int.mul_left_comm]
        omega
      rw [t]
      omega
    have g1 : (n.natAbs : Int) = ((leanF n d).1.natAbs : Int) * (Int.gcd n d : Nat) := by
      have := congrArg Int.natAbs gn
      rw [Int.natAbs_mul, Int.natAbs_natCast] at this
      exact_mod_cast this.symm
    have s4 : ((leanF n d).1.natAbs : Int) * (Int.gcd n d : Nat) ≤ 1000000 * 2 ^ (i + 1) * (leanF n d).2 * (Int.gcd n d : Nat) := by
      rw [← g1, Int.mul_assoc, gd]
      exact s3
    exact Int.le_of_mul_le_mul_right s4 (by omega)
end Gd
namespace Gd
open PySem PySem.Spec PyProof.Rows L2 RZ
open PySem.PyData (canLay0 canLayAll0 depth depthAll)
theorem canAll {α : Type} {f : α → PyData} : ∀ {l : List α}, (∀ a ∈ l, (f a).canLay0 = true) → canLayAll0 (l.map f) = true
  | [], _ => by simp [canLayAll0]
  | a :: l, h => by
    simp only [List.map_cons, canLayAll0, Bool.and_eq_true]
    exact ⟨h a (List.mem_cons_self ..), canAll fun b m => h b (List.mem_cons_of_mem _ m)⟩
theorem depAll {α : Type} {f : α → PyData} {k : Nat} : ∀ {l : List α}, (∀ a ∈ l, (f a).depth ≤ k) → depthAll (l.map f) ≤ k
  | [], _ => by simp [depthAll]
  | a :: l, h => by
    simp only [List.map_cons, depthAll]
    have h1 := h a (List.mem_cons_self ..)
    have h2 := depAll (l := l) fun b m => h b (List.mem_cons_of_mem _ m)
    omega
theorem can_fr (q : Int × Int) : (frD q).canLay0 = true := by simp [frD, canLay0, canLayAll0]
theorem dep_fr (q : Int × Int) : (frD q).depth = 1 := by simp [frD, depth, depthAll]
theorem can_row (qs : List (Int × Int)) : (rowD qs).canLay0 = true := by
  unfold rowD
  simp only [canLay0]
  exact canAll fun a _ => can_fr a
theorem dep_row (qs : List (Int × Int)) : (rowD qs).depth ≤ 2 := by
  unfold rowD
  simp only [depth]
  have := depAll (k := 1) (f := frD) (l := qs) fun a _ => by rw [dep_fr]; omega
  omega
theorem shaped_rows (rows : List (List (Int × Int))) : SeqAt.shaped (.list (rows.map rowD)) = true := by
  unfold SeqAt.shaped
  simp only [canLay0, depth, Bool.and_eq_true, decide_eq_true_eq]
  have := depAll (k := 2) (f := rowD) (l := rows) fun a _ => dep_row a
  exact ⟨canAll fun a _ => can_row a, decide_eq_true (show depthAll (rows.map rowD) + 1 ≤ 64 by omega)⟩
section
variable {K : PySem.W.Frag} {H : Hp}
mutual
theorem Tt.dp : ∀ {v : V} {d : PyData}, Tt K H v d → Dp K H v d
  | _, _, .non => .non
  | _, _, .bl b => .bl b
  | _, _, .int i => .int i
  | _, _, .str x => .str x
  | _, _, .tup h r => .tup h (TtL.dp r)
theorem TtL.dp : ∀ {vs : List V} {ds : List PyData}, TtL K H vs ds → DpAll K H vs ds
  | _, _, .nil => .nil
  | _, _, .cons h r => .cons (Tt.dp h) (TtL.dp r)
end
end
theorem eqv_nil (ds : List PyData) : PyData.eqv (.list ds) (.list []) = decide (ds = []) := by
  cases ds <;> simp [PyData.eqv, PyData.eqvAll]
/-- a drawn trial -/
structure Trl where
  rows : List (List (Int × Int))
  spreads : List (Int × Int)
  blocks : List Int
def Trl.d (t : Trl) : PyData := .tuple [.tuple (t.rows.map rowD), rowD t.spreads, .tuple (t.blocks.map .int)]
def SprOk (q : Int × Int) : Prop := q ∈ [((1, 1) : Int × Int), (2, 1), (1, 2), (1, 3), (5, 2)]
structure Trl.Ok (t : Trl) (most : Nat) : Prop where
  n1 : 1 ≤ t.rows.length
  n2 : t.rows.length ≤ most
  wide : ∃ k, 1 ≤ k ∧ k ≤ 5 ∧ ∀ r ∈ t.rows, r.length = k
  ent : ∀ r ∈ t.rows, ∀ q ∈ r, Ent 10 q
  spl : t.spreads.length = t.rows.length
  spr : ∀ q ∈ t.spreads, SprOk q
  bl : t.blocks = [] ∨ (t.blocks.length = t.rows.length ∧ ∀ b ∈ t.blocks, 0 ≤ b ∧ b ≤ 4)
def spTrial (K : PySem.W.Frag) : Sp := fun vs H Q _ => ∃ (w : Addr) (most : Nat), vs = [.ref w, .int most] ∧ 1 ≤ most ∧ most ≤ 10 ∧ Wl H w ∧ ∀ t : Trl, t.Ok most → ∀ H' v, Kp w H H' → Wl H' w → Tt K H' v t.d → Q v H'
/-! ### a comprehension over zip of two tuples -/
theorem c_zipT {K : PySem.W.Frag} {a b : Addr} {xs ys : List V} {g : TG} {tt : TT} {te : TE} {vs : List Nat} {σ : L2.St} {H1 : Hp} {D : Addr} {Qd : Hp → Prop} (hl : xs.length = ys.length) (Pv : Nat → Hp → Prop) (h0 : Pv 0 (upd H1 D (.lst []))) (hq : ∀ i H, Pv i H → SqT K H a xs ∧ SqT K H b ys)
    (hs : ∀ i x y T H, xs[i]? = some x → ys[i]? = some y → Pv i H → H T = none → g (.ref T) (wipe σ vs) (upd H T (.tup [x, y])) fun σ2 H2 => wipe σ2 vs = wipe σ vs ∧ tt σ2 H2 fun b H3 =>
      if b = true then te σ2 H3 fun y H4 => ∃ acc, H4 D = some (.lst acc) ∧ acc.length < sizeLine ∧ Pv (i + 1) (upd H4 D (.lst (acc ++ [y]))) else Pv (i + 1) H3) (hd : ∀ H, Pv xs.length H → Qd H) :
    ∃ W : Nat → Nat → Hp → Prop, (∃ m, W 0 m (upd H1 D (.lst []))) ∧ ∀ i m H, W i m H →
      ((ItzT K a b).stop i H ∧ Qd H) ∨ ((ItzT K a b).go i H ∧ ∃ Nx : Hp → Prop, (∀ H', Nx H' → ∃ m', m' < m ∧ W (i + 1) m' H') ∧ ∀ x H', (ItzT K a b).yld i H x H' → g x (wipe σ vs) H' fun σ2 H2 => wipe σ2 vs = wipe σ vs ∧ tt σ2 H2 fun b H3 =>
        if b = true then te σ2 H3 fun y H4 => ∃ acc, H4 D = some (.lst acc) ∧ acc.length < sizeLine ∧ Nx (upd H4 D (.lst (acc ++ [y]))) else Nx H3) := by
  refine ⟨fun i m H => m = xs.length - i ∧ i ≤ xs.length ∧ Pv i H, ⟨xs.length, by simp, Nat.zero_le _, h0⟩, ?_⟩
  rintro i m H ⟨rfl, hi, p⟩
  obtain ⟨qa, qb⟩ := hq i H p
  by_cases hlt : i < xs.length
  · have hx : xs[i]? = some xs[i] := List.getElem?_eq_getElem hlt
    have hy : ys[i]? = some (ys[i]'(by omega)) := List.getElem?_eq_getElem (by omega)
    refine .inr ⟨⟨xs, ys, _, _, qa, qb, hx, hy⟩, Pv (i + 1), fun H' p' => ⟨xs.length - (i + 1), by omega, rfl, hlt, p'⟩, ?_⟩
    rintro _ _ ⟨T, x, y, rfl, hT, rfl, fx, fy⟩
    exact hs i x y T H (fx xs qa) (fy ys qb) p hT
  · exact .inl ⟨⟨xs, ys, qa, qb, .inl (by omega)⟩, hd H ((show i = xs.length by omega) ▸ p)⟩
section
variable {n : L2.St → Hp → Prop} {r : VK} {b c : L2.St → Hp → Prop} {σ : L2.St} {H : Hp} {Q : VK} {K : PySem.W.Frag}
theorem w_lc {wi : TI} {g : TG} {tt : TT} {te : TE} {vs : List Nat} (h : wi σ H fun J H1 => ∀ D, H1 D = none → ∃ W : Nat → Nat → Hp → Prop, (∃ m, W 0 m (upd H1 D (.lst []))) ∧ ∀ i m H, W i m H →
      (J.stop i H ∧ Q (.ref D) H) ∨ (J.go i H ∧ ∃ Nx : Hp → Prop, (∀ H', Nx H' → ∃ m', m' < m ∧ W (i + 1) m' H') ∧ ∀ x H', J.yld i H x H' → g x (wipe σ vs) H' fun σ2 H2 => wipe σ2 vs = wipe σ vs ∧ tt σ2 H2 fun b H3 =>
        if b = true then te σ2 H3 fun y H4 => ∃ acc, H4 D = some (.lst acc) ∧ acc.length < sizeLine ∧ Nx (upd H4 D (.lst (acc ++ [y]))) else Nx H3)) : tLc wi g tt te vs σ H Q := h
theorem w_iz {tz : TA} {R : It → Hp → Prop} (h : tz σ H fun vs H1 => ∃ a b xs ys, vs = [.ref a, .ref b] ∧ ((SqL K H1 a xs ∧ SqL K H1 b ys ∧ R (Itz K a b) H1) ∨ (SqT K H1 a xs ∧ SqT K H1 b ys ∧ R (ItzT K a b) H1))) : iZipA K tz σ H R := h
theorem w_yes {R : Bool → Hp → Prop} (h : R true H) : tYes σ H R := h
end
end Gd

namespace Gd
open PySem PySem.Spec PyProof.Rows L2 RZ
theorem w_cut {n : L2.St → Hp → Prop} {r : VK} {b c : L2.St → Hp → Prop} {σ : L2.St} {H : Hp} {t u : TS} (Mid : L2.St → Hp → Prop) (h1 : t ⟨Mid, r, b, c⟩ σ H) (h2 : ∀ σ' H', Mid σ' H' → u ⟨n, r, b, c⟩ σ' H') : C8.tCut t u ⟨n, r, b, c⟩ σ H := ⟨Mid, h1, h2⟩
/-- what stands while a trial is drawn: three lists beside the well -/
structure TI (K : PySem.W.Frag) (w l1 l2 l3 : Addr) (H : Hp) (few i : Nat) (rows : List (List (Int × Int))) (sprs : List (Int × Int)) (blks : List Int) (xr xs : List V) (H' : Hp) : Prop where
  a1 : rows.length = i
  a2 : sprs.length = i
  a3 : blks.length = i
  a4 : ∀ r ∈ rows, r.length = few ∧ ∀ q ∈ r, Ent i q
  a5 : ∀ s ∈ sprs, SprOk s
  a6 : ∀ b ∈ blks, 0 ≤ b ∧ b ≤ 4
  h1 : H' l1 = some (.lst xr)
  t1 : TtL K H' xr (rows.map rowD)
  h2 : H' l2 = some (.lst xs)
  t2 : TtL K H' xs (sprs.map frD)
  h3 : H' l3 = some (.lst (blks.map V.int))
  n1 : w ≠ l1
  n2 : w ≠ l2
  n3 : w ≠ l3
  n12 : l1 ≠ l2
  n13 : l1 ≠ l3
  n23 : l2 ≠ l3
  z1 : H l1 = none
  z2 : H l2 = none
  z3 : H l3 = none
  kp : Kp w H H'
  wl : Wl H' w
section
variable {K : PySem.W.Frag} {w l1 l2 l3 : Addr} {H H' H2 : Hp} {few i : Nat} {rows : List (List (Int × Int))} {sprs : List (Int × Int)} {blks : List Int} {xr xs : List V}
theorem TI.dr (T : TI K w l1 l2 l3 H few i rows sprs blks xr xs H') (k : Kp w H' H2) (wl : Wl H2 w) : TI K w l1 l2 l3 H few i rows sprs blks xr xs H2 :=
  { T with h1 := k _ _ T.n1.symm T.h1, t1 := TtL.tk (TK.kp T.wl k) T.t1, h2 := k _ _ T.n2.symm T.h2, t2 := TtL.tk (TK.kp T.wl k) T.t2, h3 := k _ _ T.n3.symm T.h3, kp := T.kp.trans k, wl := wl }
theorem TI.new (T : TI K w l1 l2 l3 H few i rows sprs blks xr xs H') {p : Addr} {o : HO} (n : H' p = none) : TI K w l1 l2 l3 H few i rows sprs blks xr xs (upd H' p o) := T.dr (Kp.new n) (T.wl.same (same_new n))
/-- a list of its own is written: the rest stands -/
theorem kp_own {o : HO} {l : Addr} (k : Kp w H H') (z : H l = none) : Kp w H (upd H' l o) := fun b u n e => by
  rw [upd_ne (ne_of_none e z)]
  exact k _ _ n e
theorem wl_own {o : HO} {l : Addr} (wl : Wl H' w) (n : w ≠ l) : Wl (upd H' l o) w := by
  obtain ⟨a, m, k, e, r⟩ := wl
  exact ⟨a, m, k, by rw [upd_ne n]; exact e, r⟩
/-- a turn's three items are put behind -/
theorem TI.step (T : TI K w l1 l2 l3 H few i rows sprs blks xr xs H') {r : List (Int × Int)} {s : Int × Int} {b : Int} {vr vs : V} {H3 H5 : Hp} (hr : Tt K H' vr (rowD r)) (lr : r.length = few) (er : ∀ q ∈ r, Ent (i + 1) q)
    (k3 : Kp w (upd H' l1 (.lst (xr ++ [vr]))) H3) (w3 : Wl H3 w) (hs : Tt K H3 vs (frD s)) (os : SprOk s) (k5 : Kp w (upd H3 l2 (.lst (xs ++ [vs]))) H5) (w5 : Wl H5 w) (hb : 0 ≤ b ∧ b ≤ 4) :
    TI K w l1 l2 l3 H few (i + 1) (rows ++ [r]) (sprs ++ [s]) (blks ++ [b]) (xr ++ [vr]) (xs ++ [vs]) (upd H5 l3 (.lst ((blks ++ [b]).map V.int))) := by
  have p1 := TK.put (o := .lst (xr ++ [vr])) T.h1
  have w1 : Wl (upd H' l1 (.lst (xr ++ [vr]))) w := wl_own T.wl T.n1
  have q3 := TK.kp w1 k3
  have e2 : H3 l2 = some (.lst xs) := k3 _ _ T.n2.symm (by rw [upd_ne T.n12.symm]; exact T.h2)
  have p4 := TK.put (o := .lst (xs ++ [vs])) e2
  have w4 : Wl (upd H3 l2 (.lst (xs ++ [vs]))) w := wl_own w3 T.n2
  have q5 := TK.kp w4 k5
  have e3 : H5 l3 = some (.lst (blks.map V.int)) := k5 _ _ T.n3.symm (by
    rw [upd_ne T.n23.symm]
    exact k3 _ _ T.n3.symm (by rw [upd_ne T.n13.symm]; exact T.h3))
  have p6 := TK.put (o := .lst ((blks ++ [b]).map V.int)) e3
  have all : TK H' (upd H5 l3 (.lst ((blks ++ [b]).map V.int))) := (((p1.trans q3).trans p4).trans q5).trans p6
  have tail : TK H3 (upd H5 l3 (.lst ((blks ++ [b]).map V.int))) := (p4.trans q5).trans p6
  refine { T with a1 := by rw [List.length_append, T.a1]; rfl, a2 := by rw [List.length_append, T.a2]; rfl, a3 := by rw [List.length_append, T.a3]; rfl, a4 := fun x hx => ?_, a5 := fun x hx => ?_, a6 := fun x hx => ?_, h1 := ?_, t1 := ?_, h2 := ?_, t2 := ?_, h3 := upd_same, kp := ?_, wl := wl_own w5 T.n3 }
  · rcases List.mem_append.mp hx with h | h
    · exact ⟨(T.a4 x h).1, fun q hq => ((T.a4 x h).2 q hq).up (Nat.le_succ _)⟩
    · rw [List.mem_singleton.mp h]
      exact ⟨lr, er⟩
  · rcases List.mem_append.mp hx with h | h
    · exact T.a5 x h
    · rw [List.mem_singleton.mp h]
      exact os
  · rcases List.mem_append.mp hx with h | h
    · exact T.a6 x h
    · rw [List.mem_singleton.mp h]
      exact hb
  · rw [upd_ne T.n13]
    refine k5 _ _ T.n1.symm ?_
    rw [upd_ne T.n12]
    exact k3 _ _ T.n1.symm upd_same
  · rw [show (rows ++ [r]).map rowD = rows.map rowD ++ [rowD r] from List.map_append]
    exact (TtL.tk all T.t1).append (.one (hr.tk all))
  · rw [upd_ne T.n23]
    exact k5 _ _ T.n2.symm upd_same
  · rw [show (sprs ++ [s]).map frD = sprs.map frD ++ [frD s] from List.map_append]
    exact (TtL.tk all T.t2).append (.one (hs.tk tail))
  · refine kp_own (fun c o n e => k5 _ _ n ?_) T.z3
    rw [upd_ne (ne_of_none e T.z2)]
    refine k3 _ _ n ?_
    rw [upd_ne (ne_of_none e T.z1)]
    exact T.kp _ _ n e
end
end Gd

namespace Gd
open PySem PySem.Spec PyProof.Rows L2 RZ
theorem TtL.nth {K : PySem.W.Frag} {H : Hp} {α : Type} {f : α → PyData} {vs : List V} {l : List α} (h : TtL K H vs (l.map f)) {i : Nat} {v : V} (e : vs[i]? = some v) : ∃ a, l[i]? = some a ∧ Tt K H v (f a) := by
  obtain ⟨d, h1, h2⟩ := h.get e
  rw [List.getElem?_map] at h1
  cases q : l[i]? with
  | none => rw [q] at h1; cases h1
  | some a => rw [q] at h1; cases h1; exact ⟨a, rfl, h2⟩
theorem TtL.memf {K : PySem.W.Frag} {H : Hp} {α : Type} {f : α → PyData} {vs : List V} {l : List α} (h : TtL K H vs (l.map f)) {v : V} (e : v ∈ vs) : ∃ a ∈ l, Tt K H v (f a) := by
  obtain ⟨i, hi⟩ := List.mem_iff_getElem?.mp e
  obtain ⟨a, h1, h2⟩ := h.nth hi
  exact ⟨a, List.mem_of_getElem? h1, h2⟩
theorem TtL.len {K : PySem.W.Frag} {H : Hp} {α : Type} {f : α → PyData} {vs : List V} {l : List α} (h : TtL K H vs (l.map f)) : vs.length = l.length := by
  rw [h.length, List.length_map]
theorem TtL.ints {K : PySem.W.Frag} {H : Hp} : ∀ l : List Int, TtL K H (l.map V.int) (l.map PyData.int)
  | [] => .nil
  | i :: l => .cons (.int i) (TtL.ints l)
end Gd

set_option Elab.async false
set_option linter.all false
set_option maxRecDepth 100000
set_option maxHeartbeats 4000000
set_option autoImplicit false
/-! Kv: the rules that name the written part, by its own letter. -/
namespace Gd
open PySem PySem.Spec PyProof.Rows L2 RZ
section
variable {X : Cx} {K : PySem.W.Frag}
theorem k_add (e : X.K = K) : OpR X (binaryOp .Add) (rAddA K) := e ▸ op_addA
theorem k_mul (e : X.K = K) : OpR X (binaryOp .Mult) (rMulA K) := e ▸ op_mulA
theorem k_eq (e : X.K = K) (hu : X.A.units + 64 < cLine) : OpR X (compareOp .Eq) (rEqA K) := e ▸ op_eqA hu
theorem k_ne (e : X.K = K) (hu : X.A.units + 64 < cLine) : OpR X (compareOp .NotEq) (rNeA K) := e ▸ op_neA hu
theorem k_ix (e : X.K = K) : IxR X (rIx K) := e ▸ ix_seq
theorem k_sl (e : X.K = K) : SlR X (rSlS K) := e ▸ sl_any
theorem k_len (e : X.K = K) : CallR X (.builtin "len") (rLen K) := e ▸ call_lenA
theorem k_tupT (e : X.K = K) : CallR X (.type "tuple") (rTup K) := e ▸ call_tupA
theorem k_lstT (e : X.K = K) : CallR X (.type "list") (rLst K) := e ▸ call_lstA
theorem k_isi (e : X.K = K) : CallR X (.builtin "isinstance") (rIsi K) := e ▸ call_isi
theorem k_all (e : X.K = K) (hc : X.calm = true) : CallR X (.builtin "all") (rAll K) := e ▸ cr_all hc
theorem k_any (e : X.K = K) (hc : X.calm = true) : CallR X (.builtin "any") (rAny K) := e ▸ cr_any hc
theorem k_maxL (e : X.K = K) (hc : X.calm = true) : CallR X (.builtin "max") (rMax K) := e ▸ cr_max hc
theorem k_repr (e : X.K = K) (S : SysM X.base) (hG : Cl X.A) (hu : X.A.units + 150 < cLine) : CallR X (.builtin "repr") (rRepr K) := e ▸ call_repr S hG hu
theorem k_gtup {pos : Pos} {es : List Expr} {k : Nat} {t : TGs} {n : Nat} (e : X.K = K) (hc : X.calm = true) (h : PGs X es t)
    (hn : (assignEach es X.env).length = n := by rfl) (hst : (assignEach es X.env).findIdx? (·.1) = none := by rfl) : PG X (.Tuple es k pos) (gTup K n t) := e ▸ pg_tup hc h hn hst
theorem k_list {tg l : Expr} {tl : TE} (e : X.K = K) (hl : PE X l tl) : PI X tg l (iList K tl) := e ▸ pi_list hl
theorem k_tup {tg l : Expr} {tl : TE} (e : X.K = K) (hl : PE X l tl) : PI X tg l (iTup K tl) := e ▸ pi_tup hl
theorem k_enum {e' : Expr} {ta : TA} {p pos tpos : Pos} {elts : List Expr} {kk : Nat} (e : X.K = K) (hg : Gl X "enumerate") (hm : X.mg "enumerate" = none) (ha : PA X [e'] ta) (hs : starEach [e'] X.env = [(false, eval e' X.env)] := by rfl) :
    PI X (.Tuple elts kk tpos) (.Call (.Name "enumerate" p) [e'] [] pos) (iEnum K ta) := e ▸ pi_enum hg hm ha hs
theorem k_zip {e1 e2 : Expr} {ta : TA} {p pos tpos : Pos} {elts : List Expr} {kk : Nat} (e : X.K = K) (hg : Gl X "zip") (hm : X.mg "zip" = none) (ha : PA X [e1, e2] ta)
    (hs : starEach [e1, e2] X.env = (false, eval e1 X.env) :: starEach [e2] X.env := by rfl) (hpl : (backTo pos (starEach [e2] X.env)).any (·.1) = false := by rfl) :
    PI X (.Tuple elts kk tpos) (.Call (.Name "zip" p) [e1, e2] [] pos) (iZipA K ta) := e ▸ pi_zipA hg hm ha hs hpl
theorem k_dat {e' : Expr} {d : PyData} (e : X.K = K) (h : PE X e' (tDat X.K d)) : PE X e' (tDat K d) := e ▸ h
end
end Gd

set_option Elab.async false
set_option linter.all false
set_option maxRecDepth 100000
set_option maxHeartbeats 4000000
set_option autoImplicit false
/-! Er: errors as values: made by position and by name, their fields read. -/
namespace Gd
open PySem PySem.HandSPX
section
variable {M : Model} {prog : Program} {w : World} {A : Around} {E : Value → Shared → Prop} {R : Result → Shared → Prop} {h : Heap} {g : Array GenState} {d : Drawn} {t : Nat} {os : OsState}
variable {nm q : Str} {C N : Addr} {bs bm bmB : List Value} {hdct : Bool} {sn : List Str} {sub : List Value} {ab : Bool} {col : Option Bool} {dd : Option Addr} {k0 k1 k2 k3 k5 : Option Value} {B newId initId : String} {kw : List (Str × Value)}
theorem chk_call {rest : List Value} {Q : Unit → Shared → Prop} (hC : h.get? C = some (excClassObj nm q C N bs bm hdct sn sub ab col dd k0 k1 k2 k3 k5 newId))
    (hq : Q () ⟨h, g, d, t, os⟩) : wpAny M A (checkBuiltinCall "type.__call__" ⟨.ref C :: rest, kw⟩) Q E ⟨h, g, d, t, os⟩ := by
  have f3 := tc_sub
  have hT : (⟨h, g, d, t, os⟩ : Shared).TypeIs (.ref C) "type" := ⟨_, hC, rfl⟩
  simp only [checkBuiltinCall, tc_kind, tc_split]
  repeat (any_goals (first | assumption | with_reducible refine wpAny_loadPart_at hC ?_ | with_reducible refine wpAny_onRaise ?_ | with_reducible refine wpAny_map ?_ | wp_step))
theorem chk_new (F : ExcBaseFacts B newId initId bmB) (hT : ∀ X : String, bm.contains (.type X) = bmB.contains (.type X)) {rest : List Value} {Q : Unit → Shared → Prop}
    (hC : h.get? C = some (excClassObj nm q C N bs bm hdct sn sub ab col dd k0 k1 k2 k3 k5 newId)) (hq : Q () ⟨h, g, d, t, os⟩) : wpAny M A (checkBuiltinCall newId ⟨.ref C :: rest, kw⟩) Q E ⟨h, g, d, t, os⟩ := by
  have hcont : (Value.ref C :: bm).contains (.type B) = true := by rw [List.contains_cons, hT, F.hasB, Bool.or_true]
  have hstar := F.noStar
  simp only [checkBuiltinCall, F.newKind, F.newSplit, F.newRow]
  repeat (first | refine wpAny_loadPart_at hC ?_ | (refine wpAny_isSubtype_exc hC ?_; rw [hcont]) | refine wpAny_staticBase_exc hC ?_ | refine wpAny_madeBy_exc hC ?_ | simp only [bne_self_eq_false, Bool.false_eq_true, if_false] | wp_step)
  exact hq
theorem new_kw (F : ExcBaseFacts B newId initId bmB) (hT : ∀ X : String, bm.contains (.type X) = bmB.contains (.type X)) {rest : List Value}
    (hC : h.get? C = some (excClassObj nm q C N bs bm hdct sn sub ab col dd k0 k1 k2 k3 k5 newId))
    (hq : R (.ok (.ret (.ref (h.objs.size + 1)))) ⟨(h.push (W.kdv_tup rest)).push (excO C h.objs.size), g, d, t, os⟩) (hrest : rest.length ≤ sizeLine) :
    codeAny (model prog w) A (.builtin newId ⟨.ref C :: rest, kw⟩) R ⟨h, g, d, t, os⟩ := by
  have hends := F.ends
  have hcB : (Value.ref C :: bm).contains (.type B) = true := by rw [List.contains_cons, hT, F.hasB, Bool.or_true]
  have hcA : (Value.ref C :: bm).contains (.type "AttributeError") = false := by rw [List.contains_cons, hT, F.noAttr]; rfl
  have hcN : (Value.ref C :: bm).contains (.type "NameError") = false := by rw [List.contains_cons, hT, F.noName]; rfl
  refine codeAny_builtinAt F.entry ?_
  unfold Builtin.«BaseException.__new__»
  refine wpAt_bind ?_
  show wpAt _ _ _ (stack >>= _) _ _ _
  refine wpAt_bind (wpAt_stack fun p below => wpAt_of_wpAny ?_)
  wp_walk
  refine wpAt_of_wpAny ?_
  rw [F.owner]
  repeat (first | with_reducible refine wpAny_madeHere_exc F.canon hC ?_ | with_reducible refine wpAny_loadPart_at hC ?_ | (with_reducible refine wpAny_isSubtype_exc hC ?_; first | rw [hcB] | rw [hcA] | rw [hcN]) | wp_step)
  show R _ _
  rw [Heap.size_push]
  exact hq
theorem type_kw (F : ExcBaseFacts B newId initId bmB) (hT : ∀ X : String, bm.contains (.type X) = bmB.contains (.type X)) {rest : List Value} {fI : Addr} {Q : Fin → Shared → Prop}
    (hC : h.get? C = some (excClassObj nm q C N bs bm hdct sn sub ab col dd k0 k1 k2 k3 k5 newId))
    (hi : W.Looks (model prog w) h (typeLookup (.ref C) "__init__") (some (.ref fI))) (hb : ∀ self, W.Looks (model prog w) h (bindSpecial (.ref fI) self) (.ref fI, [self])) (hrest : rest.length ≤ sizeLine)
    (hq : codeAny (model prog w) A (.call (.ref fI) ⟨.ref (h.objs.size + 1) :: rest, kw⟩)
      (fun r s' => match r with | .ok (.ret v) => v = .none ∧ Q (.done (.ret (.ref (h.objs.size + 1)))) s' | .ok _ => False | .error e => E e s')
      ⟨(h.push (W.kdv_tup rest)).push (excO C h.objs.size), g, d, t, os⟩) :
    wpAny (model prog w) A (Builtin.«type.__call__» ⟨.ref C :: rest, kw⟩) Q E ⟨h, g, d, t, os⟩ := by
  repeat (first | with_reducible refine wpAny_loadPart_at hC ?_ | with_reducible refine wpAny_madeBy_exc hC ?_ | wp_step)
  refine codeAny_call_builtin_code (Code.quiet_builtin _ F.quiet) (chk_new F hT hC ?_)
  refine new_kw F hT hC ?_ hrest
  show wpAny _ _ _ _ _ _
  have k : ∀ b o, h.get? b = some o → ((h.push (W.kdv_tup rest)).push (excO C h.objs.size)).get? b = some o := fun b o e => Heap.get?_push_of_some _ (Heap.get?_push_of_some _ e)
  have hC₁ := k _ _ hC
  have hget : ((h.push (W.kdv_tup rest)).push (excO C h.objs.size)).get? (h.objs.size + 1) = some (excO C h.objs.size) := by heap_get
  have hcC : (Value.ref C :: bm).contains (.ref C) = true := by simp
  have i1 := hi.keeps k
  have b1 := (hb (.ref (h.objs.size + 1))).keeps k
  unfold isInstance
  repeat (first | with_reducible refine wpAny_loadPart_at hget ?_ | (with_reducible refine wpAny_isSubtype_exc hC₁ ?_; rw [hcC]) | wp_step)
  show wpAny _ _ (typeLookup (.ref C) _) _ _ _
  refine i1.at ?_
  refine wpAny_holding (wpAny_bind (b1.at ?_))
  refine wpAny_bind (wpAny_call (codeAny_mono hq fun r s' z => ?_))
  rcases r with e | (v | _ | _ | _) <;> first | exact z | exact z.elim | skip
  obtain ⟨rfl, z⟩ := z
  first
    | exact wpAny_pure (wpAny_pure z)
    | (wp_walk; exact z)
/-- C(.., k = ..), C's own __init__ called -/
theorem call_kw (F : ExcBaseFacts B newId initId bmB) (hT : ∀ X : String, bm.contains (.type X) = bmB.contains (.type X)) {rest : List Value} {fI : Addr}
    (hC : h.get? C = some (excClassObj nm q C N bs bm hdct sn sub ab col dd k0 k1 k2 k3 k5 newId))
    (hi : W.Looks (model prog w) h (typeLookup (.ref C) "__init__") (some (.ref fI))) (hb : ∀ self, W.Looks (model prog w) h (bindSpecial (.ref fI) self) (.ref fI, [self])) (hrest : rest.length ≤ sizeLine)
    (hq : codeAny (model prog w) (A.under (.builtin "type.__call__" ⟨.ref C :: rest, kw⟩)) (.call (.ref fI) ⟨.ref (h.objs.size + 1) :: rest, kw⟩) (W.InitBack (h.objs.size + 1) R)
      ⟨(h.push (W.kdv_tup rest)).push (excO C h.objs.size), g, d, t, os⟩) :
    codeAny (model prog w) A (.call (.ref C) ⟨rest, kw⟩) R ⟨h, g, d, t, os⟩ := by
  have f1 := tc_lookup
  have f2 := tc_bind (.ref C)
  have hTy : (⟨h, g, d, t, os⟩ : Shared).TypeIs (.ref C) "type" := ⟨_, hC, rfl⟩
  refine codeAny_of_tree ?_
  show wpAny _ _ (callAny (.ref C) _) _ _ _
  repeat (any_goals (first | assumption | with_reducible refine wpAny_loadPart_at hC ?_ | wp_step))
  refine ⟨rfl, ?_⟩
  refine codeAny_call_builtin_at (Code.quiet_builtin _ (by decide +kernel)) entry_typeCall (chk_call hC (type_kw F hT hC hi hb hrest ?_))
  refine codeAny_mono hq fun r s' z => ?_
  rcases r with e | (v | _ | _ | _) <;> exact z
end
end Gd

set_option Elab.async false
set_option linter.all false
set_option maxRecDepth 100000
set_option maxHeartbeats 4000000
set_option autoImplicit false
/-! Eh: errors as values, by the hand layer. -/
namespace Gd
open PySem PySem.Spec PyProof.Rows L2
/-- an error that keeps a value: at a, of the class at C, f its field -/
def Xo (H : Hp) (a C : Addr) (f : Str) (v : V) : Prop := ∃ d, H a = some (exo a C (some d)) ∧ H d = some (exd d [(f, v)])
/-- self.f = v, on one that has no dict yet -/
def spInit (K : PySem.W.Frag) (f : Str) : Sp := fun vs H Q _ => ∃ (a C : Addr) (v : V), vs = [.ref a, v] ∧ OexC K C ∧ PySem.W.findIn K (.ref C) f = some none ∧ H a = some (exo a C none) ∧
  ∀ dx, H dx = none → dx ≠ a → Q .non (upd (upd H dx (exd dx [(f, v)])) a (exo a C (some dx)))
/-- what the text says of an error class, its name x, at C -/
structure ErC (K : PySem.W.Frag) (mg : Str → Option Value) (x : Str) (C : Addr) : Prop where
  g : mg x = some (.ref C)
  o : OexC K C
  ga : PySem.W.findIn K (.ref C) "__getattribute__" = some (some (.builtin "BaseException.__getattribute__"))
  gg : PySem.W.findIn K (.ref C) "__getattr__" = some none
  hd : PySem.W.hasDictIn K C = true
/-- .. that keeps its argument as the field f -/
structure ErI (P : Program) (w : World) (K : PySem.W.Frag) (mg : Str → Option Value) (base : Heap) (x f : Str) (C : Addr) : Prop where
  c : ErC K mg x C
  no : PySem.W.findIn K (.ref C) f = some none
  ini : ∃ fI fd, PySem.W.findIn K (.ref C) "__init__" = some (some (.ref fI)) ∧ PySem.W.typeIn K (.ref fI) = some (.type "function") ∧ FnOk P w K mg base CX0 1 fI fd ["self", f] (spInit K f) ∧ Binds K fd ["self", f] [] ∧
    ∀ (s : Shared) (u v : Value), BindsTo s fd ⟨[u], [(f, v)]⟩ [("self", u), (f, v)]
section
variable {X : Cx} {pins : List (Addr × Obj)} {σ : L2.St} {H1 : Hp} {s1 : Shared}
/-- C(us, **kw) with C's own __init__: the one value v -/
theorem mk_val {x f : Str} {C : Addr} {Q : VK} {us : List Value} {kw : List (Str × Value)} {u : Value} {v : V} (T : ErI X.prog X.w X.K X.mg X.base x f C) (hr : Room 2 X.A) (I1 : Inv X pins σ H1 s1) (rv : RelV v u) (hus : us.length ≤ 1)
    (hbd : ∀ (fd : FuncData), Binds X.K fd ["self", f] [] → (∀ (s : Shared) (u v : Value), BindsTo s fd ⟨[u], [(f, v)]⟩ [("self", u), (f, v)]) → ∀ (s : Shared) (z : Value), X.K.In s.heap → BindsTo s fd ⟨z :: us, kw⟩ [("self", z), (f, u)])
    (hq : ∀ a d, H1 a = none → H1 d = none → d ≠ a → Q (.ref a) (upd (upd (upd H1 a (exo a C none)) d (exd d [(f, v)])) a (exo a C (some d)))) :
    wpAny (model X.prog X.w) X.A (call (.ref C) us kw) (EP X pins σ Q) X.xe s1 := by
  obtain ⟨fI, fd, iC, tI, F1, hb, hk⟩ := T.ini
  obtain ⟨nm, q, N, bs, bm, sn, sub, ab, col, dd, k0, k1, k2, k3, k5, hC, hbm⟩ := T.c.o.cls
  obtain ⟨hp, g, dr, tk, os⟩ := s1
  have hsz : hp.objs.size ≤ hp.objs.size + 1 := Nat.le_succ _
  have hn : H1 (hp.objs.size + 1) = none := I1.hok.fresh hsz
  have kk : ∀ b o, hp.get? b = some o → ((hp.push (PySem.W.kdv_tup us)).push (PySem.HandSPX.excO C hp.objs.size)).get? b = some o := fun b o e => Heap.get?_push_of_some _ (Heap.get?_push_of_some _ e)
  have hget : ((hp.push (PySem.W.kdv_tup us)).push (PySem.HandSPX.excO C hp.objs.size)).get? (hp.objs.size + 1) = some (PySem.HandSPX.excO C hp.objs.size) := by heap_get
  have I2 : Inv X pins σ (upd H1 (hp.objs.size + 1) (exo (hp.objs.size + 1) C none)) ⟨(hp.push (PySem.W.kdv_tup us)).push (PySem.HandSPX.excO C hp.objs.size), g, dr, tk, os⟩ :=
    I1.laid (t' := tk) (a := hp.objs.size + 1) (o := exo (hp.objs.size + 1) C none) (h' := (hp.push (PySem.W.kdv_tup us)).push (PySem.HandSPX.excO C hp.objs.size)) kk hsz (exo_ok hget)
  have r2 : Vals [V.ref (hp.objs.size + 1), v] [Value.ref (hp.objs.size + 1), u] := .cons rfl (.cons rv .nil)
  have hus2 : us.length ≤ sizeLine := Nat.le_trans hus (by decide)
  have hsp : spInit X.K f [V.ref (hp.objs.size + 1), v] (upd H1 (hp.objs.size + 1) (exo (hp.objs.size + 1) C none)) (fun z H2 => z = .non ∧ Q (.ref (hp.objs.size + 1)) H2) (fun _ _ _ => False) :=
    ⟨_, C, v, rfl, T.c.o, T.no, upd_same, fun dx hdx ne => ⟨rfl, hq _ dx hn (by rwa [upd_ne ne] at hdx) ne⟩⟩
  refine wpAny_call (call_kw F.excBase_ValueError (fun Y => PySem.HandSPX.refsVE_contains Y bm hbm) (I1.kIn _ _ hC) (PySem.W.looks_findIn I1.kIn iC) (fun self => PySem.W.bind_fn I1.kIn self tI) hus2
    (codeAny_mono (F1.run _ X.stack _ _ ⟨Value.ref (hp.objs.size + 1) :: us, kw⟩ _ _ _ _ (hr.make C us kw) (I2.env0.make C us kw) (hbd fd hb hk _ _ I2.kIn) r2 hsp) fun r s' hq' => ?_))
  cases r with
  | error er => exact hq'.elim
  | ok fl =>
    cases fl with
    | ret z =>
      have hq2 := I2.after hq'
      obtain ⟨vz, H2, J, rz, ez, q2⟩ := hq2
      subst ez
      exact ⟨rz, ⟨V.ref (hp.objs.size + 1), H2, J, rfl, q2⟩⟩
    | next => exact False.elim hq'
    | brk => exact False.elim hq'
    | cont => exact False.elim hq'
end
/-- what the making of an error tells -/
def tMkV (C : Addr) (f : Str) (ta : TA) : TE := fun σ H Q => ta σ H fun vs H1 => ∃ v, vs = [v] ∧ ∀ a d, H1 a = none → H1 d = none → d ≠ a → Q (.ref a) (upd (upd (upd H1 a (exo a C none)) d (exd d [(f, v)])) a (exo a C (some d)))
section
variable {X : Cx} {x f : Str} {C : Addr} {e : Expr} {te : TE} {ta : TA} {p pos kpos : Pos}
/-- C(e) -/
theorem pe_exc (T : ErI X.prog X.w X.K X.mg X.base x f C) (hr : Room 2 X.A) (hg : Gl X x) (ha : PA X [e] ta) (hdb : (x == ("__debug__" : Str)) = false := by decide) (he : starEach [e] X.env = (false, eval e X.env) :: starEach [] X.env := by rfl) (hpl : (backTo pos (starEach [] X.env)).any (·.1) = false := by rfl) :
    PE X (.Call (.Name x p) [e] [] pos) (tMkV C f ta) := by
  refine ⟨fun pins s σ H Q I h => ?_⟩
  refine wpAny_Call_Name_kw (ld_glob I hg T.c.g ?_ hdb)
  refine PySem.W.callWith_K (h₀ := X.base) I.ok.mod.kin T.c.o.kC (thn (ha.run pos pins s σ H _ I h) fun us s1 ⟨vs, H1, I1, r1, v, ev, q1⟩ => ⟨I1.kIn, ?_⟩) he hpl
  subst ev
  cases r1 with
  | cons ru rn =>
    cases rn
    exact mk_val T hr I1 ru (by simp) (fun fd hb _ s z X' => hb s [z, _] X' rfl) q1
/-- C(f = e) -/
theorem pe_excK {nm : Option Str} (T : ErI X.prog X.w X.K X.mg X.base x f C) (hr : Room 2 X.A) (hg : Gl X x) (hkw : PK X [⟨nm, e, kpos⟩] ta) (hnm : nm = some f)
    (hall : (backToKw pos (keywordEach [⟨nm, e, kpos⟩] X.env)).all (·.1.isSome) = true := by rfl) (hks : (backToKw pos (keywordEach [⟨nm, e, kpos⟩] X.env)).filterMap (·.1) = [f] := by rfl) (hdb : (x == ("__debug__" : Str)) = false := by decide)
    (hpl : ((backTo pos (starEach [] X.env)).any (·.1) || (backToKw pos (keywordEach [⟨nm, e, kpos⟩] X.env)).any (·.1.isNone)) = false := by rfl) :
    PE X (.Call (.Name x p) [] [⟨nm, e, kpos⟩] pos) (tMkV C f ta) := by
  refine ⟨fun pins s σ H Q I h => wpAny_Call_Name_kw (ld_glob I hg T.c.g (PySem.W.callWith_KW0 (h₀ := X.base) I.ok.mod.kin T.c.o.kC hall (thn (hkw.run pos pins s σ H _ I h) fun ws s2 ⟨zs, H2, I2, rz, v, ev, q2⟩ => ⟨I2.kIn, ?_⟩) hpl) hdb)⟩
  rw [hks]
  subst ev
  cases rz with
  | cons ru rn =>
    cases rn
    exact mk_val (us := []) T hr I2 ru (by simp) (fun fd _ hk s z X' => hk s z _) q2
/-- C(), C without own __init__ -/
theorem pe_exc0 {bmB : List Value} {B newId initId : String} (F : ExcBaseFacts B newId initId bmB) (q : PySem.W.excIn X.K C bmB newId = true) (gC : X.mg x = some (.ref C)) (kC : PySem.W.keepIn X.K (.ref C) = true) (hg : Gl X x)
    (hdb : (x == ("__debug__" : Str)) = false := by decide) :
    PE X (.Call (.Name x p) [] [] pos) (fun σ H Q => ∀ a, H a = none → Q (.ref a) (upd H a (exo a C none))) := by
  refine ⟨fun pins s σ H Q I h => ?_⟩
  refine wpAny_Call_Name_kw (ld_glob I hg gC (PySem.W.callWith_K0 I.kIn kC ?_) hdb)
  obtain ⟨bm, N, nm, qn, bs, hdct, sn, sub, ab, col, dd, k0, k1, k2, k3, k5, mN, hC, hN, hni, T⟩ := exc_obj I.kIn q
  refine wpAny_call_exc_subT F T hC hN hni (fun h' a hm => ?_) (by show 0 ≤ sizeLine; exact Nat.zero_le _)
  have hn : H a = none := I.hok.gone hm.new
  obtain ⟨t, ht, _, _⟩ := hm.there
  exact ⟨.ref a, upd H a (exo a C none), I.laidN hm.keeps hm.new hn (exo_ok ht), rfl, h a hn⟩
/-- e.f -/
def tFld (K : PySem.W.Frag) (f : Str) (te : TE) : TE := fun σ H Q => te σ H fun x H1 => ∃ (a C : Addr) (v : V), x = .ref a ∧ XfC K C ∧ PySem.W.findIn K (.ref C) f = some none ∧ Xo H1 a C f v ∧ Q v H1
theorem pe_eat (he : PE X e te) (hb : attributeBase e f X.env (eval e X.env) = eval e X.env := by rfl) : PE X (.Attribute e f pos) (tFld X.K f te) := by
  refine ⟨fun pins s σ H Q I h => ?_⟩
  refine attr_of hb (thn (he.run pins s σ H _ I h) fun u s1 hh => ?_)
  obtain ⟨x, H1, I1, rx, a, C, v, ex, T, hno, ⟨d, e1, e2⟩, q⟩ := hh
  subst ex
  obtain rfl : u = Value.ref a := rx
  obtain ⟨t1, ho⟩ := exo_at I1.hok e1
  obtain ⟨mA, hns, hr⟩ := exd_at I1.hok e2
  obtain ⟨od, hod, hl⟩ := lookIn_ns hns
  obtain ⟨u, hu, ru⟩ := RelO.some_of (v := v) (o := mA f) (by have := hr f; rwa [show [(f, v)].lookup f = some v by simp [List.lookup]] at this)
  have J : PySem.W.InstAt s1.heap a _ C (some od) := ⟨ho, rfl, rfl, hod⟩
  exact HandSPX.exc_get I1.kIn J T.ga T.gg T.exC (PySem.W.findObj_own T.hdC hno rfl (by rw [hl, hu])) (handed_of ru) ⟨v, H1, I1.tok _, ru, q⟩
end
end Gd

set_option Elab.async false
set_option linter.all false
set_option maxRecDepth 100000
set_option maxHeartbeats 4000000
set_option autoImplicit false
/-! Ei: isinstance of errors as values; what is stepped over. -/
namespace Gd
open PySem PySem.Spec PyProof.Rows L2 RZ
/-- what the class at D must say, so that isinstance asks its instances rightly -/
structure IxC (K : PySem.W.Frag) (D : Addr) : Prop where
  hc : (PySem.W.clsIn K D).isSome = true
  hg : PySem.W.findIn K (.ref D) "__getattribute__" = some (some (.builtin "BaseException.__getattribute__"))
  hk : PySem.W.findIn K (.ref D) "__getattr__" = some none
  hs : PySem.W.subIn K (.ref D) (.type "BaseException") = some true
  ha : PySem.W.findIn K (.ref D) "__class__" = some (some (.builtin "object.__class__"))
  hn : PySem.W.specialIn K (.builtin "object.__class__") "__get__" = some (some (.builtin "getset_descriptor.__get__"))
  ht : PySem.W.takesIn K (.builtin "object.__class__") = some true
  hm : PySem.W.mroIn K D (.type "object") = some true
/-- an error of the class at C -/
def Er (H : Hp) (a C : Addr) : Prop := ∃ d, H a = some (exo a C d) ∧ ∀ dd, d = some dd → ∃ fs, H dd = some (exd dd fs)
theorem Er.same {H H' : Hp} {a C : Addr} (s : Same H H') (h : Er H a C) : Er H' a C := by
  obtain ⟨d, h1, h2⟩ := h
  exact ⟨d, s _ _ h1, fun dd e => let ⟨fs, q⟩ := h2 dd e; ⟨fs, s _ _ q⟩⟩
theorem Xo.same {H H' : Hp} {a C : Addr} {f : Str} {v : V} (s : Same H H') (h : Xo H a C f v) : Xo H' a C f v := by
  obtain ⟨d, h1, h2⟩ := h
  exact ⟨d, s _ _ h1, s _ _ h2⟩
theorem Xo.er {H : Hp} {a C : Addr} {f : Str} {v : V} (h : Xo H a C f v) : Er H a C := by
  obtain ⟨d, h1, h2⟩ := h
  exact ⟨some d, h1, fun dd e => by cases e; exact ⟨_, h2⟩⟩
theorem Er.new {H : Hp} {a C p : Addr} {o : HO} (h : Er H a C) (n : H p = none) : Er (upd H p o) a C := h.same (same_new n)
/-- isinstance(e, c), e an error -/
def rIsX (K : PySem.W.Frag) : List V → Hp → VK → Prop := fun xs H Q => ∃ (a D : Addr) (c : V) (u : Value) (b : Bool), xs = [.ref a, c] ∧ Er H a D ∧ IxC K D ∧ ClsV c u ∧ PySem.W.kitOne K (.ref D) u = some b ∧ Q (.bl b) H
theorem call_isX {X : Cx} : CallR X (.builtin "isinstance") (rIsX X.K) := by
  intro pins s σ H xs us Q I r h
  obtain ⟨a, D, c, u, b, rfl, ⟨d, h1, h2⟩, C, k, e, q⟩ := h
  obtain ⟨u1, u2, rfl, r1, r2⟩ := vals2 r
  have e2 := k.eq r2
  subst e2
  obtain rfl : u1 = Value.ref a := r1
  obtain ⟨t1, ho⟩ := exo_at I.hok h1
  have J : ∃ od, PySem.W.InstAt s.heap a { cls := .ref D, dict := d, data := .fields #[.ref t1, .none, .none, .none, .bool false, .none] } D od := by
    cases d with
    | none => exact ⟨none, ho, rfl, rfl, trivial⟩
    | some dd =>
      obtain ⟨fs, hf⟩ := h2 dd rfl
      obtain ⟨mA, hns, hr⟩ := exd_at I.hok hf
      obtain ⟨od, hod, hl⟩ := lookIn_ns hns
      exact ⟨some od, ho, rfl, rfl, hod⟩
  obtain ⟨od, J⟩ := J
  exact PySem.W.kia_one (PySem.W.kitx_exc C.hc C.hg C.hk C.hs C.ha C.hn C.ht C.hm) I.kIn J e (fun z => nomatch z) fun tk => ⟨.bl b, H, I.tok tk, rfl, q⟩
theorem k_isx {X : Cx} {K : PySem.W.Frag} (e : X.K = K) : CallR X (.builtin "isinstance") (rIsX K) := e ▸ call_isX
theorem k_eat {X : Cx} {K : PySem.W.Frag} {e : Expr} {te : TE} {pos : Pos} {f : Str} (eK : X.K = K) (he : PE X e te) (hb : attributeBase e f X.env (eval e X.env) = eval e X.env := by rfl) : PE X (.Attribute e f pos) (tFld K f te) := eK ▸ pe_eat he hb
section
variable {K : PySem.W.Frag} {σ : L2.St} {H : Hp} {Q : VK} {a D : Addr} {c : V} {u : Value} {b : Bool} {f : Str} {v : V} {ta : TA} {te : TE}
theorem w_isx (h : Er H a D) (C : IxC K D) (k : ClsV c u) (e : PySem.W.kitOne K (.ref D) u = some b) (q : Q (.bl b) H) : rIsX K [.ref a, c] H Q := ⟨a, D, c, u, b, rfl, h, C, k, e, q⟩
theorem w_mk {C : Addr} (h : ta σ H fun vs H1 => ∃ v, vs = [v] ∧ ∀ a d, H1 a = none → H1 d = none → d ≠ a → Q (.ref a) (upd (upd (upd H1 a (exo a C none)) d (exd d [(f, v)])) a (exo a C (some d)))) : tMkV C f ta σ H Q := h
theorem mk_same {H1 : Hp} {a C d : Addr} (ha : H1 a = none) (hd : H1 d = none) (n : d ≠ a) : Same H1 (upd (upd (upd H1 a (exo a C none)) d (exd d [(f, v)])) a (exo a C (some d))) := fun b o e => by
  rw [upd_ne (ne_of_none e ha), upd_ne (ne_of_none e hd), upd_ne (ne_of_none e ha)]
  exact e
theorem mk_xo {H1 : Hp} {a C d : Addr} (n : d ≠ a) : Xo (upd (upd (upd H1 a (exo a C none)) d (exd d [(f, v)])) a (exo a C (some d))) a C f v := ⟨d, upd_same, by rw [upd_ne n]; exact upd_same⟩
theorem w_mk1 {C : Addr} (h : ∀ a H2, H a = none → Same H H2 → Xo H2 a C f v → Q (.ref a) H2) : ∃ v', [v] = [v'] ∧ ∀ a d, H a = none → H d = none → d ≠ a → Q (.ref a) (upd (upd (upd H a (exo a C none)) d (exd d [(f, v')])) a (exo a C (some d))) :=
  ⟨v, rfl, fun a d ha hd n => h a _ ha (mk_same ha hd n) (mk_xo n)⟩
theorem w_enum {R : It → Hp → Prop} (h : ta σ H fun vs H1 => ∃ a xs, vs = [.ref a] ∧ SqL K H1 a xs ∧ R (Ite K a) H1) : iEnum K ta σ H R := h
theorem w_rng1 {R : It → Hp → Prop} (h : ta σ H fun vs H1 => ∃ j : Int, vs = [.int j] ∧ -(2 ^ 62) ≤ j ∧ j < 2 ^ 62 ∧ R (Itr 0 j.toNat) H1) : iRng1 ta σ H R := h
theorem w_list {tl : TE} {R : It → Hp → Prop} (h : tl σ H fun x H1 => ∃ a, x = .ref a ∧ (∃ xs, SqL K H1 a xs) ∧ R (Itl K a) H1) : iList K tl σ H R := h
theorem w_neSame {z : Str} (q : Q (.bl false) H) : rNeA K (.str z) (.str z) H Q := by
  refine w_neS rfl ?_
  rw [decide_eq_true rfl]
  exact q
theorem w_eq2 {x y : V} (e : x = y) (s : scal x x = true) (q : Q (.bl true) H) : rEqA K x y H Q := by
  subst e
  refine w_eqS s ?_
  rw [decide_eq_true rfl]
  exact q
theorem w_fld (h : te σ H fun x H1 => ∃ (a C : Addr) (v : V), x = .ref a ∧ XfC K C ∧ PySem.W.findIn K (.ref C) f = some none ∧ Xo H1 a C f v ∧ Q v H1) : tFld K f te σ H Q := h
theorem w_catL {x y : Addr} {xs ys : List V} (h1 : H x = some (.lst xs)) (h2 : H y = some (.lst ys)) (z : xs.length + ys.length ≤ 1000) (h : ∀ p, H p = none → Q (.ref p) (upd H p (.lst (xs ++ ys)))) : rAddA K (.ref x) (.ref y) H Q :=
  .inr (.inr ⟨x, y, xs, ys, rfl, rfl, h1, h2, Nat.le_trans z (by decide), h⟩)
theorem w_repL {x : Addr} {xs : List V} {k : Int} (h1 : H x = some (.lst xs)) (h2 : 0 ≤ k) (h3 : k < 1000) (z : xs.length * k.toNat ≤ 1000) (h : ∀ p, H p = none → Q (.ref p) (upd H p (.lst (List.replicate k.toNat xs).flatten))) : rMulA K (.ref x) (.int k) H Q :=
  .inr (.inr ⟨x, k, xs, rfl, rfl, h1, by omega, by omega, Nat.le_trans z (by decide), h⟩)
theorem w_all {bs : List Bool} (h : SqL K H a (bs.map V.bl)) (q : Q (.bl (bs.all id)) H) : rAll K [.ref a] H Q := ⟨a, bs, rfl, h, q⟩
theorem w_rep {d : PyData} {w : Addr} (h : Dt w K H (.ref a) d) (h1 : d.showable = true) (h2 : d.depth ≤ 100) (h3 : d.shown.length ≤ sizeLine) (q : Q (.str d.shown) H) : rRepr K [.ref a] H Q := ⟨w, a, d, rfl, h, h1, h2, h3, q⟩
end
theorem Kp.same_of {w : Addr} {H H1 H2 : Hp} (n : H w = none) (s : Same H H1) (k : Kp w H1 H2) : Same H H2 := fun b o e => k b o (ne_of_none e n) (s b o e)
theorem u150 {k : Nat} {A : Around} (r : Room k A) : A.units + 150 < cLine := by have := r.un; omega
section
variable {K : PySem.W.Frag} {g : TG} {tt : TT} {te : TE} {vs : List Nat} {σ : L2.St} {H1 : Hp} {D : Addr} {Qd : Hp → Prop} {a : Addr} {xs : List V}
theorem same_put {H H' : Hp} {D : Addr} {o : HO} (h : H D = none) (s : Same H H') : Same H (upd H' D o) := fun b u e => by
  rw [upd_ne (ne_of_none e h)]
  exact s b u e
/-- a comprehension's turns -/
abbrev LcW (J : It) (g : TG) (tt : TT) (te : TE) (vs : List Nat) (σ : L2.St) (H1 : Hp) (D : Addr) (Q : Hp → Prop) : Prop := ∃ W : Nat → Nat → Hp → Prop, (∃ m, W 0 m (upd H1 D (.lst []))) ∧ ∀ i m H, W i m H →
      (J.stop i H ∧ Q H) ∨ (J.go i H ∧ ∃ Nx : Hp → Prop, (∀ H', Nx H' → ∃ m', m' < m ∧ W (i + 1) m' H') ∧ ∀ x H', J.yld i H x H' → g x (wipe σ vs) H' fun σ2 H2 => wipe σ2 vs = wipe σ vs ∧ tt σ2 H2 fun b H3 =>
        if b = true then te σ2 H3 fun y H4 => ∃ acc, H4 D = some (.lst acc) ∧ acc.length < sizeLine ∧ Nx (upd H4 D (.lst (acc ++ [y]))) else Nx H3)
/-- what stands between the turns: the list so far, and the rest as it stood -/
structure PvA (Ac : Nat → List V → Prop) (H1 : Hp) (D : Addr) (i : Nat) (H : Hp) : Prop where
  ex : ∃ acc, H D = some (.lst acc) ∧ acc.length ≤ i ∧ Ac i acc ∧ Same H1 H
theorem PvA.put {Ac : Nat → List V → Prop} {i : Nat} {acc : List V} {H H4 : Hp} {y : V} (hD : H1 D = none) (e : H D = some (.lst acc)) (l : acc.length ≤ i) (s : Same H1 H) (hi : i ≤ 1000) (s4 : Same H H4) (h : Ac (i + 1) (acc ++ [y])) :
    ∃ acc, H4 D = some (.lst acc) ∧ acc.length < sizeLine ∧ PvA Ac H1 D (i + 1) (upd H4 D (.lst (acc ++ [y]))) :=
  ⟨acc, s4 _ _ e, Nat.lt_of_le_of_lt (Nat.le_trans l hi) (by decide), ⟨acc ++ [y], upd_same, by rw [List.length_append]; simpa using l, h, same_put hD (s.trans s4)⟩⟩
theorem PvA.skip {Ac : Nat → List V → Prop} {i : Nat} {acc : List V} {H H4 : Hp} (e : H D = some (.lst acc)) (l : acc.length ≤ i) (s : Same H1 H) (s4 : Same H H4) (h : Ac (i + 1) acc) : PvA Ac H1 D (i + 1) H4 :=
  ⟨acc, s4 _ _ e, Nat.le_succ_of_le l, h, s.trans s4⟩
/-- one turn's duty, x taken at the heap H -/
abbrev LcT (g : TG) (tt : TT) (te : TE) (vs : List Nat) (σ : L2.St) (D : Addr) (P : Hp → Prop) (x : V) (H : Hp) : Prop := g x (wipe σ vs) H fun σ2 H2 => wipe σ2 vs = wipe σ vs ∧ tt σ2 H2 fun b H3 =>
        if b = true then te σ2 H3 fun y H4 => ∃ acc, H4 D = some (.lst acc) ∧ acc.length < sizeLine ∧ P (upd H4 D (.lst (acc ++ [y]))) else P H3
/-- over a list -/
theorem c_lst (Ac : Nat → List V → Prop) (hD : H1 D = none) (hx : SqL K H1 a xs) (h0 : Ac 0 [])
    (hs : ∀ i x acc H, xs[i]? = some x → H D = some (.lst acc) → acc.length ≤ i → Ac i acc → Same H1 H → LcT g tt te vs σ D (PvA Ac H1 D (i + 1)) x H)
    (hd : ∀ acc H, H D = some (.lst acc) → Ac xs.length acc → Same H1 H → Qd H) : LcW (Itl K a) g tt te vs σ H1 D Qd := by
  refine ⟨fun i m H => m = xs.length - i ∧ i ≤ xs.length ∧ PvA Ac H1 D i H, ⟨xs.length, by simp, Nat.zero_le _, ⟨[], upd_same, Nat.le_refl _, h0, same_put hD (Same.refl _)⟩⟩, ?_⟩
  rintro i m H ⟨rfl, hi, ⟨acc, e, l, ac, s⟩⟩
  have hq := s.seq hx
  by_cases hlt : i < xs.length
  · have hx' : xs[i]? = some xs[i] := List.getElem?_eq_getElem hlt
    refine .inr ⟨⟨xs, _, hq, hx'⟩, PvA Ac H1 D (i + 1), fun H' p' => ⟨xs.length - (i + 1), by omega, rfl, hlt, p'⟩, ?_⟩
    rintro x _ ⟨rfl, hxx⟩
    exact hs i x acc _ (hxx xs hq) e l ac s
  · obtain rfl : i = xs.length := by omega
    exact .inl ⟨⟨xs, hq, Nat.le_refl _⟩, hd acc H e ac s⟩
/-- over enumerate of a list -/
theorem c_enu (Ac : Nat → List V → Prop) (hD : H1 D = none) (hx : SqL K H1 a xs) (h0 : Ac 0 [])
    (hs : ∀ i x acc H T, xs[i]? = some x → H D = some (.lst acc) → acc.length ≤ i → Ac i acc → Same H1 H → H T = none → LcT g tt te vs σ D (PvA Ac H1 D (i + 1)) (.ref T) (upd H T (.tup [.int (i : Nat), x])))
    (hd : ∀ acc H, H D = some (.lst acc) → Ac xs.length acc → Same H1 H → Qd H) : LcW (Ite K a) g tt te vs σ H1 D Qd := by
  refine ⟨fun i m H => m = xs.length - i ∧ i ≤ xs.length ∧ PvA Ac H1 D i H, ⟨xs.length, by simp, Nat.zero_le _, ⟨[], upd_same, Nat.le_refl _, h0, same_put hD (Same.refl _)⟩⟩, ?_⟩
  rintro i m H ⟨rfl, hi, ⟨acc, e, l, ac, s⟩⟩
  have hq := s.seq hx
  by_cases hlt : i < xs.length
  · have hx' : xs[i]? = some xs[i] := List.getElem?_eq_getElem hlt
    refine .inr ⟨⟨xs, _, hq, hx'⟩, PvA Ac H1 D (i + 1), fun H' p' => ⟨xs.length - (i + 1), by omega, rfl, hlt, p'⟩, ?_⟩
    rintro _ _ ⟨T, x, rfl, hT, rfl, hxx⟩
    exact hs i x acc H T (hxx xs hq) e l ac s hT
  · obtain rfl : i = xs.length := by omega
    exact .inl ⟨⟨xs, hq, Nat.le_refl _⟩, hd acc H e ac s⟩
/-- over a range -/
theorem c_rng {lo : Int} {n : Nat} (Ac : Nat → List V → Prop) (hD : H1 D = none) (h0 : Ac 0 [])
    (hs : ∀ (i : Nat) acc H, i < n → H D = some (.lst acc) → acc.length ≤ i → Ac i acc → Same H1 H → LcT g tt te vs σ D (PvA Ac H1 D (i + 1)) (.int (lo + i)) H)
    (hd : ∀ acc H, H D = some (.lst acc) → Ac n acc → Same H1 H → Qd H) : LcW (Itr lo n) g tt te vs σ H1 D Qd := by
  refine ⟨fun i m H => m = n - i ∧ i ≤ n ∧ PvA Ac H1 D i H, ⟨n, by simp, Nat.zero_le _, ⟨[], upd_same, Nat.le_refl _, h0, same_put hD (Same.refl _)⟩⟩, ?_⟩
  rintro i m H ⟨rfl, hi, ⟨acc, e, l, ac, s⟩⟩
  by_cases hlt : i < n
  · refine .inr ⟨hlt, PvA Ac H1 D (i + 1), fun H' p' => ⟨n - (i + 1), by omega, rfl, hlt, p'⟩, ?_⟩
    rintro x _ ⟨rfl, rfl⟩
    exact hs i acc _ hlt e l ac s
  · obtain rfl : i = n := by omega
    exact .inl ⟨Nat.le_refl _, hd acc H e ac s⟩
end
end Gd

set_option Elab.async false
set_option linter.all false
set_option maxRecDepth 100000
set_option maxHeartbeats 4000000
set_option autoImplicit false
namespace K1
open PySem PySem.Spec PyProof.Rows L2 RZ Gd
def top (i : Nat) : Stmt := PySem.Challenge.pw_trialground_k28_signs_odd_lots_products.main.body.getD i (.Pass ⟨0, 0, 0, 0⟩)
structure Txt (mg : Str → Option Value) : Prop where
  n_int : mg "int" = none
  n_len : mg "len" = none
  n_abs : mg "abs" = none
  n_divmod : mg "divmod" = none
  n_range : mg "range" = none
  n_tuple : mg "tuple" = none
  n_list : mg "list" = none
  n_zip : mg "zip" = none
  n_enumerate : mg "enumerate" = none
  n_repr : mg "repr" = none
  n_isinstance : mg "isinstance" = none
  n_all : mg "all" = none
  n_any : mg "any" = none
  n_max : mg "max" = none
  n_min : mg "min" = none
  n_bool : mg "bool" = none
  n_ValueError : mg "ValueError" = none
  n_TypeError : mg "TypeError" = none
  n_KeyError : mg "KeyError" = none
  n_IndexError : mg "IndexError" = none
  n_ZeroDivisionError : mg "ZeroDivisionError" = none
  n_RuntimeError : mg "RuntimeError" = none
abbrev s_is_whole : Stmt := top 7
def N_is_whole : List Str := ["value"]
def P_is_whole : List Str := ["value"]
theorem sc_is_whole : FnScope N_is_whole P_is_whole (defScope s_is_whole) := ⟨rfl, rfl, rfl, by decide +kernel, rfl, by decide +kernel, by decide +kernel⟩
abbrev s_wrong_in_lot : Stmt := top 9
def N_wrong_in_lot : List Str := ["lot", "many", "ahead", "at", "each"]
def P_wrong_in_lot : List Str := ["lot", "many"]
theorem sc_wrong_in_lot : FnScope N_wrong_in_lot P_wrong_in_lot (defScope s_wrong_in_lot) := ⟨rfl, rfl, rfl, by decide +kernel, rfl, by decide +kernel, by decide +kernel⟩
abbrev s_is_lot : Stmt := top 10
def N_is_lot : List Str := ["value", "many"]
def P_is_lot : List Str := ["value", "many"]
theorem sc_is_lot : FnScope N_is_lot P_is_lot (defScope s_is_lot) := ⟨rfl, rfl, rfl, by decide +kernel, rfl, by decide +kernel, by decide +kernel⟩
abbrev s_effect_sign : Stmt := top 15
def N_effect_sign : List Str := ["run", "effect"]
def P_effect_sign : List Str := ["run", "effect"]
theorem sc_effect_sign : FnScope N_effect_sign P_effect_sign (defScope s_effect_sign) := ⟨rfl, rfl, rfl, by decide +kernel, rfl, by decide +kernel, by decide +kernel⟩
abbrev s_odd_lot : Stmt := top 16
def N_odd_lot : List Str := ["factors", "effect", "other"]
def P_odd_lot : List Str := ["factors", "effect", "other"]
theorem sc_odd_lot : FnScope N_odd_lot P_odd_lot (defScope s_odd_lot) := ⟨rfl, rfl, rfl, by decide +kernel, rfl, by decide +kernel, by decide +kernel⟩
abbrev s_products : Stmt := top 17
def N_products : List Str := ["factors", "words"]
def P_products : List Str := ["factors", "words"]
theorem sc_products : FnScope N_products P_products (defScope s_products) := ⟨rfl, rfl, rfl, by decide +kernel, rfl, by decide +kernel, by decide +kernel⟩
abbrev s_piece : Stmt := top 18
def N_piece : List Str := ["factors", "words"]
def P_piece : List Str := ["factors", "words"]
theorem sc_piece : FnScope N_piece P_piece (defScope s_piece) := ⟨rfl, rfl, rfl, by decide +kernel, rfl, by decide +kernel, by decide +kernel⟩
abbrev s_check_effect : Stmt := top 19
def N_check_effect : List Str := ["factors", "effect", "at"]
def P_check_effect : List Str := ["factors", "effect"]
theorem sc_check_effect : FnScope N_check_effect P_check_effect (defScope s_check_effect) := ⟨rfl, rfl, rfl, by decide +kernel, rfl, by decide +kernel, by decide +kernel⟩
abbrev s_check_words : Stmt := top 20
def N_check_words : List Str := ["factors", "words", "index", "word"]
def P_check_words : List Str := ["factors", "words"]
theorem sc_check_words : FnScope N_check_words P_check_words (defScope s_check_words) := ⟨rfl, rfl, rfl, by decide +kernel, rfl, by decide +kernel, by decide +kernel⟩
abbrev s_is_run : Stmt := top 21
def N_is_run : List Str := ["value", "sign"]
def P_is_run : List Str := ["value"]
theorem sc_is_run : FnScope N_is_run P_is_run (defScope s_is_run) := ⟨rfl, rfl, rfl, by decide +kernel, rfl, by decide +kernel, by decide +kernel⟩
abbrev s_is_sign : Stmt := top 22
def N_is_sign : List Str := ["value"]
def P_is_sign : List Str := ["value"]
theorem sc_is_sign : FnScope N_is_sign P_is_sign (defScope s_is_sign) := ⟨rfl, rfl, rfl, by decide +kernel, rfl, by decide +kernel, by decide +kernel⟩
abbrev s_sign_in : Stmt := top 23
def N_sign_in : List Str := ["run", "effect", "sign", "factor"]
def P_sign_in : List Str := ["run", "effect"]
theorem sc_sign_in : FnScope N_sign_in P_sign_in (defScope s_sign_in) := ⟨rfl, rfl, rfl, by decide +kernel, rfl, by decide +kernel, by decide +kernel⟩
abbrev s_odd_of : Stmt := top 24
def N_odd_of : List Str := ["effect", "other"]
def P_odd_of : List Str := ["effect", "other"]
theorem sc_odd_of : FnScope N_odd_of P_odd_of (defScope s_odd_of) := ⟨rfl, rfl, rfl, by decide +kernel, rfl, by decide +kernel, by decide +kernel⟩
abbrev s_products_of : Stmt := top 25
def N_products_of : List Str := ["words", "found", "word", "more", "each"]
def P_products_of : List Str := ["words"]
theorem sc_products_of : FnScope N_products_of P_products_of (defScope s_products_of) := ⟨rfl, rfl, rfl, by decide +kernel, rfl, by decide +kernel, by decide +kernel⟩
abbrev s_piece_of : Stmt := top 26
def N_piece_of : List Str := ["factors", "words", "runs", "_", "run", "sign"]
def P_piece_of : List Str := ["factors", "words"]
theorem sc_piece_of : FnScope N_piece_of P_piece_of (defScope s_piece_of) := ⟨rfl, rfl, rfl, by decide +kernel, rfl, by decide +kernel, by decide +kernel⟩
abbrev s_agrees : Stmt := top 27
def N_agrees : List Str := ["run", "words", "effect", "sign"]
def P_agrees : List Str := ["run", "words"]
theorem sc_agrees : FnScope N_agrees P_agrees (defScope s_agrees) := ⟨rfl, rfl, rfl, by decide +kernel, rfl, by decide +kernel, by decide +kernel⟩
abbrev s__check_factors : Stmt := top 28
def N__check_factors : List Str := ["factors"]
def P__check_factors : List Str := ["factors"]
theorem sc__check_factors : FnScope N__check_factors P__check_factors (defScope s__check_factors) := ⟨rfl, rfl, rfl, by decide +kernel, rfl, by decide +kernel, by decide +kernel⟩
abbrev s__is_word : Stmt := top 29
def N__is_word : List Str := ["factors", "value", "effect", "sign"]
def P__is_word : List Str := ["factors", "value"]
theorem sc__is_word : FnScope N__is_word P__is_word (defScope s__is_word) := ⟨rfl, rfl, rfl, by decide +kernel, rfl, by decide +kernel, by decide +kernel⟩
abbrev s__joined : Stmt := top 30
def N__joined : List Str := ["made", "word"]
def P__joined : List Str := ["made", "word"]
theorem sc__joined : FnScope N__joined P__joined (defScope s__joined) := ⟨rfl, rfl, rfl, by decide +kernel, rfl, by decide +kernel, by decide +kernel⟩
abbrev s__law_well : Stmt := top 32
def N__law_well : List Str := ["_law_script", "_law_lap", "_law_mixed", "_law_cell", "_law_own"]
def P__law_well : List Str := ["_law_script", "_law_lap"]
theorem sc__law_well : FnScope N__law_well P__law_well (defScope s__law_well) := ⟨rfl, rfl, rfl, by decide +kernel, rfl, by decide +kernel, by decide +kernel⟩
abbrev s__law_draw : Stmt := top 33
def N__law_draw : List Str := ["_law_well_here", "_law_few", "_law_figure", "_law_mixed"]
def P__law_draw : List Str := ["_law_well_here", "_law_few"]
theorem sc__law_draw : FnScope N__law_draw P__law_draw (defScope s__law_draw) := ⟨rfl, rfl, rfl, by decide +kernel, rfl, by decide +kernel, by decide +kernel⟩
abbrev s__law_one : Stmt := top 34
def N__law_one : List Str := ["_law_well_here", "_law_some"]
def P__law_one : List Str := ["_law_well_here", "_law_some"]
theorem sc__law_one : FnScope N__law_one P__law_one (defScope s__law_one) := ⟨rfl, rfl, rfl, by decide +kernel, rfl, by decide +kernel, by decide +kernel⟩
abbrev s__law_run : Stmt := top 35
def N__law_run : List Str := ["_law_well_here", "_law_few", "_law_found", "_law_turn"]
def P__law_run : List Str := ["_law_well_here", "_law_few"]
theorem sc__law_run : FnScope N__law_run P__law_run (defScope s__law_run) := ⟨rfl, rfl, rfl, by decide +kernel, rfl, by decide +kernel, by decide +kernel⟩
abbrev s__law_effect : Stmt := top 36
def N__law_effect : List Str := ["_law_well_here", "_law_few", "_law_found", "_law_at"]
def P__law_effect : List Str := ["_law_well_here", "_law_few"]
theorem sc__law_effect : FnScope N__law_effect P__law_effect (defScope s__law_effect) := ⟨rfl, rfl, rfl, by decide +kernel, rfl, by decide +kernel, by decide +kernel⟩
abbrev s__law_runs : Stmt := top 37
def N__law_runs : List Str := ["_law_few", "_law_found", "_law_turn", "_law_run_here"]
def P__law_runs : List Str := ["_law_few"]
theorem sc__law_runs : FnScope N__law_runs P__law_runs (defScope s__law_runs) := ⟨rfl, rfl, rfl, by decide +kernel, rfl, by decide +kernel, by decide +kernel⟩
abbrev s__law_sign : Stmt := top 38
def N__law_sign : List Str := ["_law_run_here", "_law_effect_here", "_law_found", "_law_at"]
def P__law_sign : List Str := ["_law_run_here", "_law_effect_here"]
theorem sc__law_sign : FnScope N__law_sign P__law_sign (defScope s__law_sign) := ⟨rfl, rfl, rfl, by decide +kernel, rfl, by decide +kernel, by decide +kernel⟩
abbrev s__law_parted : Stmt := top 39
def N__law_parted : List Str := ["_law_one_here", "_law_two", "_law_at"]
def P__law_parted : List Str := ["_law_one_here", "_law_two"]
theorem sc__law_parted : FnScope N__law_parted P__law_parted (defScope s__law_parted) := ⟨rfl, rfl, rfl, by decide +kernel, rfl, by decide +kernel, by decide +kernel⟩
abbrev s__law_made : Stmt := top 40
def N__law_made : List Str := ["_law_words_here", "_law_found", "_law_effect_here", "_law_sign_here", "_law_each", "_law_more"]
def P__law_made : List Str := ["_law_words_here"]
theorem sc__law_made : FnScope N__law_made P__law_made (defScope s__law_made) := ⟨rfl, rfl, rfl, by decide +kernel, rfl, by decide +kernel, by decide +kernel⟩
abbrev s__law_fitting : Stmt := top 41
def N__law_fitting : List Str := ["_law_few", "_law_words_here", "_law_found", "_law_effect_here", "_law_sign_here", "_law_run_here"]
def P__law_fitting : List Str := ["_law_few", "_law_words_here"]
theorem sc__law_fitting : FnScope N__law_fitting P__law_fitting (defScope s__law_fitting) := ⟨rfl, rfl, rfl, by decide +kernel, rfl, by decide +kernel, by decide +kernel⟩
abbrev s__law_words : Stmt := top 42
def N__law_words : List Str := ["_law_well_here", "_law_few", "_law_most", "_law_is_firm", "_law_hidden", "_law_found", "_law_turn", "_law_effect_here"]
def P__law_words : List Str := ["_law_well_here", "_law_few", "_law_most", "_law_is_firm"]
theorem sc__law_words : FnScope N__law_words P__law_words (defScope s__law_words) := ⟨rfl, rfl, rfl, by decide +kernel, rfl, by decide +kernel, by decide +kernel⟩
abbrev s__law_right : Stmt := top 43
def N__law_right : List Str := ["_law_well_here", "_law_turn", "_law_few", "_law_words_here", "_law_run_here", "_law_one_here", "_law_two", "_law_both", "_law_due", "_law_told", "_law_made_here", "_law_found", "_law_more"]
def P__law_right : List Str := ["_law_well_here"]
theorem sc__law_right : FnScope N__law_right P__law_right (defScope s__law_right) := ⟨rfl, rfl, rfl, by decide +kernel, rfl, by decide +kernel, by decide +kernel⟩
abbrev s_law : Stmt := top 44
def N_law : List Str := ["_law_script", "_law_lap"]
def P_law : List Str := ["_law_script"]
theorem sc_law : FnScope N_law P_law (defScope s_law) := ⟨rfl, rfl, rfl, by decide +kernel, rfl, by decide +kernel, by decide +kernel⟩
end K1

set_option Elab.async false
set_option linter.all false
set_option maxRecDepth 100000
set_option maxHeartbeats 4000000
set_option autoImplicit false
namespace K1
open PySem PySem.Spec PyProof.Rows L2 RZ Gd
local macro_rules | `(tactic| wtm_at "ix") => `(tactic| first | exact at_0 | exact at_1 | exact at_2 | exact at_3 | exact at_4 | exact at_5 | exact ix_0 | exact ix_1 | exact ix_2 | exact ix_3)
local macro_rules | `(tactic| wtm_at "st") => `(tactic| first | assumption | exact upd_same | (with_reducible refine' hold_new ?hA ?hB; (case hB => assumption); (case hA => wtm_at "st")))
local macro_rules | `(tactic| wtm_at "rl") => `(tactic| first | assumption | (refine' SqL.of ?hC; (case hC => wtm_at "st")) | (refine' SqT.of ?hC; (case hC => wtm_at "st")))
local macro_rules | `(tactic| wtm_at "rd") => `(tactic| first
  | with_reducible refine w_seq ?_
  | with_reducible refine w_asg ?_
  | with_reducible refine w_ret ?_
  | with_reducible refine w_op ?_
  | with_reducible refine w_cb ?_
  | with_reducible refine w_cons ?_
  | with_reducible refine w_nil ?_
  | with_reducible refine w_c ?_
  | with_reducible refine w_if ?_
  | with_reducible refine w_test ?_
  | with_reducible refine w_un ?_
  | with_reducible refine w_tup ?_
  | with_reducible refine w_lst ?_
  | with_reducible refine w_call ?_
  | with_reducible refine w_and ?_
  | with_reducible refine w_or ?_
  | with_reducible refine w_not ?_
  | with_reducible refine w_ife ?_
  | with_reducible refine w_tB ?_
  | with_reducible refine w_andV ?_
  | with_reducible refine w_orV ?_
  | with_reducible refine w_notV ?_
  | with_reducible refine w_sub ?_
  | with_reducible refine w_gcons ?_
  | with_reducible refine w_gnil ?_
  | with_reducible refine w_next ?_
  | with_reducible refine w_drop ?_
  | with_reducible refine w_retN ?_
  | with_reducible refine w_brk ?_
  | with_reducible refine w_cont ?_
  | with_reducible refine w_bl ?_
  | with_reducible refine w_gt ?_
  | with_reducible refine w_ge ?_
  | with_reducible refine w_lt ?_
  | with_reducible refine w_le ?_
  | with_reducible refine w_subI ?_
  | with_reducible refine w_neg ?_
  | with_reducible refine w_addI ?_
  | with_reducible refine w_int ?_
  | with_reducible refine w_intB ?_
  | with_reducible refine w_abs ?_
  | with_reducible refine w_iteT ?_
  | with_reducible refine w_iteF ?_
  | with_reducible refine w_par ?_
  | with_reducible refine w_par3 ?_
  | with_reducible refine w_sl ?_
  | with_reducible refine w_nop ?_
  | with_reducible refine w_part ?_
  | with_reducible refine w_vint ?_
  | with_reducible refine w_vbl2 ?_
  | with_reducible refine w_vbl3 ?_
  | with_reducible refine w_lc ?_
  | with_reducible refine w_list ?_
  | with_reducible refine w_enum ?_
  | with_reducible refine w_fld ?_
  | with_reducible refine w_mk ?_
  | with_reducible refine w_yes ?_
  | with_reducible refine w_iz ?_
  | with_reducible refine w_var0 ?_
  | with_reducible refine w_var1 ?_
  | with_reducible refine w_var2 ?_
  | with_reducible refine w_var3 ?_
  | with_reducible refine w_var4 ?_
  | with_reducible refine w_var5 ?_
  | with_reducible refine w_var6 ?_
  | with_reducible refine w_var7 ?_
  | with_reducible refine w_var8 ?_
  | with_reducible refine w_var9 ?_
  | with_reducible refine w_var10 ?_
  | with_reducible refine w_var11 ?_
  | with_reducible refine w_var12 ?_
  | with_reducible refine w_var13 ?_
  | with_reducible refine w_var14 ?_
  | with_reducible refine w_var15 ?_
  | with_reducible refine w_nam0 ?_
  | with_reducible refine w_nam1 ?_
  | with_reducible refine w_nam2 ?_
  | with_reducible refine w_nam3 ?_
  | with_reducible refine w_nam4 ?_
  | with_reducible refine w_nam5 ?_
  | with_reducible refine w_nam6 ?_
  | with_reducible refine w_nam7 ?_
  | with_reducible refine w_nam8 ?_
  | with_reducible refine w_nam9 ?_
  | with_reducible refine w_nam10 ?_
  | with_reducible refine w_nam11 ?_
  | with_reducible refine w_nam12 ?_
  | with_reducible refine w_nam13 ?_
  | with_reducible refine w_nam14 ?_
  | with_reducible refine w_nam15 ?_
  | (with_reducible refine' w_eqS ?hs ?_; (case hs => with_unfolding_all rfl))
  | (with_reducible refine' w_neS ?hs ?_; (case hs => with_unfolding_all rfl))
  | (with_reducible refine' w_len ?hs ?_; (case hs => (simp only [List.length_cons, List.length_nil]; omega)))
  | (with_reducible refine' w_slL ?hs ?_; (case hs => wtm_at "rl"))
  | (with_reducible refine' w_mulI ?hs ?_; (case hs => (first | (refine cmul_r ?_; (constructor <;> omega)) | (refine cmul_l ?_; (constructor <;> omega)) | assumption)))
  | (with_reducible refine' w_mod ?hs ?_; (case hs => (first | omega | assumption)))
  | (with_reducible refine' w_div ?hs ?_; (case hs => (first | assumption | (refine cdiv_s ?_ ?_ <;> omega))))
  | (with_reducible refine' w_ixL ?hs ?ht ?_; (case hs => wtm_at "rl"); (case ht => wtm_at "ix"))
  | (with_reducible refine' w_ixT ?hs ?ht ?_; (case hs => wtm_at "rl"); (case ht => wtm_at "ix"))
  | (with_reducible refine' w_set0 ?hs ?_; (case hs => wtm_at "st"))
  | (with_reducible refine' w_set1 ?hs ?_; (case hs => wtm_at "st"))
  | (with_reducible refine' w_set2 ?hs ?_; (case hs => wtm_at "st"))
  | (with_reducible refine' w_lenL ?hs ?_; (case hs => wtm_at "rl"))
  | (with_reducible refine' w_lenT ?hs ?_; (case hs => wtm_at "rl"))
  | (with_reducible refine' w_gtup ?hs ?ht ?_; (case hs => wtm_at "rl"); (case ht => with_unfolding_all rfl))
  | rw [List.set_cons_zero]
  | rw [List.set_cons_succ]
  | rw [Bool.not_true]
  | rw [Bool.not_false])
local macro_rules | `(tactic| wtm_at "go") => `(tactic| repeat wtm_at "rd")
section
variable {P : Program} {w : World} {K : PySem.W.Frag} {mg : Str → Option Value} {base : Heap}
theorem cal__law_draw (T : Txt mg) (D : Def1 K mg "_law_draw" s__law_draw)   : Cal P w K mg base "_law_draw" 1 P__law_draw spDraw := by
  have nd := sc__law_draw.nd
  refine D.cal (k := 1-1) sc__law_draw (fun vs H Q E h => ?_) (fun _ _ _ _ _ _ us hl => match us, hl with | [_, _], _ => rfl) fun f cdv A outer s H vs Q E hG hr h => have hu := hr.units; have hu2 := u150 hr; ⟨_, (pss_cons (ps_if (pt_cmpR op_gtA (pe_ix (k_ix (K := K) rfl) (pv 0) pe_int (fun _ _ => rfl)) pe_int (nomark _)) (pss_cons (ps_asg (pe_callB call_dvmA rfl T.n_divmod (by decide +kernel) (pa_cons (pe_ix (k_ix (K := K) rfl) (pv 0) pe_int (fun _ _ => rfl)) (pa_cons (pv 1) pa_nil))) (k_gtup (K := K) (n := 2) rfl rfl (pgs_cons (pg_sub (pv 0) pe_int set_list) (pgs_cons (pg_name (i := 2) nd rfl (Or.inl rfl)) pgs_nil)))) (pss_one (ps_ret (pv 2)))) pss_nil) (pss_cons (ps_asg (pe_op (k_add (K := K) rfl) (pe_ix (k_ix (K := K) rfl) (pv 0) pe_int (fun _ _ => rfl)) pe_int) (pg_sub (pv 0) pe_int set_list)) (pss_cons (ps_set (i := 3) nd rfl (Or.inl rfl) (pe_op op_mod (pe_callTy call_intA rfl T.n_int (by decide +kernel) (pa_cons (pe_op (k_add (K := K) rfl) (pe_op (k_mul (K := K) rfl) (pe_ix (k_ix (K := K) rfl) (pv 0) pe_int (fun _ _ => rfl)) pe_int) (pe_op (k_mul (K := K) rfl) pe_int (pe_ix (k_ix (K := K) rfl) (pv 0) pe_int (fun _ _ => rfl)))) pa_nil)) pe_int)) (pss_cons (ps_asg (pe_op op_mod (pe_callTy call_intA rfl T.n_int (by decide +kernel) (pa_cons (pe_op (k_add (K := K) rfl) (pe_op (k_mul (K := K) rfl) (pv 3) (pe_op (k_add (K := K) rfl) (pe_op op_mod (pe_callTy call_intA rfl T.n_int (by decide +kernel) (pa_cons (pv 3) pa_nil)) pe_int) pe_int)) (pe_ix (k_ix (K := K) rfl) (pv 0) pe_int (fun _ _ => rfl))) pa_nil)) pe_int) (pg_sub (pv 0) pe_int set_list)) (pss_one (ps_ret (pe_op op_mod (pe_callTy call_intA rfl T.n_int (by decide +kernel) (pa_cons (pe_op op_fdivW (pe_ix (k_ix (K := K) rfl) (pv 0) pe_int (fun _ _ => rfl)) pe_int) pa_nil)) (pv 1)))))))), ?_⟩
  · obtain ⟨w, few, rfl, _⟩ := h; rfl
  obtain ⟨w, few, rfl, h1, h2, ⟨a, m, n, hw, h3, h4, h5⟩, hQ⟩ := h
  rw [show L2.start N__law_draw [V.ref w, V.int few] = [some (V.ref w), some (V.int few), none, none] from rfl]
  wtm_at "go"
  refine w_ite (fun c => ?_) (fun c => ?_)
  · wtm_at "go"
    refine w_dvm (cdvm_s h1 (by omega)) fun p hp => ?_
    wtm_at "go"
    refine hQ (a % few) (Int.emod_nonneg _ (by omega)) (Int.emod_lt_of_pos _ h1) _ ((Kp.new hp).trans Kp.put) ⟨_, _, _, upd_same, Int.ediv_nonneg h3 (by omega), h4, h5⟩
  wtm_at "go"
  refine hQ _ (Int.emod_nonneg _ (by omega)) (Int.emod_lt_of_pos _ h1) _ (Kp.put.trans Kp.put) ⟨_, _, _, upd_same, h3, Int.emod_nonneg _ (by omega), Int.emod_lt_of_pos _ (by omega)⟩
theorem cal__law_well (T : Txt mg) (D : Def1 K mg "_law_well" s__law_well)   : Cal P w K mg base "_law_well" 1 P__law_well (spWell K) := by
  have nd := sc__law_well.nd
  refine D.cal (k := 1-1) sc__law_well (fun vs H Q E h => ?_) (fun _ _ _ _ _ _ us hl => match us, hl with | [_, _], _ => rfl) fun f cdv A outer s H vs Q E hG hr h => have hu := hr.units; have hu2 := u150 hr; ⟨_, (pss_cons (ps_set (i := 2) nd rfl (Or.inl rfl) (pe_op (k_add (K := K) rfl) pe_int (pe_op (k_mul (K := K) rfl) pe_int (pv 1)))) (pss_cons (ps_for PassesOwn.never rfl (k_list (K := K) rfl (pe_slice (k_sl (K := K) rfl) (pv 0) po_none (po_some pe_int))) (pg_name (i := 3) nd rfl (Or.inl rfl)) (pss_one (ps_set (i := 2) nd rfl (Or.inl rfl) (pe_op op_mod (pe_callTy call_intA rfl T.n_int (by decide +kernel) (pa_cons (pe_op (k_add (K := K) rfl) (pe_op (k_add (K := K) rfl) (pe_op (k_mul (K := K) rfl) (pv 2) pe_int) (pe_op (k_mul (K := K) rfl) (pe_op op_mod (pe_callTy call_intA rfl T.n_int (by decide +kernel) (pa_cons (pv 3) pa_nil)) pe_int) pe_int)) pe_int) pa_nil)) pe_int)))) (pss_cons (ps_set (i := 4) nd rfl (Or.inl rfl) (pe_ifExp (pt_cmpR op_ltA (pv 1) (pe_callB (k_len (K := K) rfl) rfl T.n_len (by decide +kernel) (pa_cons (pv 0) pa_nil)) (nomark _)) (pe_callTy call_intA rfl T.n_int (by decide +kernel) (pa_cons (pe_ix (k_ix (K := K) rfl) (pv 0) (pv 1) (fun _ _ => rfl)) pa_nil)) pe_int)) (pss_cons (ps_set (i := 2) nd rfl (Or.inl rfl) (pe_op op_mod (pe_callTy call_intA rfl T.n_int (by decide +kernel) (pa_cons (pe_op (k_add (K := K) rfl) (pe_op (k_add (K := K) rfl) (pe_op (k_mul (K := K) rfl) (pv 2) pe_int) (pe_op (k_mul (K := K) rfl) (pe_op op_mod (pe_callTy call_intA rfl T.n_int (by decide +kernel) (pa_cons (pv 4) pa_nil)) pe_int) pe_int)) pe_int) pa_nil)) pe_int)) (pss_one (ps_ret (pe_lst (pa_cons (pe_ifExp (PW.pt (pw_or (pt_cmpR op_ltA (pv 4) pe_int (nomark _)) (pw_or1 (pt_cmpR op_geA (pv 4) (pe_op op_pow pe_int pe_int) (nomark _))))) (pe_callB call_absA rfl T.n_abs (by decide +kernel) (pa_cons (pv 4) pa_nil)) pe_int) (pa_cons (pv 2) (pa_cons pe_int pa_nil)))))))))), ?_⟩
  · obtain ⟨a, ns, lap, rfl, _⟩ := h; rfl
  obtain ⟨a, ns, lap, rfl, hs, h1, h2, hQ⟩ := h
  rw [show L2.start N__law_well [V.ref a, V.int lap] = [some (V.ref a), some (V.int lap), none, none, none] from rfl]
  wtm_at "go"
  refine w_forL ?_
  wtm_at "go"
  intro l hl
  refine ⟨_, rfl, ⟨_, SqL.of upd_same⟩, f_list (K := K) (xs := cutV (ns.map V.int) none (some 10)) (fun i σ H' => ∃ (m : Int) (v : Option V), σ = [some (.ref a), some (.int lap), some (.int m), v, none] ∧ Same (upd H l (.lst (cutV (ns.map V.int) none (some 10)))) H') ⟨_, _, rfl, Same.refl _⟩ ?_ ?_ ?_⟩
  · rintro i σ H' _ ⟨m, v, rfl, sm⟩
    exact SqL.of (sm _ _ upd_same)
  · rintro i x σ H' hx ⟨m, v, rfl, sm⟩
    obtain ⟨z, rfl⟩ := cut_int hx
    wtm_at "go"
    exact ⟨_, _, rfl, sm⟩
  · rintro σ H' ⟨m, v, rfl, sm⟩
    have sm2 : Same H H' := (same_new hl).trans sm
    have hs2 := sm2.seq hs
    wtm_at "go"
    have done : ∀ (z y : Int), 0 ≤ z → 0 ≤ y → y < 2147483489 → ∀ p, H' p = none → Q (V.ref p) (upd H' p (.lst [.int z, .int y, .int 0])) := fun z y h3 h4 h5 p hp =>
      hQ p _ (sm2.free hp) (sm2.trans (same_new hp)) ⟨_, _, _, upd_same, h3, h4, h5⟩
    refine w_ite (fun c => ?_) (fun c => ?_)
    · wtm_at "go"
      rw [List.length_map] at c
      have e : atI (ns.map V.int) lap = some (V.int (ns[lap.toNat]'(by omega))) := by
        have q := at_of (xs := ns.map V.int) (k := lap.toNat) (v := V.int (ns[lap.toNat]'(by omega))) (by rw [List.getElem?_map, List.getElem?_eq_getElem (by omega)]; rfl)
        rwa [Int.toNat_of_nonneg h1] at q
      refine w_ixL hs2 e ?_
      generalize ns[lap.toNat]'(by omega) = own
      wtm_at "go"
      refine w_ite (fun c => ?_) (fun c => ?_)
      · wtm_at "go"
        exact done _ _ (by split <;> omega) (Int.emod_nonneg _ (by omega)) (Int.emod_lt_of_pos _ (by omega))
      · wtm_at "go"
        refine w_pow ⟨by decide, by decide, by decide⟩ ?_
        wtm_at "go"
        refine w_ite (fun c => ?_) (fun c => ?_)
        · wtm_at "go"
          exact done _ _ (by split <;> omega) (Int.emod_nonneg _ (by omega)) (Int.emod_lt_of_pos _ (by omega))
        · wtm_at "go"
          exact done _ _ (by omega) (Int.emod_nonneg _ (by omega)) (Int.emod_lt_of_pos _ (by omega))
    · wtm_at "go"
      refine w_ite (fun c => ?_) (fun c => ?_)
      · wtm_at "go"
        exact done _ _ (by split <;> omega) (Int.emod_nonneg _ (by omega)) (Int.emod_lt_of_pos _ (by omega))
      · wtm_at "go"
        refine w_pow ⟨by decide, by decide, by decide⟩ ?_
        wtm_at "go"
        refine w_ite (fun c => ?_) (fun c => ?_)
        · wtm_at "go"
          exact done _ _ (by split <;> omega) (Int.emod_nonneg _ (by omega)) (Int.emod_lt_of_pos _ (by omega))
        · wtm_at "go"
          exact done _ _ (by omega) (Int.emod_nonneg _ (by omega)) (Int.emod_lt_of_pos _ (by omega))

theorem cal__law_one (T : Txt mg) (D : Def1 K mg "_law_one" s__law_one)  (c__law_draw : Cal P w K mg base "_law_draw" 1 P__law_draw spDraw) : Cal P w K mg base "_law_one" 2 P__law_one (spOne K) := by
  have nd := sc__law_one.nd
  refine D.cal (k := 2-1) sc__law_one (fun vs H Q E h => ?_) (fun _ _ _ _ _ _ us hl => match us, hl with | [_, _], _ => rfl) fun f cdv A outer s H vs Q E hG hr h => have hu := hr.units; have hu2 := u150 hr; ⟨_, (pss_one (ps_ret (pe_ix (k_ix (K := K) rfl) (pv 1) (pe_cal c__law_draw hG (hr.mono (by decide)) rfl (pa_cons (pv 0) (pa_cons (pe_callB (k_len (K := K) rfl) rfl T.n_len (by decide +kernel) (pa_cons (pv 1) pa_nil)) pa_nil))) (fun _ _ => rfl)))), ?_⟩
  · obtain ⟨w, t, xs, rfl, _⟩ := h; rfl
  obtain ⟨w, t, xs, rfl, hs, h1, h2, hw, hQ⟩ := h
  rw [show L2.start N__law_one [V.ref w, V.ref t] = [some (V.ref w), some (V.ref t)] from rfl]
  wtm_at "go"
  have pos : 0 < xs.length := List.length_pos_iff.mpr h1
  have step : spDraw [V.ref w, V.int xs.length] H (fun y H2 => rIx K (V.ref t) y H2 Q) E0 := by
    refine ⟨w, _, rfl, by omega, by omega, hw, fun k k0 k1 H' kp wl => ?_⟩
    obtain ⟨j, rfl⟩ := Int.eq_ofNat_of_zero_le k0
    have hj : j < xs.length := by omega
    have e : xs[j]? = some xs[j] := List.getElem?_eq_getElem hj
    have m := hQ xs[j] (List.getElem_mem hj) H' kp wl
    rcases hs with hs | ⟨hs, hn⟩
    · exact w_ixT (SqT.kp hs hw kp) (at_of e) m
    · exact w_ixL (SqL.kp hs hn kp) (at_of e) m
  rcases hs with hs | ⟨hs, hn⟩
  · refine w_lenT hs ?_
    wtm_at "go"
    exact step
  · refine w_lenL hs ?_
    wtm_at "go"
    exact step
end
end K1

set_option linter.all false
set_option autoImplicit false
/-! Dm: what a piece of a program comes to, for each choice: a predicate transformer with its monotony. -/
namespace Dl
structure M (α : Type) where
  run : (α → Prop) → Prop
  mono : ∀ {p q : α → Prop}, (∀ a, p a → q a) → run p → run q
namespace M
variable {α β γ : Type}
def ret (a : α) : M α := ⟨fun p => p a, fun h x => h a x⟩
def bind (m : M α) (k : α → M β) : M β := ⟨fun p => m.run fun a => (k a).run p, fun h x => m.mono (fun a y => (k a).mono h y) x⟩
def fail : M α := ⟨fun _ => False, fun _ x => x⟩
/-- something must hold -/
def gd (c : Prop) : M Unit := ⟨fun p => c ∧ p (), fun h x => ⟨x.1, h _ x.2⟩⟩
/-- any of those -/
def any (S : α → Prop) : M α := ⟨fun p => ∀ a, S a → p a, fun h x a s => h a (x a s)⟩
def opt : Option α → M α
  | some a => ret a
  | none => fail
theorem ext {m n : M α} (h : ∀ p, m.run p ↔ n.run p) : m = n := by
  cases m with | mk f _ => cases n with | mk g _ =>
    have e : f = g := funext fun p => propext (h p)
    subst e
    rfl
@[simp] theorem run_ret (a : α) (p : α → Prop) : (ret a).run p = p a := rfl
@[simp] theorem run_bind (m : M α) (k : α → M β) (p : β → Prop) : (bind m k).run p = m.run fun a => (k a).run p := rfl
@[simp] theorem run_fail (p : α → Prop) : (fail : M α).run p = False := rfl
@[simp] theorem run_gd (c : Prop) (p : Unit → Prop) : (gd c).run p = (c ∧ p ()) := rfl
@[simp] theorem run_any (S : α → Prop) (p : α → Prop) : (any S).run p = ∀ a, S a → p a := rfl
@[simp] theorem opt_some (a : α) : opt (some a) = ret a := rfl
@[simp] theorem opt_none : opt (none : Option α) = fail := rfl
@[simp] theorem ret_bind (a : α) (k : α → M β) : bind (ret a) k = k a := rfl
@[simp] theorem fail_bind (k : α → M β) : bind fail k = fail := rfl
@[simp] theorem bind_ret (m : M α) : bind m ret = m := rfl
@[simp] theorem bind_bind (m : M α) (k : α → M β) (l : β → M γ) : bind (bind m k) l = bind m fun a => bind (k a) l := rfl
theorem gd_true {c : Prop} (h : c) (k : Unit → M β) : bind (gd c) k = k () := ext fun p => ⟨fun x => x.2, fun x => ⟨h, x⟩⟩
@[simp] theorem run_ite (c : Prop) [Decidable c] (a b : M α) (p : α → Prop) : (if c then a else b).run p = if c then a.run p else b.run p := by split <;> rfl
@[simp] theorem ite_bind (c : Prop) [Decidable c] (a b : M α) (k : α → M β) : bind (if c then a else b) k = if c then bind a k else bind b k := by split <;> rfl
end M
end Dl

set_option Elab.async false
set_option linter.all false
set_option maxRecDepth 100000
set_option maxHeartbeats 2000000
set_option autoImplicit false
/-! Dd: data in the abstract heap, apart from the lists of the frame; a frame's slots as cells of data. -/
namespace Dl
open PySem PySem.Spec PyProof.Rows L2 Gd
mutual
/-- at the value v there is the datum, none of its lists at an address of W -/
inductive Da (W : Addr → Prop) (K : PySem.W.Frag) (H : Hp) : V → PyData → Prop
  | non : Da W K H .non .none
  | bl (b : Bool) : Da W K H (.bl b) (.bool b)
  | int (i : Int) : Da W K H (.int i) (.int i)
  | str (x : Str) : Da W K H (.str x) (.str x)
  | lst {a : Addr} {xs : List V} {ds : List PyData} (n : ¬ W a) (h : H a = some (.lst xs)) (r : DaL W K H xs ds) : Da W K H (.ref a) (.list ds)
  | tup {a : Addr} {xs : List V} {ds : List PyData} (h : SqT K H a xs) (r : DaL W K H xs ds) : Da W K H (.ref a) (.tuple ds)
  | dic {a : Addr} (h : H a = some (.dK [])) : Da W K H (.ref a) (.dict [])
inductive DaL (W : Addr → Prop) (K : PySem.W.Frag) (H : Hp) : List V → List PyData → Prop
  | nil : DaL W K H [] []
  | cons {v : V} {vs : List V} {d : PyData} {ds : List PyData} (h : Da W K H v d) (r : DaL W K H vs ds) : DaL W K H (v :: vs) (d :: ds)
end
section
variable {T W W' : Addr → Prop} {K : PySem.W.Frag} {H H' : Hp}
/-- all but what stands at W, and the tables at T, is kept -/
def Kw (T W : Addr → Prop) (H H' : Hp) : Prop := ∀ b o, ¬ W b → ¬ T b → H b = some o → H' b = some o
/-- W holds lists alone, T tables -/
structure LW (T W : Addr → Prop) (H : Hp) : Prop where
  l : ∀ a, W a → ∃ xs, H a = some (.lst xs)
  t : ∀ a, T a → GxR.TabG H a
theorem Kw.refl : Kw T W H H := fun _ _ _ _ h => h
theorem Kw.same (s : Same H H') : Kw T W H H' := fun b o _ _ h => s b o h
theorem tabG_same {a : Addr} (s : Same H H') (h : GxR.TabG H a) : GxR.TabG H' a := by
  obtain ⟨ps, e, o⟩ := h
  exact ⟨ps, s _ _ e, o⟩
theorem LW.same (h : LW T W H) (s : Same H H') : LW T W H' := ⟨fun a w => let ⟨xs, e⟩ := h.l a w; ⟨xs, s _ _ e⟩, fun a w => tabG_same s (h.t a w)⟩
theorem LW.dom (h : LW T W H) {a : Addr} (n : H a = none) : ¬ W a := fun w => by
  obtain ⟨xs, e⟩ := h.l a w
  rw [n] at e
  cases e
theorem LW.domT (h : LW T W H) {a : Addr} (n : H a = none) : ¬ T a := fun w => by
  obtain ⟨xs, e, _⟩ := h.t a w
  rw [n] at e
  cases e
/-- the same, where some of W may not be there yet -/
structure LV (T W : Addr → Prop) (H : Hp) : Prop where
  l : ∀ a o, W a → H a = some o → ∃ xs, o = .lst xs
  t : ∀ a, T a → GxR.TabG H a
theorem LW.v (h : LW T W H) : LV T W H := ⟨fun a o w e => by
  obtain ⟨xs, e2⟩ := h.l a w
  rw [e] at e2
  exact ⟨xs, Option.some.inj e2⟩, h.t⟩
theorem LV.noT (h : LV T W H) {a : Addr} {o : HO} (e : H a = some o) (n : ∀ ps, o ≠ .tbl ps) : ¬ T a := fun w => by
  obtain ⟨ps, e2, _⟩ := h.t a w
  rw [e] at e2
  exact n _ (Option.some.inj e2)
theorem LV.noW (h : LV T W H) {a : Addr} {o : HO} (e : H a = some o) (n : ∀ xs, o ≠ .lst xs) : ¬ W a := fun w => by
  obtain ⟨xs, e2⟩ := h.l a o w e
  exact n _ e2
theorem LW.noT (h : LW T W H) {a : Addr} {o : HO} (e : H a = some o) (n : ∀ ps, o ≠ .tbl ps) : ¬ T a := fun w => by
  obtain ⟨ps, e2, _⟩ := h.t a w
  rw [e] at e2
  exact n _ (Option.some.inj e2)
theorem LW.noW (h : LW T W H) {a : Addr} {o : HO} (e : H a = some o) (n : ∀ xs, o ≠ .lst xs) : ¬ W a := fun w => by
  obtain ⟨ps, e2⟩ := h.l a w
  rw [e] at e2
  exact n _ (Option.some.inj e2)
theorem sqT_kw {a : Addr} {xs : List V} (l : LV T W H) (k : Kw T W H H') (h : SqT K H a xs) : SqT K H' a xs := by
  rcases h with (h | ⟨o, h⟩) | h
  · exact .inl (.inl (k _ _ (l.noW h fun _ z => by cases z) (l.noT h fun _ z => by cases z) h))
  · exact .inl (.inr ⟨o, k _ _ (l.noW h fun _ z => by cases z) (l.noT h fun _ z => by cases z) h⟩)
  · exact .inr h
mutual
theorem Da.kw (l : LV T W H) (k : Kw T W H H') : ∀ {v : V} {d : PyData}, Da W K H v d → Da W K H' v d
  | _, _, .non => .non
  | _, _, .bl b => .bl b
  | _, _, .int i => .int i
  | _, _, .str x => .str x
  | _, _, .lst n h r => .lst n (k _ _ n (l.noT h fun _ z => by cases z) h) (DaL.kw l k r)
  | _, _, .tup h r => .tup (sqT_kw l k h) (DaL.kw l k r)
  | _, _, .dic (a := a) h => .dic (k _ _ (l.noW h fun _ z => by cases z) (l.noT h fun _ z => by cases z) h)
theorem DaL.kw (l : LV T W H) (k : Kw T W H H') : ∀ {vs : List V} {ds : List PyData}, DaL W K H vs ds → DaL W K H' vs ds
  | _, _, .nil => .nil
  | _, _, .cons h r => .cons (Da.kw l k h) (DaL.kw l k r)
end
mutual
theorem Da.same (k : Same H H') : ∀ {v : V} {d : PyData}, Da W K H v d → Da W K H' v d
  | _, _, .non => .non
  | _, _, .bl b => .bl b
  | _, _, .int i => .int i
  | _, _, .str x => .str x
  | _, _, .lst n h r => .lst n (k _ _ h) (DaL.same k r)
  | _, _, .tup h r => .tup (Gd.Same.sqT k h) (DaL.same k r)
  | _, _, .dic h => .dic (k _ _ h)
theorem DaL.same (k : Same H H') : ∀ {vs : List V} {ds : List PyData}, DaL W K H vs ds → DaL W K H' vs ds
  | _, _, .nil => .nil
  | _, _, .cons h r => .cons (Da.same k h) (DaL.same k r)
end
mutual
/-- the set of addresses may change where nothing of the datum stands -/
theorem Da.w (s : ∀ a xs, H a = some (.lst xs) → ¬ W a → ¬ W' a) : ∀ {v : V} {d : PyData}, Da W K H v d → Da W' K H v d
  | _, _, .non => .non
  | _, _, .bl b => .bl b
  | _, _, .int i => .int i
  | _, _, .str x => .str x
  | _, _, .lst n h r => .lst (s _ _ h n) h (DaL.w s r)
  | _, _, .tup h r => .tup h (DaL.w s r)
  | _, _, .dic h => .dic h
theorem DaL.w (s : ∀ a xs, H a = some (.lst xs) → ¬ W a → ¬ W' a) : ∀ {vs : List V} {ds : List PyData}, DaL W K H vs ds → DaL W' K H vs ds
  | _, _, .nil => .nil
  | _, _, .cons h r => .cons (Da.w s h) (DaL.w s r)
end
theorem Da.less (s : ∀ a, W' a → W a) {v : V} {d : PyData} (h : Da W K H v d) : Da W' K H v d := h.w fun a _ _ n z => n (s a z)
theorem DaL.less (s : ∀ a, W' a → W a) {vs : List V} {ds : List PyData} (h : DaL W K H vs ds) : DaL W' K H vs ds := h.w fun a _ _ n z => n (s a z)
theorem DaL.length : ∀ {vs : List V} {ds : List PyData}, DaL W K H vs ds → vs.length = ds.length
  | _, _, .nil => rfl
  | _, _, .cons _ r => congrArg Nat.succ (DaL.length r)
theorem DaL.append : ∀ {vs us : List V} {ds es : List PyData}, DaL W K H vs ds → DaL W K H us es → DaL W K H (vs ++ us) (ds ++ es)
  | _, _, _, _, .nil, s => s
  | _, _, _, _, .cons h r, s => .cons h (DaL.append r s)
theorem DaL.get : ∀ {vs : List V} {ds : List PyData}, DaL W K H vs ds → ∀ {i : Nat} {v : V}, vs[i]? = some v → ∃ d, ds[i]? = some d ∧ Da W K H v d
  | _, _, .nil, _, _, e => by simp at e
  | _, _, .cons h r, 0, _, e => by simp at e; subst e; exact ⟨_, rfl, h⟩
  | _, _, .cons h r, i + 1, _, e => by simpa using DaL.get r (i := i) (by simpa using e)
theorem DaL.get' : ∀ {vs : List V} {ds : List PyData}, DaL W K H vs ds → ∀ {i : Nat} {d : PyData}, ds[i]? = some d → ∃ v, vs[i]? = some v ∧ Da W K H v d
  | _, _, .nil, _, _, e => by simp at e
  | _, _, .cons h r, 0, _, e => by simp at e; subst e; exact ⟨_, rfl, h⟩
  | _, _, .cons h r, i + 1, _, e => by simpa using DaL.get' r (i := i) (by simpa using e)
theorem DaL.take : ∀ {vs : List V} {ds : List PyData} (n : Nat), DaL W K H vs ds → DaL W K H (vs.take n) (ds.take n)
  | _, _, 0, _ => .nil
  | _, _, _ + 1, .nil => .nil
  | _, _, n + 1, .cons h r => .cons h (DaL.take n r)
theorem DaL.drop : ∀ {vs : List V} {ds : List PyData} (n : Nat), DaL W K H vs ds → DaL W K H (vs.drop n) (ds.drop n)
  | _, _, 0, r => r
  | _, _, _ + 1, .nil => .nil
  | _, _, n + 1, .cons _ r => DaL.drop n r
theorem DaL.rev : ∀ {vs : List V} {ds : List PyData}, DaL W K H vs ds → DaL W K H vs.reverse ds.reverse
  | _, _, .nil => .nil
  | _, _, .cons h r => by rw [List.reverse_cons, List.reverse_cons]; exact DaL.append (DaL.rev r) (.cons h .nil)
theorem DaL.rep {v : V} {d : PyData} (h : Da W K H v d) : ∀ n, DaL W K H (List.replicate n v) (List.replicate n d)
  | 0 => .nil
  | n + 1 => .cons h (DaL.rep h n)
theorem DaL.reps {vs : List V} {ds : List PyData} (h : DaL W K H vs ds) : ∀ n, DaL W K H (List.replicate n vs).flatten (List.replicate n ds).flatten
  | 0 => .nil
  | n + 1 => by rw [List.replicate_succ, List.replicate_succ, List.flatten_cons, List.flatten_cons]; exact h.append (DaL.reps h n)
theorem DaL.set {v : V} {d : PyData} (h : Da W K H v d) : ∀ {vs : List V} {ds : List PyData} (i : Nat), DaL W K H vs ds → DaL W K H (vs.set i v) (ds.set i d)
  | _, _, _, .nil => .nil
  | _, _, 0, .cons _ r => .cons h r
  | _, _, i + 1, .cons q r => .cons q (DaL.set h i r)

mutual
theorem Da.dt {w : Addr} (hw : W w) : ∀ {v : V} {d : PyData}, Da W K H v d → Dt w K H v d
  | _, _, .non => .non
  | _, _, .bl b => .bl b
  | _, _, .int i => .int i
  | _, _, .str x => .str x
  | _, _, .lst n h r => .lst (fun e => n (e ▸ hw)) (SqL.of h) (DaL.dt hw r)
  | _, _, .tup h r => .tup h (DaL.dt hw r)
  | _, _, .dic h => .dic h
theorem DaL.dt {w : Addr} (hw : W w) : ∀ {vs : List V} {ds : List PyData}, DaL W K H vs ds → DtL w K H vs ds
  | _, _, .nil => .nil
  | _, _, .cons h r => .cons (Da.dt hw h) (DaL.dt hw r)
end
mutual
theorem Da.dp : ∀ {v : V} {d : PyData}, PyData.canLay0 d = true → Da W K H v d → Dp K H v d
  | _, _, _, .non => .non
  | _, _, _, .bl b => .bl b
  | _, _, _, .int i => .int i
  | _, _, _, .str x => .str x
  | _, _, c, .lst n h r => .lst (SqL.of h) (DaL.dp (by simpa only [PyData.canLay0] using c) r)
  | _, _, c, .tup h r => .tup h (DaL.dp (by simpa only [PyData.canLay0] using c) r)
  | _, _, c, .dic h => by simp [PyData.canLay0] at c
theorem DaL.dp : ∀ {vs : List V} {ds : List PyData}, PyData.canLayAll0 ds = true → DaL W K H vs ds → DpAll K H vs ds
  | _, _, _, .nil => .nil
  | _, _, c, .cons h r => by
    simp only [PyData.canLayAll0, Bool.and_eq_true] at c
    exact .cons (Da.dp c.1 h) (DaL.dp c.2 r)
end
theorem Da.dps {v : V} {d : PyData} (c : SeqAt.shaped d = true) (h : Da W K H v d) : Dp K H v d := h.dp (SeqAt.canLay_of_shaped c)
end
/-! ### a frame: its slots as cells -/
inductive Cell where
  | un
  | im (d : PyData)
  | ow (ds : List PyData)
  | well
/-- what is fixed through a frame: the well, what the callers write, the heap at the entry -/
structure Fc where
  K : PySem.W.Frag
  T : Addr → Prop
  ow : Option Addr
  W0 : Addr → Prop
  H0 : Hp
/-- a value for a cell -/
def CellAt (c : Fc) (W : Addr → Prop) (H : Hp) (v : Option (Option V)) : Cell → Prop
  | .un => True
  | .im d => ∃ u, v = some (some u) ∧ Da W c.K H u d
  | .ow ds => ∃ a xs, v = some (some (.ref a)) ∧ W a ∧ ¬ c.W0 a ∧ some a ≠ c.ow ∧ H a = some (.lst xs) ∧ DaL W c.K H xs ds
  | .well => ∃ w, c.ow = some w ∧ v = some (some (.ref w))
structure Sr (c : Fc) (W : Addr → Prop) (H : Hp) (σ : L2.St) (Γ : List Cell) : Prop where
  len : σ.length = Γ.length
  at' : ∀ (i : Nat) (z : Cell), Γ[i]? = some z → CellAt c W H σ[i]? z
  sep : ∀ (i j : Nat) (a : Addr) (ds es : List PyData), i ≠ j → Γ[i]? = some (.ow ds) → Γ[j]? = some (.ow es) → σ[i]? = some (some (.ref a)) → σ[j]? = some (some (.ref a)) → False
  wok : ∀ w, c.ow = some w → c.W0 w ∧ Wl H w
  sub : ∀ a, c.W0 a → W a
  lw : LW c.T W H
  new : ∀ a, W a → ¬ c.W0 a → c.H0 a = none
  ch0 : ∀ b o, some b ≠ c.ow → ¬ c.T b → c.H0 b = some o → H b = some o
/-- what an expression leaves: all stands but the well; tables grow -/
structure Ch (c : Fc) (H H' : Hp) : Prop where
  kp : ∀ b o, some b ≠ c.ow → ¬ c.T b → H b = some o → H' b = some o
  tb : ∀ a, c.T a → GxR.TabG H' a
  wl : ∀ w, c.ow = some w → Wl H' w
theorem Ch.of {c : Fc} {H H' : Hp} (s : Same H H') (t : ∀ a, c.T a → GxR.TabG H a) (w : ∀ w, c.ow = some w → Wl H w) : Ch c H H' := ⟨fun b o _ _ h => s b o h, fun a h => tabG_same s (t a h), fun a e => (w a e).same s⟩
theorem Ch.trans {c : Fc} {H H1 H2 : Hp} (a : Ch c H H1) (b : Ch c H1 H2) : Ch c H H2 := ⟨fun x o n t h => b.kp x o n t (a.kp x o n t h), b.tb, b.wl⟩
theorem Ch.kw {c : Fc} {H H' : Hp} {W : Addr → Prop} (a : Ch c H H') (h : ∀ w, c.ow = some w → W w) : Kw c.T W H H' := fun b o n t e => a.kp b o (fun z => n (h b z.symm)) t e
section
variable {c : Fc} {W : Addr → Prop} {H H' : Hp} {σ : L2.St} {Γ : List Cell}
theorem Sr.wl (S : Sr c W H σ Γ) (w : Addr) (e : c.ow = some w) : Wl H w := (S.wok w e).2
theorem Sr.ww (S : Sr c W H σ Γ) (w : Addr) (e : c.ow = some w) : W w := S.sub w (S.wok w e).1
theorem Sr.refl (S : Sr c W H σ Γ) : Ch c H H := Ch.of (Same.refl H) S.lw.t S.wl
theorem Sr.kwC (S : Sr c W H σ Γ) (k : Ch c H H') : Kw c.T W H H' := k.kw S.ww
theorem Sr.lwC (S : Sr c W H σ Γ) (k : Ch c H H') : LW c.T W H' := ⟨fun a h => by
  by_cases e : c.ow = some a
  · obtain ⟨x, y, z, q, _⟩ := k.wl a e
    exact ⟨_, q⟩
  · obtain ⟨xs, q⟩ := S.lw.l a h
    exact ⟨xs, k.kp a _ (fun z => e z.symm) (S.lw.noT q fun _ z => by cases z) q⟩, k.tb⟩
theorem Sr.da (S : Sr c W H σ Γ) (k : Ch c H H') {v : V} {d : PyData} (h : Da W c.K H v d) : Da W c.K H' v d := h.kw S.lw.v (S.kwC k)
theorem Sr.dal (S : Sr c W H σ Γ) (k : Ch c H H') {v : List V} {d : List PyData} (h : DaL W c.K H v d) : DaL W c.K H' v d := h.kw S.lw.v (S.kwC k)
theorem CellAt.ch (S : Sr c W H σ Γ) (k : Ch c H H') {v : Option (Option V)} : ∀ {z : Cell}, CellAt c W H v z → CellAt c W H' v z
  | .un, _ => trivial
  | .im d, ⟨u, e, h⟩ => ⟨u, e, S.da k h⟩
  | .ow ds, ⟨a, xs, e, w, n, m, h, r⟩ => ⟨a, xs, e, w, n, m, k.kp _ _ m (S.lw.noT h fun _ z => by cases z) h, S.dal k r⟩
  | .well, h => h
theorem Sr.ch (S : Sr c W H σ Γ) (k : Ch c H H') : Sr c W H' σ Γ where
  len := S.len
  at' := fun i z e => (S.at' i z e).ch S k
  sep := S.sep
  wok := fun w e => ⟨(S.wok w e).1, k.wl w e⟩
  sub := S.sub
  lw := S.lwC k
  new := S.new
  ch0 := fun b o n t h => k.kp b o n t (S.ch0 b o n t h)
theorem Sr.ret (S : Sr c W H σ Γ) : Ch c c.H0 H := ⟨S.ch0, S.lw.t, S.wl⟩
theorem Sr.same (S : Sr c W H σ Γ) (k : Same H H') : Sr c W H' σ Γ := S.ch (Ch.of k S.lw.t S.wl)
theorem Sr.new1 (S : Sr c W H σ Γ) {p : Addr} {o : HO} (h : H p = none) : Ch c H (upd H p o) := Ch.of (same_new h) S.lw.t S.wl
theorem Sr.cs (S : Sr c W H σ Γ) (k : Same H H') : Ch c H H' := Ch.of k S.lw.t S.wl
end
/-! ### readings by data -/
/-- an expression: what it comes to, by the cells -/
def tF (c : Fc) (f : List Cell → M PyData) : TE := fun σ H Q => ∃ W Γ, Sr c W H σ Γ ∧ (f Γ).run fun d => ∀ H' v, Ch c H H' → Da W c.K H' v d → Q v H'
/-- a value that is looked at alone: it may be a list of the frame -/
def Pk (c : Fc) (W : Addr → Prop) (H : Hp) (v : V) (d : PyData) : Prop := Da W c.K H v d ∨ ∃ a xs ds, v = .ref a ∧ d = .list ds ∧ some a ≠ c.ow ∧ H a = some (.lst xs) ∧ DaL W c.K H xs ds
theorem Sr.pk {c : Fc} {W : Addr → Prop} {H H' : Hp} {σ : L2.St} {Γ : List Cell} (S : Sr c W H σ Γ) (k : Ch c H H') {v : V} {d : PyData} (h : Pk c W H v d) : Pk c W H' v d := by
  rcases h with h | ⟨a, xs, ds, e1, e2, n, h1, h2⟩
  · exact .inl (S.da k h)
  · exact .inr ⟨a, xs, ds, e1, e2, n, k.kp _ _ n (S.lw.noT h1 fun _ z => by cases z) h1, S.dal k h2⟩
def tG (c : Fc) (f : List Cell → M PyData) : TE := fun σ H Q => ∃ W Γ, Sr c W H σ Γ ∧ (f Γ).run fun d => ∀ H' v, Ch c H H' → Pk c W H' v d → Q v H'
/-- a test -/
def tTF (c : Fc) (f : List Cell → M Bool) : TT := fun σ H Q => ∃ W Γ, Sr c W H σ Γ ∧ (f Γ).run fun b => ∀ H', Ch c H H' → Q b H'
/-- arguments -/
def tAF (c : Fc) (f : List Cell → M (List PyData)) : TA := fun σ H Q => ∃ W Γ, Sr c W H σ Γ ∧ (f Γ).run fun ds => ∀ H' vs, Ch c H H' → DaL W c.K H' vs ds → Q vs H'
end Dl

set_option Elab.async false
set_option linter.all false
set_option maxRecDepth 100000
set_option maxHeartbeats 4000000
set_option autoImplicit false
/-! Gj: a generator expression whose element may do anything: its turns, and all / any over it. -/
namespace Gd
open PySem
open Sem (wp)
/-- what is told at a yield: the i-th item v, what stands (Yd); awake again at s'' by Wk -/
def protoJ (n₀ : Nat) (Yd : Nat → Value → Shared → Prop) (Wk : Value → Shared → Shared → Prop) : Protocol := fun m _ v s kap => (∃ i, i < n₀ ∧ m + i = n₀ ∧ Yd i v s) ∧ ∀ s'', Wk v s s'' → kap (.send .none) s''
def endJ (Dn : Shared → Prop) : GenEnd := fun n _ r s₁ => r = .ok .next ∧ n = 1 ∧ Dn s₁
section
variable {prog : Program} {w : World} {A : Around} {elt iter : Expr} {x : Str} {px : Pos} {scope : Scope} {pos : Pos} {I : Addr} {n₀ : Nat} {cenv : Env} {J : Nat → Shared → Prop} {Yd : Nat → Value → Shared → Prop} {Wk : Value → Shared → Shared → Prop} {Dn : Shared → Prop}
abbrev cLoop (elt iter : Expr) (x : Str) (px : Pos) (scope : Scope) (pos : Pos) (I : Addr) (cenv : Env) : Code := .compLoop (.GeneratorExp elt [⟨.Name x px, iter, [], 0⟩] scope pos) 0 (.ref I) .none cenv
abbrev cStart (elt iter : Expr) (x : Str) (px : Pos) (scope : Scope) (pos : Pos) (I : Addr) (cenv : Env) : Code := .compStart (.GeneratorExp elt [⟨.Name x px, iter, [], 0⟩] scope pos) 0 (.ref I) .none cenv
theorem seg_loopJ (hco : cenv.scope.isCoroutine = false)
    (item : ∀ i s, i < n₀ → J i s → wpAny (model prog w) (A.over (cLoop elt iter x px scope pos I cenv) []) (pyNext (.ref I)) (fun ov s₁ => ∃ v, ov = some v ∧ wpAny (model prog w) (A.over (cLoop elt iter x px scope pos I cenv) []) (assign (.Name x px) cenv v) (fun _ s₂ =>
      wpAny (model prog w) (A.over (cLoop elt iter x px scope pos I cenv) []) (eval elt cenv) (fun y s₃ => Yd i y s₃) (fun _ _ => False) s₂) (fun _ _ => False) s₁) (fun _ _ => False) s)
    (done : ∀ s, J n₀ s → wpAny (model prog w) (A.over (cLoop elt iter x px scope pos I cenv) []) (pyNext (.ref I)) (fun ov s₁ => ov = none ∧ Dn s₁) (fun _ _ => False) s)
    (wake : ∀ i y s s'', i < n₀ → Yd i y s → Wk y s s'' → J (i + 1) s'') :
    ∀ (k i : Nat) (s₀ s : Shared), n₀ - i = k → i ≤ n₀ → J i s →
      Seg (model prog w) A (endJ Dn) (protoJ n₀ Yd Wk) (k + 1) s₀ (cLoop elt iter x px scope pos I cenv) ((model prog w).den (cLoop elt iter x px scope pos I cenv)) [] s := by
  intro k
  induction k with
  | zero =>
    intro i s₀ s hk hi hj
    obtain rfl : i = n₀ := by omega
    show Seg _ A _ _ _ s₀ _ ((compTurn (.GeneratorExp elt [⟨.Name x px, iter, [], 0⟩] scope pos) 0 (.ref I) .none cenv).onRaise (leaving cenv)) [] s
    rw [compTurn_gen, Sem.onRaise_eq_wrap]
    refine seg_bind_wrap (wpAny_standAt ?_)
    refine seg_bind_wrap (wpAny_mono (done s hj) (fun ov s₁ h => ?_) fun _ _ h => h.elim)
    obtain ⟨rfl, d⟩ := h
    exact seg_end (.ok .next) ⟨rfl, rfl, d⟩
  | succ k ih =>
    intro i s₀ s hk hi hj
    have hlt : i < n₀ := by omega
    show Seg _ A _ _ _ s₀ _ ((compTurn (.GeneratorExp elt [⟨.Name x px, iter, [], 0⟩] scope pos) 0 (.ref I) .none cenv).onRaise (leaving cenv)) [] s
    rw [compTurn_gen, Sem.onRaise_eq_wrap]
    refine seg_bind_wrap (wpAny_standAt ?_)
    refine seg_bind_wrap (wpAny_mono (item i s hlt hj) (fun ov s₁ h => ?_) fun _ _ h => h.elim)
    obtain ⟨v, rfl, h⟩ := h
    refine seg_bind_wrap (wpAny_of_eq (rfl : letOwnedTupleGo (.Name x px) (.ref I) v = pure ()) ?_)
    refine seg_bind_wrap (wpAny_mono h (fun _ s₂ h => ?_) fun _ _ h => h.elim)
    refine seg_bind_wrap (wpAny_pure ?_)
    have hy : ∀ v, yieldOut cenv v = yieldValue v := fun v => by simp only [yieldOut, hco, Bool.false_eq_true, if_false]
    simp only [if_true, hy]
    rw [Sem.bind_eq_wrap', Sem.bind_eq_wrap', Sem.wrap_wrap, Sem.wrap_wrap]
    refine seg_wrap (wpAny_mono h (fun y s₃ hyd => ?_) fun _ _ h => h.elim)
    refine seg_at (seg_yield rfl rfl rfl ⟨⟨i, hlt, by omega, hyd⟩, fun s'' hw => ?_⟩)
    exact seg_again rfl (ih (i + 1) s'' s'' (by omega) hlt (wake i y s₃ s'' hlt hyd hw))
theorem seg_startJ (hco : cenv.scope.isCoroutine = false)
    (loop : ∀ s, J 0 s → Seg (model prog w) A (endJ Dn) (protoJ n₀ Yd Wk) (n₀ + 1) s (cLoop elt iter x px scope pos I cenv) ((model prog w).den (cLoop elt iter x px scope pos I cenv)) [] s)
    (self : ∀ s (Q : Value → Shared → Prop), J 0 s → Q (.ref I) s → wpAny (model prog w) (A.over (cStart elt iter x px scope pos I cenv) []) (pyIter (.ref I)) Q (fun _ _ => False) s) (s : Shared) (hj : J 0 s) :
    Seg (model prog w) A (endJ Dn) (protoJ n₀ Yd Wk) (n₀ + 1) s (cStart elt iter x px scope pos I cenv) ((model prog w).den (cStart elt iter x px scope pos I cenv)) [] s := by
  show Seg _ A _ _ _ s _ ((compStart (.GeneratorExp elt [⟨.Name x px, iter, [], 0⟩] scope pos) 0 (.ref I) .none cenv).onRaise (leaving cenv)) [] s
  unfold compStart
  rw [Sem.onRaise_eq_wrap]
  show Seg _ A _ _ _ s _ ((ask >>= _).wrap _ _ _ _) [] s
  refine seg_bind_wrap (wpAny_askSetting ?_)
  split
  · exact seg_again rfl (loop s hj)
  · have q : wpAny (model prog w) (A.over (cStart elt iter x px scope pos I cenv) []) (pyIter (.ref I)) (fun u s' => u = .ref I ∧ s' = s) (fun _ _ => False) s := self s _ hj ⟨rfl, rfl⟩
    first
      | (refine seg_bind_wrap (wpAny_rule (seg_bind_wrap (wpAny_standAt (seg_bind_wrap (wpAny_mono q (fun u s' h => ?_) fun _ _ h => h.elim)))))
         obtain ⟨rfl, rfl⟩ := h
         exact seg_again rfl (loop _ hj))
      | (refine seg_bind_wrap (wpAny_rule ?_)
         show Seg _ A _ _ _ s _ ((standAt iter.pos >>= _).wrap _ _ _ _) [] s
         refine seg_bind_wrap (wpAny_standAt (seg_bind_wrap (wpAny_mono q (fun u s' h => ?_) fun _ _ h => h.elim)))
         obtain ⟨rfl, rfl⟩ := h
         exact seg_again rfl (loop _ hj))
end
/-! ### all, any -/
section
variable {prog : Program} {w : World} {A : Around} {R : Result → Shared → Prop} {a : Addr} {g n₀ : Nat} {Yd : Nat → Value → Shared → Prop} {Dn : Shared → Prop}
/-- awake again: the item was b, the table at g was written -/
def WkB (g : Nat) (b : Bool) (v : Value) (s s'' : Shared) : Prop := v = .bool b ∧ ∃ gs', gs'.bare = true ∧ s'' = (s.setGen g gs').setGen g .running
/-- ready for the i-th item -/
def GenJ (prog : Program) (w : World) (A : Around) (a : Addr) (g n₀ : Nat) (b : Bool) (Yd : Nat → Value → Shared → Prop) (Dn : Shared → Prop) (i : Nat) (s : Shared) : Prop :=
  s.heap.IsGen a g ∧ s.heap.NoLimit ∧ ∃ gs, s.gens[g]? = some gs ∧ gs.Goes (model prog w) A.in1 (endJ Dn) (protoJ n₀ Yd (WkB g b)) (n₀ - i + 1) (.send .none) (s.setGen g .running)
theorem setGen_lt {s : Shared} {g : Nat} {x : GenState} (h : g < s.gens.size) : (s.setGen g x).gens[g]? = some x := by simp [Shared.setGen, h]
theorem all_loopJ (hh : A.handled = none) (hroom : A.in1.depth < recursionLimit)
    (hyd : ∀ i v s, Yd i v s → (∃ b, v = .bool b) ∧ s.heap.IsGen a g ∧ s.heap.NoLimit ∧ g < s.gens.size)
    (hF : ∀ i s gs', gs'.bare = true → i < n₀ → Yd i (.bool false) s → R (.ok (.ret (.bool false))) (s.setGen g gs'))
    (hT : ∀ s h', Dn s → (∀ b o, s.heap.get? b = some o → h'.get? b = some o) → R (.ok (.ret (.bool true))) { s.setGen g .finished with heap := h' }) :
    ∀ (k i : Nat) (s : Shared), n₀ - i = k → i ≤ n₀ → GenJ prog w A.in1 a g n₀ true Yd Dn i s → codeAny (model prog w) A (.builtin "all.loop" ⟨[.ref a], []⟩) R s := by
  intro k
  induction k with
  | zero =>
    intro i s hk hi ⟨hg, hl, gs, hgs, hgo⟩
    refine codeAny_builtin F.entry_all_loop ?_
    rw [Around.under_plainId F.plain_all_loop _]
    show wpAny _ A.in1 (pyNext (.ref a) >>= _) _ _ s
    refine wpAny_bind (wpAny_pyNext_genexpQ (P := fun n _ s₁ => n = 1 ∧ Dn s₁) hh hl hroom hg hgs hgo (fun v s₁ gs' hb hy => ?_) fun s₁ hp h' hk' => ?_)
    · obtain ⟨⟨i', e0, e, _⟩, _⟩ := hy
      omega
    · refine wpAny_bind (wpAny_rule (wpAny_pure ?_))
      exact hT s₁ h' hp.2 hk'
  | succ k ih =>
    intro i s hk hi ⟨hg, hl, gs, hgs, hgo⟩
    have hlt : i < n₀ := by omega
    refine codeAny_builtin F.entry_all_loop ?_
    rw [Around.under_plainId F.plain_all_loop _]
    show wpAny _ A.in1 (pyNext (.ref a) >>= _) _ _ s
    refine wpAny_bind (wpAny_pyNext_genexpQ (P := fun n _ s₁ => n = 1 ∧ Dn s₁) hh hl hroom hg hgs hgo (fun v s₁ gs' hb hy => ?_) fun s₁ hp h' hk' => ?_)
    · obtain ⟨⟨i', _, e, y⟩, hw⟩ := hy
      have ei : i' = i := by omega
      subst ei
      obtain ⟨⟨b, rfl⟩, g1, l1, z1⟩ := hyd _ _ _ y
      refine wpAny_bind (wpAny_holding (wpAny_pure ?_))
      refine wpAny_bind (wpAny_letGo ?_)
      cases b with
      | true =>
        simp only [if_true]
        refine wpAny_pure ⟨plainId_quiet F.plain_all_loop _, ih (i' + 1) _ (by omega) hlt ⟨g1, l1, gs', setGen_lt z1, ?_⟩⟩
        have q := hw ((s₁.setGen g gs').setGen g .running) ⟨rfl, gs', hb, rfl⟩
        rw [hk] at q
        rw [show n₀ - (i' + 1) + 1 = k + 1 by omega]
        exact q
      | false =>
        simp only [Bool.false_eq_true, if_false]
        refine wpAny_bind (wpAny_rule (wpAny_pure ?_))
        exact hF i' s₁ gs' hb hlt y
    · rw [hk] at hp
      exact absurd hp.1 (by omega)
theorem any_loopJ (hh : A.handled = none) (hroom : A.in1.depth < recursionLimit)
    (hyd : ∀ i v s, Yd i v s → (∃ b, v = .bool b) ∧ s.heap.IsGen a g ∧ s.heap.NoLimit ∧ g < s.gens.size)
    (hF : ∀ i s gs', gs'.bare = true → i < n₀ → Yd i (.bool true) s → R (.ok (.ret (.bool true))) (s.setGen g gs'))
    (hT : ∀ s h', Dn s → (∀ b o, s.heap.get? b = some o → h'.get? b = some o) → R (.ok (.ret (.bool false))) { s.setGen g .finished with heap := h' }) :
    ∀ (k i : Nat) (s : Shared), n₀ - i = k → i ≤ n₀ → GenJ prog w A.in1 a g n₀ false Yd Dn i s → codeAny (model prog w) A (.builtin "any.loop" ⟨[.ref a], []⟩) R s := by
  intro k
  induction k with
  | zero =>
    intro i s hk hi ⟨hg, hl, gs, hgs, hgo⟩
    refine codeAny_builtin F.entry_any_loop ?_
    rw [Around.under_plainId F.plain_any_loop _]
    show wpAny _ A.in1 (pyNext (.ref a) >>= _) _ _ s
    refine wpAny_bind (wpAny_pyNext_genexpQ (P := fun n _ s₁ => n = 1 ∧ Dn s₁) hh hl hroom hg hgs hgo (fun v s₁ gs' hb hy => ?_) fun s₁ hp h' hk' => ?_)
    · obtain ⟨⟨i', e0, e, _⟩, _⟩ := hy
      omega
    · refine wpAny_bind (wpAny_rule (wpAny_pure ?_))
      exact hT s₁ h' hp.2 hk'
  | succ k ih =>
    intro i s hk hi ⟨hg, hl, gs, hgs, hgo⟩
    have hlt : i < n₀ := by omega
    refine codeAny_builtin F.entry_any_loop ?_
    rw [Around.under_plainId F.plain_any_loop _]
    show wpAny _ A.in1 (pyNext (.ref a) >>= _) _ _ s
    refine wpAny_bind (wpAny_pyNext_genexpQ (P := fun n _ s₁ => n = 1 ∧ Dn s₁) hh hl hroom hg hgs hgo (fun v s₁ gs' hb hy => ?_) fun s₁ hp h' hk' => ?_)
    · obtain ⟨⟨i', _, e, y⟩, hw⟩ := hy
      have ei : i' = i := by omega
      subst ei
      obtain ⟨⟨b, rfl⟩, g1, l1, z1⟩ := hyd _ _ _ y
      refine wpAny_bind (wpAny_holding (wpAny_pure ?_))
      refine wpAny_bind (wpAny_letGo ?_)
      cases b with
      | false =>
        simp only [Bool.false_eq_true, if_false]
        refine wpAny_pure ⟨plainId_quiet F.plain_any_loop _, ih (i' + 1) _ (by omega) hlt ⟨g1, l1, gs', setGen_lt z1, ?_⟩⟩
        have q := hw ((s₁.setGen g gs').setGen g .running) ⟨rfl, gs', hb, rfl⟩
        rw [hk] at q
        rw [show n₀ - (i' + 1) + 1 = k + 1 by omega]
        exact q
      | true =>
        simp only [if_true]
        refine wpAny_bind (wpAny_rule (wpAny_pure ?_))
        exact hF i' s₁ gs' hb hlt y
    · rw [hk] at hp
      exact absurd hp.1 (by omega)
end
end Gd

set_option Elab.async false
set_option linter.all false
set_option maxRecDepth 100000
set_option maxHeartbeats 4000000
set_option autoImplicit false
/-! Gk: the context of a generator expression's turns. -/
namespace Gd
open PySem PySem.Spec PyProof.Rows L2
/-- the turns of a generator expression that X's code has made: cenv its frame, it the iterator, s4 and H2 what stood before its frame was made -/
def genCx (X : Cx) (A2 : Around) (s4 : Shared) (H2 : Hp) (it : Addr) (cenv : Env) (N : List Str) : Cx where
  prog := X.prog
  w := X.w
  K := X.K
  mg := X.mg
  base := X.base
  A := A2
  N := N
  s_0 := s4
  H_0 := H2
  env := cenv
  outer := X.stack
  stack := cenv :: X.stack
  ex := [it]
  fn := fun _ => false
  calm := true
  pn := []
  xe := fun _ _ => False
theorem over_comp {A : Around} {elt iter : Expr} {x : Str} {px : Pos} {scope : Scope} {pos : Pos} {I : Addr} {cenv : Env} : A.over (cLoop elt iter x px scope pos I cenv) [] = A.deeper cenv := by
  first
    | rfl
    | (obtain ⟨hd, d, fr, gs, u⟩ := A; simp [Around.over, Around.deeper, marksOver, frameCount, unitsOf, envsOf, guardsOf, pushEnvs, pushGuards, Code.envs, Code.env?, Code.isFrame, Code.guards, Code.isGuard, Code.weight, Code.frames, Code.isCreation, Code.isCaller, Code.cUnits])
theorem over_compS {A : Around} {elt iter : Expr} {x : Str} {px : Pos} {scope : Scope} {pos : Pos} {I : Addr} {cenv : Env} : A.over (cStart elt iter x px scope pos I cenv) [] = A.deeper cenv := by
  first
    | rfl
    | (obtain ⟨hd, d, fr, gs, u⟩ := A; simp [Around.over, Around.deeper, marksOver, frameCount, unitsOf, envsOf, guardsOf, pushEnvs, pushGuards, Code.envs, Code.env?, Code.isFrame, Code.guards, Code.isGuard, Code.weight, Code.frames, Code.isCreation, Code.isCaller, Code.cUnits])
section
variable {X : Cx} {pins : List (Addr × Obj)} {σ σ' : L2.St} {H2 : Hp} {s4 : Shared} {A1 : Around} {it : Addr} {cenv : Env} {N : List Str} {h5 : Heap} {g5 : Array GenState} {t5 : Nat} {m0 : Str → Option Value}
theorem gen_inv (I4 : Inv X pins σ H2 s4) (hfr : A1.frames = some X.stack) (hh : A1.handled = none)
    (kd : cenv.scope.kind = .function) (gl : cenv.globals = mainGlobals) (bl : cenv.builtins = builtinsNs) (hL : s4.heap.objs.size ≤ cenv.locals) (hLf : cenv.frame = some cenv.locals)
    (hcl : ∀ y c, cenv.cells.lookup y = some c → X.env.cells.lookup y = some c) (hno : ∀ y, cenv.kindOf y ≠ some .cell) (hfree : ∀ y, cenv.kindOf y = some .free → ∃ c, cenv.cells.lookup y = some c)
    (i1 : it < s4.heap.objs.size) (i2 : H2 it = none) (i3 : X.base.get? it = none) (i4 : it ∉ frs X.stack) (i5 : ∀ y c, X.env.cells.lookup y = some c → c ≠ it)
    (k5 : ∀ b o, s4.heap.get? b = some o → h5.get? b = some o) (hN : h5.Ns cenv.locals m0) (hb : AllBare g5) (hlen : σ'.length = N.length)
    (hcap : ∀ (i : Nat) (y : Str) (v : V), N[i]? = some y → σ'[i]? = some (some v) → cenv.kindOf y = some .free ∧ ∃ j : Nat, X.N[j]? = some y ∧ σ[j]? = some (some v) ∧ (X.env.kindOf y = some .cell ∨ X.env.kindOf y = some .free)) :
    Inv (genCx X (A1.deeper cenv) s4 H2 it cenv N) [] σ' H2 { s4 with heap := h5, gens := g5, toks := t5 } := by
  have e0 := I4.env0
  have memI : ∀ b, b ∈ (genCx X (A1.deeper cenv) s4 H2 it cenv N).ex → b = it := fun b h => by simpa using (show b ∈ [it] from h)
  refine ⟨⟨e0.mod, kd, gl, bl, hL, fun y z c h1 h2 => ?_, fun y hy => ?_, fun y c h _ => (by cases h), fun _ => ?_, Around.frames_deeper hfr, .inr ⟨rfl, hLf⟩, fun b z => ?_, e0.bs, e0.bsz, fun b o h hm => ?_, fun b hm => ?_, e0.funs, e0.frf⟩,
    rfl, hb, Un.kept k5, ⟨m0, hN, fun i y v h1 h2 h3 => ?_⟩, fun y c h => ?_, e0.hok.fresh hL, fun y c h => I4.freeC y c (hcl y c h), fun p hp => absurd (show p ∈ ([] : List (Addr × Obj)) from hp) (by simp), e0.hok.kept k5, hlen⟩
  · exact I4.ok.inj _ _ _ (hcl _ _ h1) (hcl _ _ h2)
  · rcases hy with hy | hy
    · exact absurd hy (hno y)
    · exact hfree y hy
  · first
      | exact hh
      | (show (A1.deeper cenv).handled = none; unfold Around.deeper; exact hh)
  · rw [memI b z]
    exact ⟨Nat.ne_of_lt (Nat.lt_of_lt_of_le i1 hL), fun y c h => i5 y c (hcl y c h)⟩
  · have h' : X.base.get? b = some o := h
    rw [memI b hm, i3] at h'
    cases h'
  · rw [memI b hm]
    exact i4
  · obtain ⟨hf, j, e1, e2, hk⟩ := hcap i y v h1 h2
    obtain ⟨m, _, hl⟩ := I4.loc
    have vis : Vis X.env.scope y := by
      rcases hk with hk | hk
      · exact .inr (.inl hk)
      · exact .inr (.inr hk)
    obtain ⟨u, ru, lo⟩ := hl j y v e1 e2 vis
    refine ⟨u, ru, .inr ⟨.inr hf, ?_⟩⟩
    obtain ⟨c, ec⟩ := hfree y hf
    refine ⟨c, ec, ?_⟩
    rcases lo with ⟨z, _⟩ | ⟨_, c', ec', o, ho, hd⟩
    · rcases hk with hk | hk <;> rw [hk] at z <;> cases z
    · rw [hcl y c ec] at ec'
      cases ec'
      exact ⟨o, k5 _ _ ho, hd⟩
  · obtain ⟨v, o, ho, hd⟩ := I4.cell y c (hcl y c h)
    exact ⟨v, o, k5 _ _ ho, hd⟩
end
/-! ### the turns -/
theorem pin_one {X : Cx} {pins : List (Addr × Obj)} {σ : L2.St} {H : Hp} {s : Shared} {p : Addr} {o : Obj} (I : Inv X pins σ H s) (e : s.heap.get? p = some o) (n : H p = none) (h1 : p ≠ X.env.locals) (h2 : p ∉ X.fs) (h3 : ∀ v, o.data ≠ .cell v) : Inv X ((p, o) :: pins) σ H s :=
  ⟨I.ok, I.os, I.bare, I.base, I.loc, I.cell, I.free, I.freeC, fun q hq => by
    rcases List.mem_append.mp hq with hq | hq
    · exact I.pin q (List.mem_append_left _ hq)
    · rcases List.mem_cons.mp hq with hq | hq
      · rw [hq]
        exact ⟨e, n, h1, h2, h3⟩
      · exact I.pin q (List.mem_append_right _ hq), I.hok, I.len⟩
theorem un_pin {X : Cx} {pins : List (Addr × Obj)} {σ : L2.St} {H : Hp} {s : Shared} {p : Addr × Obj} (I : Inv X (p :: pins) σ H s) : Inv X pins σ H s :=
  ⟨I.ok, I.os, I.bare, I.base, I.loc, I.cell, I.free, I.freeC, fun q hq => by
    rcases List.mem_append.mp hq with hq | hq
    · exact I.pin q (List.mem_append_left _ hq)
    · exact I.pin q (List.mem_append_right _ (List.mem_cons_of_mem _ hq)), I.hok, I.len⟩
theorem gens_only {X : Cx} {pins : List (Addr × Obj)} {σ : L2.St} {H : Hp} {s : Shared} {g : Array GenState} (I : Inv X pins σ H s) (h : AllBare g) : Inv X pins σ H { s with gens := g } :=
  ⟨I.ok, I.os, h, I.base, I.loc, I.cell, I.free, I.freeC, I.pin, I.hok, I.len⟩
/-- ready for the i-th turn -/
def TurnJ (XG : Cx) (ag : Addr) (og : Obj) (it a : Addr) (g : Nat) (Js : Nat → L2.St → Hp → Prop) (i : Nat) (s : Shared) : Prop := g < s.gens.size ∧ ∃ σ H, Inv XG [(ag, og)] σ H s ∧ s.heap.IsTupleIter it a i ∧ H it = none ∧ Js i σ H
/-- an item was given -/
def TurnY (XG : Cx) (ag : Addr) (og : Obj) (it a : Addr) (g : Nat) (Ou : Nat → Bool → L2.St → Hp → Prop) (i : Nat) (y : Value) (s : Shared) : Prop := g < s.gens.size ∧ ∃ σ H b, y = .bool b ∧ Inv XG [(ag, og)] σ H s ∧ s.heap.IsTupleIter it a (i + 1) ∧ H it = none ∧ Ou i b σ H
section
variable {XG : Cx} {ag it a : Addr} {og : Obj} {Js : Nat → L2.St → Hp → Prop} {Ou : Nat → Bool → L2.St → Hp → Prop} {elt : Expr} {x : Str} {px : Pos} {tg : TG} {tel : TE} {xs : List V} {g : Nat}
theorem turn_item (hc : XG.calm = true) (hx : XG.xe = fun _ _ => False) (hpg : PG XG (.Name x px) tg) (hel : PE XG elt tel) (e1 : it ∈ XG.ex) (e2 : it ≠ XG.env.locals) (e3 : ∀ y c, XG.env.cells.lookup y = some c → c ≠ it) (e4 : it ∉ XG.fs) (e5 : ag ≠ it)  (ep : XG.pn = [])
    (hq : ∀ i σ H, Js i σ H → SqT XG.K H a xs)
    (hs : ∀ i v σ H, xs[i]? = some v → Js i σ H → tg v σ H fun σ' H' => tel σ' H' fun y H2 => ∃ b, y = .bl b ∧ Ou i b σ' H2)
    (i : Nat) (s : Shared) (hi : i < xs.length) (hj : TurnJ XG ag og it a g Js i s) :
    wpAny (model XG.prog XG.w) XG.A (pyNext (.ref it)) (fun ov s₁ => ∃ v, ov = some v ∧ wpAny (model XG.prog XG.w) XG.A (assign (.Name x px) XG.env v) (fun _ s₂ =>
      wpAny (model XG.prog XG.w) XG.A (eval elt XG.env) (fun y s₃ => TurnY XG ag og it a g Ou i y s₃) (fun _ _ => False) s₂) (fun _ _ => False) s₁) (fun _ _ => False) s := by
  obtain ⟨hgs, σ, H, I, st, nit, js⟩ := hj
  have hsq := hq i σ H js
  obtain ⟨its, rv, p, hz⟩ := I.tuple hsq
  have hxi : xs[i]? = some xs[i] := List.getElem?_eq_getElem hi
  obtain ⟨u, hu, ru⟩ := rv.get hxi
  refine wpAny_pyNext_tuple_item st (show s.heap.IsTuple a its.toArray from p) (x := u) (by simpa using hu) fun h' st' sb => ?_
  have I1 : Inv XG [(ag, og)] σ H { s with heap := h' } := I.turned (t' := s.toks) (fun b o hb e => (sb.2 b hb).trans e) nit e2 (.inl e1) e3 (fun q hq => by
    rw [ep] at hq
    have : q = (ag, og) := by simpa using hq
    rw [this]
    exact e5)
  obtain ⟨oi, ho, hcl, hd⟩ := id st'
  have I2 := pin_one I1 ho nit e2 e4 (fun v z => by rw [hd] at z; cases z)
  refine ⟨u, rfl, GenW.wpAny_gsz (n := g + 1) hgs (wpAny_mono (hpg.run _ _ σ H xs[i] u _ I2 ru (hs i _ σ H hxi js)) (fun _ s₂ h hg2 => ?_) fun _ _ h _ => by rw [hx] at h; exact h)⟩
  obtain ⟨σ', H', I3, q⟩ := h
  refine GenW.wpAny_gsz (n := g + 1) hg2 (wpAny_mono (hel.run _ _ σ' H' _ I3 q) (fun y s₃ h hg3 => ?_) fun _ _ h _ => by rw [hx] at h; exact h)
  obtain ⟨v, H2, I4, rv2, b, rfl, ou⟩ := h
  have pn := I4.pin (it, oi) (by rw [ep]; simp)
  exact ⟨hg3, σ', H2, b, rv2, un_pin I4, ⟨oi, pn.1, hcl, hd⟩, pn.2.1, ou⟩
theorem turn_done (hc : XG.calm = true) (e1 : it ∈ XG.ex) (e2 : it ≠ XG.env.locals) (e3 : ∀ y c, XG.env.cells.lookup y = some c → c ≠ it) (e5 : ag ≠ it) (ep : XG.pn = []) (hq : ∀ i σ H, Js i σ H → SqT XG.K H a xs) (s : Shared) (hj : TurnJ XG ag og it a g Js xs.length s) :
    wpAny (model XG.prog XG.w) XG.A (pyNext (.ref it)) (fun ov s₁ => ov = none ∧ g < s₁.gens.size ∧ ∃ σ H, Inv XG [(ag, og)] σ H s₁ ∧ H it = none ∧ Js xs.length σ H) (fun _ _ => False) s := by
  obtain ⟨hgs, σ, H, I, st, nit, js⟩ := hj
  obtain ⟨its, rv, p, hz⟩ := I.tuple (hq _ σ H js)
  have hl := rv.length
  exact wpAny_pyNext_tuple_end (I.ok.hd hc) st (show s.heap.IsTuple a its.toArray from p) (by simp; omega) fun h' eb => ⟨rfl, hgs, σ, H, I.turned (t' := s.toks) (fun b o hb e => eb b o hb e) nit e2 (.inl e1) e3 (fun q hq => by
    rw [ep] at hq
    have : q = (ag, og) := by simpa using hq
    rw [this]
    exact e5), nit, js⟩
theorem turn_wake {b : Bool} (hw : ∀ i σ H, Ou i b σ H → Js (i + 1) σ H) (i : Nat) (y : Value) (s s'' : Shared) (hy : TurnY XG ag og it a g Ou i y s) (w : WkB g b y s s'') : TurnJ XG ag og it a g Js (i + 1) s'' := by
  obtain ⟨hgs, σ, H, b', e, I, st, nit, ou⟩ := hy
  obtain ⟨e2, gs', hb, rfl⟩ := w
  rw [e] at e2
  cases e2
  have J : Inv XG [(ag, og)] σ H { s with gens := ((s.setGen g gs').setGen g .running).gens } := gens_only I (allBare_setGen (allBare_setGen I.bare hb) rfl)
  refine ⟨?_, σ, H, J, st, nit, hw i σ H ou⟩
  simpa [Shared.setGen] using hgs
end
end Gd

set_option Elab.async false
set_option linter.all false
set_option maxRecDepth 100000
set_option maxHeartbeats 4000000
set_option autoImplicit false
/-! Gm: a generator expression over a tuple is made. -/
namespace Gd
open PySem PySem.Spec PyProof.Rows L2
/-- made: s4 stood before its frame, s5 behind; it the iterator over the tuple at a, ag the generator -/
structure GMade (X : Cx) (pins : List (Addr × Obj)) (σ : L2.St) (H2 : Hp) (s4 s5 : Shared) (it a : Addr) (cenv : Env) (ag : Addr) (c0 : Code) : Prop where
  I4 : Inv X pins σ H2 s4
  i1 : it < s4.heap.objs.size
  i2 : H2 it = none
  i3 : X.base.get? it = none
  i4 : it ∉ frs X.stack
  i5 : ∀ y c, X.env.cells.lookup y = some c → c ≠ it
  i6 : X.s_0.heap.objs.size ≤ it
  i7 : it ≠ X.env.locals
  i8 : ∀ p ∈ X.pn ++ pins, p.1 ≠ it
  l4 : cenv.locals = s4.heap.objs.size
  k5 : ∀ b o, s4.heap.get? b = some o → s5.heap.get? b = some o
  hN : ∃ m0, s5.heap.Ns cenv.locals m0
  e5 : ∃ h5 t5, s5 = { s4 with heap := h5, gens := s4.gens.push (.fresh c0), toks := t5 }
  isg : s5.heap.IsGen ag s4.gens.size
  agn : s4.heap.objs.size < ag
  st : s5.heap.IsTupleIter it a 0
section
variable {X : Cx} {pins : List (Addr × Obj)} {σ : L2.St} {H : Hp} {s : Shared}
theorem gen_tup {c P : Addr} {elt iter : Expr} {x : Str} {px gpos : Pos} {scope : Scope} {te : TE} {k : Nat} {Q' : Value → Shared → Prop} {Rd : Addr → List V → Hp → Prop}
    (hr : Room k X.A) (TB : GxR.TabB X.base X.mg c P) (hcode : X.env.code = .ref c) (S : GxR.GenS X.env scope x) (hi : PE X iter te)
    (hs : ∀ v, genFold iter X.env v = pure v) (I : Inv X pins σ H s) (h : te σ H fun v H1 => ∃ a xs, v = .ref a ∧ SqT X.K H1 a xs ∧ GxR.TabG H1 P ∧ Rd a xs H1)
    (hQ : ∀ a xs H1 H2 s4 s5 it code bi ag, Rd a xs H1 → SqT X.K H1 a xs → GxR.Tabbed P H1 H2 → bi = builtinsNs →
      GMade X pins σ H2 s4 s5 it a (genEnv scope (cloFrom X.env.cells scope.names []) s4.heap.objs.size code bi X.env) ag (cStart elt iter x px scope gpos it (genEnv scope (cloFrom X.env.cells scope.names []) s4.heap.objs.size code bi X.env)) → Q' (.ref ag) s5) :
    wpAny (model X.prog X.w) X.A (eval (.GeneratorExp elt [⟨.Name x px, iter, [], 0⟩] scope gpos) X.env) Q' X.xe s := by
  refine wpAny_GeneratorExp_make S.co (closure_ok S.free) S.cell S.dot S.kind (by have := hr.dp; omega) ?_ hs
  refine thn (hi.run pins s σ H _ I h) fun xv s1 ⟨v, H1, I1, r1, q1⟩ => ?_
  obtain ⟨a, xs, rfl, hsq, ⟨ps, hP, ht⟩, q1⟩ := q1
  obtain rfl : xv = Value.ref a := r1
  obtain ⟨its, rv, ptup, hz⟩ := I1.tuple hsq
  refine wpAny_pyIter_tuple (show s1.heap.IsTuple a its.toArray from ptup) ?_
  generalize ho : ({ cls := .type "tuple_iterator", data := .fields #[.ref a, .int 0 0] } : Obj) = o
  have hPs : s1.heap.get? P = some { cls := .none, data := .fields ps } := I1.hok P _ hP
  have hPlt : P < s1.heap.objs.size := Heap.lt_size hPs
  have hP2 : (s1.heap.push o).get? P = some { cls := .none, data := .fields ps } := Heap.get?_push_of_some _ hPs
  have cd : PySem.W.CodeHd (s1.heap.push o) c P := TB.code.keeps fun b u e => Heap.get?_push_of_some _ (I1.bk b u e)
  have lim2 : (s1.heap.push o).NoLimit := I1.nolimit.push o
  have cont : ∀ (code : Value) (h3 : Heap) (tk : Nat) (ps' : Array Value), Heap.ExtBut P (s1.heap.push o) h3 → (s1.heap.push o).objs.size ≤ h3.objs.size → h3.get? P = some { cls := .none, data := .fields ps' } → (∃ more, ps' = ps ++ more) → TriplesOk ps'.toList →
      wpAny (model X.prog X.w) X.A (builtinsFor X.env.globals X.env.builtins) (fun bi s₄ => ∀ h', h'.Ns s₄.heap.objs.size (fun y => if y = ".0" then some (Value.ref s1.heap.objs.size) else none) → Heap.SameBut s₄.heap.objs.size (s₄.heap.push { cls := .type "frame", data := .dict #[] }) h' →
          Q' (.ref h'.objs.size) { s₄ with
            gens := s₄.gens.push (.fresh (.compStart (.GeneratorExp elt [⟨.Name x px, iter, [], 0⟩] scope gpos) 0 (Value.ref s1.heap.objs.size) .none (genEnv scope (cloFrom X.env.cells scope.names []) s₄.heap.objs.size code bi X.env))),
            toks := s₄.toks + 1 + 1 + 1,
            heap := h'.push { cls := .type "generator", data := .fields #[.int s₄.gens.size 0, .str "<genexpr>" (s₄.toks + 1), .str (X.env.qual ++ "<genexpr>") (s₄.toks + 1 + 1)] } }) X.xe { s1 with heap := h3, toks := tk } := by
    intro code h3 tk ps' hx hsz hP3 hmore ht3
    obtain ⟨bm, ob, e1, e2, e3, e4, e5, e6, e7, e8⟩ := TB.bm
    have sz2 : (s1.heap.push o).objs.size = s1.heap.objs.size + 1 := Heap.size_push ..
    have keep3 : ∀ b u, b ≠ P → s1.heap.get? b = some u → h3.get? b = some u := fun b u hb e => hx b u hb (Heap.get?_push_of_some _ e)
    refine wpAny_builtinsFor (m := X.mg) (by rw [I1.ok.glob]; exact ((I1.mod.glob.keeps I1.bk).push o).extBut hx TB.gP) e1 e2 (keep3 _ _ e4 (I1.bk _ _ e5)) e6 e7 e8 ?_
    intro h' hn' hs'
    obtain ⟨more, em⟩ := hmore
    have I4 : Inv X pins σ (upd H1 P (.tbl (ps ++ more))) { s1 with heap := h3, gens := s1.gens, drawn := s1.drawn, toks := tk } := GxR.inv_tab I1 hP keep3 (by rw [← em]; exact hP3) I1.bare
    have hit3 : h3.get? s1.heap.objs.size = some o := hx _ _ (Nat.ne_of_gt hPlt) (Heap.get?_push_size _ (by rw [← ho]; rfl))
    have lt3 : s1.heap.objs.size < h3.objs.size := Heap.lt_size hit3
    have k5 : ∀ b u, h3.get? b = some u → (h'.push { cls := .type "generator", data := .fields #[.int s1.gens.size 0, .str "<genexpr>" (tk + 1), .str (X.env.qual ++ "<genexpr>") (tk + 1 + 1)] }).get? b = some u := fun b u e =>
      Heap.get?_push_of_some _ (hs'.extBut b u (Nat.ne_of_lt (Heap.lt_size e)) (Heap.get?_push_of_some _ e))
    have lt5 : h3.objs.size < h'.objs.size := by
      obtain ⟨oL, _, _, eL, _⟩ := hn'
      exact Heap.lt_size eL
    refine hQ a xs H1 (upd H1 P (.tbl (ps ++ more))) _ _ s1.heap.objs.size code builtinsNs _ q1 hsq ⟨⟨ps ++ more, upd_same, by rw [← em]; exact ht3⟩, fun b hb => upd_ne hb⟩ rfl
      { I4 := I4, i1 := lt3, i2 := ?_, i3 := ?_, i4 := fun hm => ?_, i5 := fun y c' e => ?_, i6 := I1.sz, i7 := ?_, i8 := fun p hp => ?_, l4 := rfl, k5 := k5, hN := ⟨_, hn'.push _⟩, e5 := ⟨_, _, rfl⟩, isg := ?_, agn := lt5, st := ?_ }
    · rw [upd_ne (Nat.ne_of_gt hPlt)]
      exact I1.hok.fresh (Nat.le_refl _)
    · cases q : X.base.get? s1.heap.objs.size with
      | none => rfl
      | some u => exact absurd (Heap.lt_size (I1.bk _ _ q)) (Nat.lt_irrefl _)
    · obtain ⟨_, u, e, _⟩ := I1.stack.mem hm
      exact absurd (Heap.lt_size e) (Nat.lt_irrefl _)
    · obtain ⟨v, u, e', _⟩ := I1.cell y c' e
      exact Nat.ne_of_lt (Heap.lt_size e')
    · obtain ⟨m, ⟨u, _, _, e', _⟩, _⟩ := I1.loc
      exact Nat.ne_of_gt (Heap.lt_size e')
    · exact Nat.ne_of_lt (Heap.lt_size (I1.pin p hp).1)
    · exact ⟨_, _, _, Heap.get?_push_size _ rfl, rfl, rfl, rfl⟩
    · exact ⟨o, k5 _ _ hit3, by rw [← ho], by rw [← ho]; rfl⟩
  refine ⟨lim2, ?_⟩
  cases hf : codeAmong gpos ps.toList with
  | none =>
    refine wpAny_genexprCodeX hcode (cd.code hP2 ht) (cd.tab hP2) hf fun c' h' tk hx hge hlt hco' _ htab' _ => ?_
    obtain ⟨o1, vs, f1, tf, fl, tg, inF, tx, tt, op, _, _, _, _, _, _, _, _, _, htr, _⟩ := hco'
    exact cont _ h' tk _ hx (Nat.le_trans hge (Nat.le_of_lt hlt)) htab'.2 ⟨_, rfl⟩ htr
  | some cv =>
    refine wpAny_genexprCode_hit hcode (cd.code hP2 ht) hf ?_
    exact cont cv (s1.heap.push o) s1.toks ps (Heap.ExtBut.refl _ _) (Nat.le_refl _) hP2 ⟨#[], by simp⟩ ht
end
end Gd

set_option Elab.async false
set_option linter.all false
set_option maxRecDepth 100000
set_option maxHeartbeats 4000000
set_option autoImplicit false
/-! Gn: all, any of a generator expression over a tuple whose element is any expression. -/
namespace Gd
open PySem PySem.Spec PyProof.Rows L2
section
variable {X : Cx} {pins : List (Addr × Obj)} {σ σ' : L2.St} {H2 : Hp} {s4 s5 : Shared} {it a ag : Addr} {cenv : Env} {N : List Str} {elt iter : Expr} {x : Str} {px gpos : Pos} {scope : Scope} {tg : TG} {tel : TE} {xs : List V} {k : Nat} {b0 : Bool} {Q : VK}
  {Js : Nat → L2.St → Hp → Prop} {Ou : Nat → Bool → L2.St → Hp → Prop}
/-- what the reading tells of the turns -/
structure TurnsOk (K : PySem.W.Frag) (b0 : Bool) (tg : TG) (tel : TE) (a : Addr) (xs : List V) (Js : Nat → L2.St → Hp → Prop) (Ou : Nat → Bool → L2.St → Hp → Prop) (Q : VK) : Prop where
  seq : ∀ i σ H, Js i σ H → SqT K H a xs
  turn : ∀ i v σ H, xs[i]? = some v → Js i σ H → tg v σ H fun σ' H' => tel σ' H' fun y H2 => ∃ b, y = .bl b ∧ Ou i b σ' H2
  next : ∀ i σ H, Ou i b0 σ H → Js (i + 1) σ H
  out : ∀ i σ H, i < xs.length → Ou i (!b0) σ H → Q (.bl (!b0)) H
  fin : ∀ σ H, Js xs.length σ H → Q (.bl b0) H
theorem gen_back (M : GMade X pins σ H2 s4 s5 it a cenv ag (cStart elt iter x px scope gpos it cenv)) {A2 : Around} {ps : List (Addr × Obj)} {σ1 : L2.St} {H1 : Hp} {s : Shared} {g : Array GenState} {v : V} {u : Value} (I : Inv (genCx X A2 s4 H2 it cenv N) ps σ1 H1 s) (hb : AllBare g) (r : RelV v u) (q : Q v H1) :
    EP X pins σ Q u { s with gens := g } := by
  refine ⟨v, H1, M.I4.call' (ch := [it]) I.os I.base I.hok hb (fun b hm => ?_), r, q⟩
  have e : b = it := by simpa using hm
  rw [e]
  exact ⟨.inr M.i6, M.i7, M.i5, M.i8⟩
theorem gen_goesJ (hr : Room k X.A) (M : GMade X pins σ H2 s4 s5 it a cenv ag (cStart elt iter x px scope gpos it cenv)) (hco : cenv.scope.isCoroutine = false) (kd : cenv.scope.kind = .function) (gl : cenv.globals = mainGlobals) (bl : cenv.builtins = builtinsNs) (hLf : cenv.frame = some cenv.locals)
    (hcl : ∀ y c, cenv.cells.lookup y = some c → X.env.cells.lookup y = some c) (hno : ∀ y, cenv.kindOf y ≠ some .cell) (hfree : ∀ y, cenv.kindOf y = some .free → ∃ c, cenv.cells.lookup y = some c) (hlen : σ'.length = N.length)
    (hcap : ∀ (i : Nat) (y : Str) (v : V), N[i]? = some y → σ'[i]? = some (some v) → cenv.kindOf y = some .free ∧ ∃ j : Nat, X.N[j]? = some y ∧ σ[j]? = some (some v) ∧ (X.env.kindOf y = some .cell ∨ X.env.kindOf y = some .free))
    (hpg : PG (genCx X (X.A.in1.in1.deeper cenv) s4 H2 it cenv N) (.Name x px) tg) (hel : PE (genCx X (X.A.in1.in1.deeper cenv) s4 H2 it cenv N) elt tel) (T : TurnsOk X.K b0 tg tel a xs Js Ou Q) (j0 : Js 0 σ' H2) :
    ∃ og, GenJ X.prog X.w X.A.in1 ag s4.gens.size xs.length b0 (TurnY (genCx X (X.A.in1.in1.deeper cenv) s4 H2 it cenv N) ag og it a s4.gens.size Ou)
      (fun s => s4.gens.size < s.gens.size ∧ ∃ σ1 H1, Inv (genCx X (X.A.in1.in1.deeper cenv) s4 H2 it cenv N) [(ag, og)] σ1 H1 s ∧ H1 it = none ∧ Js xs.length σ1 H1) 0 s5 ∧
      og.cls = .type "generator" ∧ (∃ nm qn, og.data = .fields #[.int s4.gens.size 0, nm, qn]) ∧ og.slots = #[] := by
  obtain ⟨og, nm, qn, oe, oc, od, osl⟩ := id M.isg
  refine ⟨og, ⟨M.isg, M.I4.nolimit.keeps M.k5, .fresh (cStart elt iter x px scope gpos it cenv), ?_, rfl, ?_⟩, oc, ⟨nm, qn, od⟩, osl⟩
  · obtain ⟨h5, t5, e⟩ := M.e5
    rw [e]
    exact Array.getElem?_push_size
  have hL : s4.heap.objs.size ≤ cenv.locals := Nat.le_of_eq M.l4.symm
  have start : TurnJ (genCx X (X.A.in1.in1.deeper cenv) s4 H2 it cenv N) ag og it a s4.gens.size Js 0 (s5.setGen s4.gens.size .running) := by
    obtain ⟨m0, hN⟩ := M.hN
    obtain ⟨h5, t5, e⟩ := M.e5
    have k5 := M.k5
    have st := M.st
    rw [e] at k5 hN oe st ⊢
    have I5 := gen_inv (g5 := (({ s4 with heap := h5, gens := s4.gens.push (.fresh (cStart elt iter x px scope gpos it cenv)), toks := t5 } : Shared).setGen s4.gens.size .running).gens) (t5 := t5) (σ' := σ') (A1 := X.A.in1.in1) M.I4 M.I4.ok.frames hr.hd kd gl bl hL hLf hcl hno hfree M.i1 M.i2 M.i3 M.i4 M.i5 k5 hN
      (allBare_setGen (M.I4.bare.push rfl) rfl) hlen hcap
    refine ⟨by simp [Shared.setGen], σ', H2, pin_one I5 oe (M.I4.hok.fresh (Nat.le_of_lt M.agn)) (fun z => ?_) (fun hm => ?_) (fun v z => by rw [od] at z; cases z), st, M.i2, j0⟩
    · have z' : ag = cenv.locals := z
      rw [M.l4] at z'
      exact absurd M.agn (by rw [z']; exact Nat.lt_irrefl _)
    · obtain ⟨_, u, e', _⟩ := M.I4.stack.mem (show ag ∈ frs X.stack from hm)
      exact absurd (Nat.lt_trans (Heap.lt_size e') M.agn) (Nat.lt_irrefl _)
  have ne : ag ≠ it := fun z => by
    have q := M.agn
    rw [z] at q
    exact absurd (Nat.lt_trans q M.i1) (Nat.lt_irrefl _)
  have cellne : ∀ y c, cenv.cells.lookup y = some c → c ≠ it := fun y c e => M.i5 y c (hcl y c e)
  have locne : it ≠ cenv.locals := by
    rw [M.l4]
    exact Nat.ne_of_lt M.i1
  refine seg_startJ (J := TurnJ (genCx X (X.A.in1.in1.deeper cenv) s4 H2 it cenv N) ag og it a s4.gens.size Js) hco (fun s hj => ?_) (fun s Q' hj hq => ?_) _ start
  · refine seg_loopJ (J := TurnJ (genCx X (X.A.in1.in1.deeper cenv) s4 H2 it cenv N) ag og it a s4.gens.size Js) hco (fun i s hi hj => ?_) (fun s hj => ?_) (fun i y s s'' _ hy hw => turn_wake T.next i y s s'' hy hw) xs.length 0 s s (Nat.sub_zero _) (Nat.zero_le _) hj
    · rw [over_comp]
      exact turn_item (XG := genCx X (X.A.in1.in1.deeper cenv) s4 H2 it cenv N) rfl rfl hpg hel (by show it ∈ [it]; simp) locne cellne M.i4 ne rfl T.seq T.turn i s hi hj
    · rw [over_comp]
      exact turn_done (XG := genCx X (X.A.in1.in1.deeper cenv) s4 H2 it cenv N) rfl (by show it ∈ [it]; simp) locne cellne ne rfl T.seq s hj
  · obtain ⟨_, σ1, H1, I, st, _⟩ := hj
    exact wpAny_pyIter_tupleiter st hq
/-- hyd of the consumers -/
theorem turnY_is {XG : Cx} {og : Obj} {g : Nat} (c1 : og.cls = .type "generator") (c2 : ∃ nm qn, og.data = .fields #[.int g 0, nm, qn]) (c3 : og.slots = #[]) (ep : XG.pn = []) (i : Nat) (v : Value) (s : Shared) (h : TurnY XG ag og it a g Ou i v s) :
    (∃ b, v = .bool b) ∧ s.heap.IsGen ag g ∧ s.heap.NoLimit ∧ g < s.gens.size := by
  obtain ⟨hg, σ1, H1, b, e, I, _, _, _⟩ := h
  obtain ⟨nm, qn, c2⟩ := c2
  have pn := I.pin (ag, og) (by rw [ep]; simp)
  exact ⟨⟨b, e⟩, ⟨og, nm, qn, pn.1, c1, c2, c3⟩, I.nolimit, hg⟩
theorem call_all_gen (hr : Room k X.A) (M : GMade X pins σ H2 s4 s5 it a cenv ag (cStart elt iter x px scope gpos it cenv)) (hco : cenv.scope.isCoroutine = false) (kd : cenv.scope.kind = .function) (gl : cenv.globals = mainGlobals) (bl : cenv.builtins = builtinsNs) (hLf : cenv.frame = some cenv.locals)
    (hcl : ∀ y c, cenv.cells.lookup y = some c → X.env.cells.lookup y = some c) (hno : ∀ y, cenv.kindOf y ≠ some .cell) (hfree : ∀ y, cenv.kindOf y = some .free → ∃ c, cenv.cells.lookup y = some c) (hlen : σ'.length = N.length)
    (hcap : ∀ (i : Nat) (y : Str) (v : V), N[i]? = some y → σ'[i]? = some (some v) → cenv.kindOf y = some .free ∧ ∃ j : Nat, X.N[j]? = some y ∧ σ[j]? = some (some v) ∧ (X.env.kindOf y = some .cell ∨ X.env.kindOf y = some .free))
    (hpg : PG (genCx X (X.A.in1.in1.deeper cenv) s4 H2 it cenv N) (.Name x px) tg) (hel : PE (genCx X (X.A.in1.in1.deeper cenv) s4 H2 it cenv N) elt tel) (T : TurnsOk X.K true tg tel a xs Js Ou Q) (j0 : Js 0 σ' H2) :
    wpAny (model X.prog X.w) X.A (call (.builtin "all") [.ref ag]) (EP X pins σ Q) X.xe s5 := by
  obtain ⟨og, G, c1, c2, c3⟩ := gen_goesJ hr M hco kd gl bl hLf hcl hno hfree hlen hcap hpg hel T j0
  refine call_function_tree F.kind_all F.plain_all F.entry_all (F.args_all1 _) ?_
  unfold Builtin.«all»
  refine wpAny_bind (m := oneArg "all" _) (wpAny_pure ?_)
  refine wpAny_bind (wpAny_pyIter_gen M.isg ?_)
  refine wpAny_pure ⟨plainId_quiet F.plain_all_loop _, all_loopJ (hr.hd) (by have := hr.dp; show X.A.depth < _; omega) (fun i v s h => turnY_is c1 c2 c3 rfl i v s h) (fun i s gs' hb hi h => ?_) (fun s h' d hk => ?_) xs.length 0 s5 (Nat.sub_zero _) (Nat.zero_le _) G⟩
  · obtain ⟨_, σ1, H1, b, e, I, _, _, ou⟩ := h
    cases e
    exact gen_back M I (allBare_setGen I.bare hb) (v := .bl false) rfl (T.out i σ1 H1 hi ou)
  · obtain ⟨_, σ1, H1, I, _, js⟩ := d
    exact gen_back M (I.kept (t' := s.toks) hk) (allBare_setGen I.bare rfl) (v := .bl true) rfl (T.fin σ1 H1 js)
theorem call_any_gen (hr : Room k X.A) (M : GMade X pins σ H2 s4 s5 it a cenv ag (cStart elt iter x px scope gpos it cenv)) (hco : cenv.scope.isCoroutine = false) (kd : cenv.scope.kind = .function) (gl : cenv.globals = mainGlobals) (bl : cenv.builtins = builtinsNs) (hLf : cenv.frame = some cenv.locals)
    (hcl : ∀ y c, cenv.cells.lookup y = some c → X.env.cells.lookup y = some c) (hno : ∀ y, cenv.kindOf y ≠ some .cell) (hfree : ∀ y, cenv.kindOf y = some .free → ∃ c, cenv.cells.lookup y = some c) (hlen : σ'.length = N.length)
    (hcap : ∀ (i : Nat) (y : Str) (v : V), N[i]? = some y → σ'[i]? = some (some v) → cenv.kindOf y = some .free ∧ ∃ j : Nat, X.N[j]? = some y ∧ σ[j]? = some (some v) ∧ (X.env.kindOf y = some .cell ∨ X.env.kindOf y = some .free))
    (hpg : PG (genCx X (X.A.in1.in1.deeper cenv) s4 H2 it cenv N) (.Name x px) tg) (hel : PE (genCx X (X.A.in1.in1.deeper cenv) s4 H2 it cenv N) elt tel) (T : TurnsOk X.K false tg tel a xs Js Ou Q) (j0 : Js 0 σ' H2) :
    wpAny (model X.prog X.w) X.A (call (.builtin "any") [.ref ag]) (EP X pins σ Q) X.xe s5 := by
  obtain ⟨og, G, c1, c2, c3⟩ := gen_goesJ hr M hco kd gl bl hLf hcl hno hfree hlen hcap hpg hel T j0
  refine call_function_tree F.kind_any F.plain_any F.entry_any (F.args_any1 _) ?_
  unfold Builtin.«any»
  refine wpAny_bind (m := oneArg "any" _) (wpAny_pure ?_)
  refine wpAny_bind (wpAny_pyIter_gen M.isg ?_)
  refine wpAny_pure ⟨plainId_quiet F.plain_any_loop _, any_loopJ (hr.hd) (by have := hr.dp; show X.A.depth < _; omega) (fun i v s h => turnY_is c1 c2 c3 rfl i v s h) (fun i s gs' hb hi h => ?_) (fun s h' d hk => ?_) xs.length 0 s5 (Nat.sub_zero _) (Nat.zero_le _) G⟩
  · obtain ⟨_, σ1, H1, b, e, I, _, _, ou⟩ := h
    cases e
    exact gen_back M I (allBare_setGen I.bare hb) (v := .bl true) rfl (T.out i σ1 H1 hi ou)
  · obtain ⟨_, σ1, H1, I, _, js⟩ := d
    exact gen_back M (I.kept (t' := s.toks) hk) (allBare_setGen I.bare rfl) (v := .bl false) rfl (T.fin σ1 H1 js)
end
end Gd

set_option Elab.async false
set_option linter.all false
set_option maxRecDepth 100000
set_option maxHeartbeats 4000000
set_option autoImplicit false
/-! Go: the rules: all(elt for x in e), any(..), e a tuple, elt any expression. -/
namespace Gd
open PySem PySem.Spec PyProof.Rows L2
/-- the reading. caps: where the captured names stand in the def's slots -/
def tAG (K : PySem.W.Frag) (P : Addr) (b0 : Bool) (caps : List Nat) (tg : TG) (te tel : TE) : TE := fun σ H Q => te σ H fun v H1 => ∃ a xs, v = .ref a ∧ SqT K H1 a xs ∧ GxR.TabG H1 P ∧
  ∀ H2, GxR.Tabbed P H1 H2 → ∃ (Js : Nat → L2.St → Hp → Prop) (Ou : Nat → Bool → L2.St → Hp → Prop), Js 0 (none :: caps.map fun j => (σ[j]?).join) H2 ∧ TurnsOk K b0 tg tel a xs Js Ou Q
section
variable {X : Cx} {σ : L2.St}
theorem clo_at {cells : List (Str × Addr)} {names : List (Str × NameKind)} (h : ∀ y ∈ names, y.2 = .free → ∃ c, cells.lookup y.1 = some c) {y : Str} {c : Addr} (e : (cloFrom cells names []).lookup y = some c) : cells.lookup y = some c := by
  rcases cloFrom_mem (PySem.mem_of_lookup e) with z | ⟨z1, z2⟩
  · cases z
  · obtain ⟨c', e'⟩ := h _ z1 rfl
    have e2 : cells.lookup y = some c' := e'
    rw [e2] at z2 ⊢
    rw [z2]
    rfl
theorem clo_has {cells : List (Str × Addr)} {names : List (Str × NameKind)} {y : Str} (e : names.lookup y = some .free) : ∃ c, (cloFrom cells names []).lookup y = some c :=
  mem_lookup (cloFrom_has (PySem.mem_of_lookup e))
/-- the captured names: their slots in the def -/
def Caps (X : Cx) (scope : Scope) (ys : List Str) (caps : List Nat) : Prop := caps.length = ys.length ∧ ∀ (i : Nat) (y : Str), ys[i]? = some y → scope.names.lookup y = some .free ∧ ∃ j : Nat, caps[i]? = some j ∧ X.N[j]? = some y ∧ (X.env.kindOf y = some .cell ∨ X.env.kindOf y = some .free)
theorem caps_ok {scope : Scope} {x : Str} {ys : List Str} {caps : List Nat} (C : Caps X scope ys caps) {C0 : Addr} {code : Value} {bi : Addr} {cl : List (Str × Addr)} (i : Nat) (y : Str) (v : V) (h1 : (x :: ys)[i]? = some y) (h2 : (none :: caps.map fun j => (σ[j]?).join)[i]? = some (some v)) :
    (genEnv scope cl C0 code bi X.env).kindOf y = some .free ∧ ∃ j : Nat, X.N[j]? = some y ∧ σ[j]? = some (some v) ∧ (X.env.kindOf y = some .cell ∨ X.env.kindOf y = some .free) := by
  cases i with
  | zero => simp at h2
  | succ i =>
    rw [List.getElem?_cons_succ] at h1 h2
    obtain ⟨q1, j, q2, q3, q4⟩ := C.2 i y h1
    refine ⟨q1, j, q3, ?_, q4⟩
    rw [List.getElem?_map, q2] at h2
    have e : (σ[j]?).join = some v := Option.some.inj h2
    cases w : σ[j]? with
    | none => rw [w] at e; cases e
    | some u => rw [w] at e; rw [show u = some v from e]
section
variable {c P : Addr} {elt iter : Expr} {x : Str} {px p pos gpos : Pos} {scope : Scope} {te tel : TE} {tg : TG} {k : Nat} {ys : List Str} {caps : List Nat}
theorem pe_allG (hr : Room k X.A) (hg : Gl X "all") (hm : X.mg "all" = none) (hb : bootBuiltins "all" = some (.builtin "all")) (TB : GxR.TabB X.base X.mg c P) (hcode : X.env.code = .ref c) (S : GxR.GenS X.env scope x) (hi : PE X iter te)
    (hs : ∀ v, genFold iter X.env v = pure v) (C : Caps X scope ys caps)
    (hpg : ∀ A2 s4 H2 it L code bi, PG (genCx X A2 s4 H2 it (genEnv scope (cloFrom X.env.cells scope.names []) L code bi X.env) (x :: ys)) (.Name x px) tg)
    (hel : ∀ A2 s4 H2 it L code bi, A2 = X.A.in1.in1.deeper (genEnv scope (cloFrom X.env.cells scope.names []) L code bi X.env) → PE (genCx X A2 s4 H2 it (genEnv scope (cloFrom X.env.cells scope.names []) L code bi X.env) (x :: ys)) elt tel)
    (he : starEach [.GeneratorExp elt [⟨.Name x px, iter, [], 0⟩] scope gpos] X.env = (false, eval (.GeneratorExp elt [⟨.Name x px, iter, [], 0⟩] scope gpos) X.env) :: starEach [] X.env := by rfl) :
    PE X (.Call (.Name "all" p) [.GeneratorExp elt [⟨.Name x px, iter, [], 0⟩] scope gpos] [] pos) (tAG X.K P true caps tg te tel) := by
  refine ⟨fun pins s σ H Q I h => ?_⟩
  refine wpAny_Call_Name_kw (ld_blt I hg hm hb ?_)
  refine PyProof.Rows.callWith_builtin1 ?_ he (by rfl)
  rw [he]
  show wpAny _ _ (spliced ((false, eval (.GeneratorExp elt [⟨.Name x px, iter, [], 0⟩] scope gpos) X.env) :: backTo pos (starEach [] X.env))) _ _ s
  refine Calls.spliced_cons (gen_tup (Rd := fun a xs H1 => ∀ H2, GxR.Tabbed P H1 H2 → ∃ (Js : Nat → L2.St → Hp → Prop) (Ou : Nat → Bool → L2.St → Hp → Prop), Js 0 (none :: caps.map fun j => (σ[j]?).join) H2 ∧ TurnsOk X.K true tg tel a xs Js Ou Q) hr TB hcode S hi hs I h
    fun a xs H1 H2 s4 s5 it code bi ag rd hsq tb hbi M => ?_)
  obtain ⟨Js, Ou, j0, T⟩ := rd H2 tb
  refine Calls.spliced_nil ?_
  refine call_all_gen (N := x :: ys) hr M S.co S.kind I.ok.glob hbi rfl (fun y c e => clo_at S.free e) (fun y e => S.cell _ (PySem.mem_of_lookup e) rfl) (fun y e => clo_has e) (by rw [List.length_cons, List.length_map, List.length_cons, C.1]) (caps_ok C) (hpg _ _ _ _ _ _ _) (hel _ _ _ _ _ _ _ rfl) T j0
theorem pe_anyG (hr : Room k X.A) (hg : Gl X "any") (hm : X.mg "any" = none) (TB : GxR.TabB X.base X.mg c P) (hcode : X.env.code = .ref c) (S : GxR.GenS X.env scope x) (hi : PE X iter te)
    (hs : ∀ v, genFold iter X.env v = pure v) (C : Caps X scope ys caps)
    (hpg : ∀ A2 s4 H2 it L code bi, PG (genCx X A2 s4 H2 it (genEnv scope (cloFrom X.env.cells scope.names []) L code bi X.env) (x :: ys)) (.Name x px) tg)
    (hel : ∀ A2 s4 H2 it L code bi, A2 = X.A.in1.in1.deeper (genEnv scope (cloFrom X.env.cells scope.names []) L code bi X.env) → PE (genCx X A2 s4 H2 it (genEnv scope (cloFrom X.env.cells scope.names []) L code bi X.env) (x :: ys)) elt tel)
    (he : starEach [.GeneratorExp elt [⟨.Name x px, iter, [], 0⟩] scope gpos] X.env = (false, eval (.GeneratorExp elt [⟨.Name x px, iter, [], 0⟩] scope gpos) X.env) :: starEach [] X.env := by rfl) :
    PE X (.Call (.Name "any" p) [.GeneratorExp elt [⟨.Name x px, iter, [], 0⟩] scope gpos] [] pos) (tAG X.K P false caps tg te tel) := by
  refine ⟨fun pins s σ H Q I h => ?_⟩
  refine wpAny_Call_Name_kw (ld_blt I hg hm boot_any ?_)
  refine PyProof.Rows.callWith_builtin1 ?_ he (by rfl)
  rw [he]
  show wpAny _ _ (spliced ((false, eval (.GeneratorExp elt [⟨.Name x px, iter, [], 0⟩] scope gpos) X.env) :: backTo pos (starEach [] X.env))) _ _ s
  refine Calls.spliced_cons (gen_tup (Rd := fun a xs H1 => ∀ H2, GxR.Tabbed P H1 H2 → ∃ (Js : Nat → L2.St → Hp → Prop) (Ou : Nat → Bool → L2.St → Hp → Prop), Js 0 (none :: caps.map fun j => (σ[j]?).join) H2 ∧ TurnsOk X.K false tg tel a xs Js Ou Q) hr TB hcode S hi hs I h
    fun a xs H1 H2 s4 s5 it code bi ag rd hsq tb hbi M => ?_)
  obtain ⟨Js, Ou, j0, T⟩ := rd H2 tb
  refine Calls.spliced_nil ?_
  refine call_any_gen (N := x :: ys) hr M S.co S.kind I.ok.glob hbi rfl (fun y c e => clo_at S.free e) (fun y e => S.cell _ (PySem.mem_of_lookup e) rfl) (fun y e => clo_has e) (by rw [List.length_cons, List.length_map, List.length_cons, C.1]) (caps_ok C) (hpg _ _ _ _ _ _ _) (hel _ _ _ _ _ _ _ rfl) T j0
end
end
end Gd

set_option Elab.async false
set_option linter.all false
set_option maxRecDepth 100000
set_option maxHeartbeats 2000000
set_option autoImplicit false
/-! Df: expressions by data. -/
namespace Dl
open PySem PySem.Spec PyProof.Rows L2 Gd
/-! ### what they come to -/
def asB : PyData → M Bool
  | .bool b => .ret b
  | _ => .fail
def mCon (d : PyData) : List Cell → M PyData := fun _ => .ret d
def mVar (i : Nat) : List Cell → M PyData := fun Γ => match Γ[i]? with
  | some (.im d) => .ret d
  | _ => .fail
def mPk (i : Nat) : List Cell → M PyData := fun Γ => match Γ[i]? with
  | some (.im d) => .ret d
  | some (.ow ds) => .ret (.list ds)
  | _ => .fail
def mUn (o : PyData → M PyData) (f : List Cell → M PyData) : List Cell → M PyData := fun Γ => (f Γ).bind o
def mOp (o : PyData → PyData → M PyData) (f g : List Cell → M PyData) : List Cell → M PyData := fun Γ => (f Γ).bind fun a => (g Γ).bind fun b => o a b
def mNil : List Cell → M (List PyData) := fun _ => .ret []
def mCons (f : List Cell → M PyData) (g : List Cell → M (List PyData)) : List Cell → M (List PyData) := fun Γ => (f Γ).bind fun a => (g Γ).bind fun b => .ret (a :: b)
def mTup (f : List Cell → M (List PyData)) : List Cell → M PyData := fun Γ => (f Γ).bind fun ds => (M.gd (ds.length ≤ 1000)).bind fun _ => .ret (.tuple ds)
def mLst (f : List Cell → M (List PyData)) : List Cell → M PyData := fun Γ => (f Γ).bind fun ds => (M.gd (ds.length ≤ 1000)).bind fun _ => .ret (.list ds)
def mFn (o : List PyData → M PyData) (f : List Cell → M (List PyData)) : List Cell → M PyData := fun Γ => (f Γ).bind o
def mAnd (f g : List Cell → M PyData) : List Cell → M PyData := fun Γ => (f Γ).bind fun a => (asB a).bind fun b => if b then g Γ else .ret (.bool false)
def mOr (f g : List Cell → M PyData) : List Cell → M PyData := fun Γ => (f Γ).bind fun a => (asB a).bind fun b => if b then .ret (.bool true) else g Γ
def mNot (f : List Cell → M PyData) : List Cell → M PyData := fun Γ => (f Γ).bind fun a => (asB a).bind fun b => .ret (.bool !b)
def mIf (t : List Cell → M Bool) (f g : List Cell → M PyData) : List Cell → M PyData := fun Γ => (t Γ).bind fun b => if b then f Γ else g Γ
def mChn (o o' : PyData → PyData → M PyData) (f g h : List Cell → M PyData) : List Cell → M PyData := fun Γ => (f Γ).bind fun a => (g Γ).bind fun b => (o a b).bind fun z => (asB z).bind fun k => if k then (h Γ).bind fun d => o' b d else .ret (.bool false)
def tVal (f : List Cell → M PyData) : List Cell → M Bool := fun Γ => (f Γ).bind asB
def tAndM (t u : List Cell → M Bool) : List Cell → M Bool := fun Γ => (t Γ).bind fun b => if b then u Γ else .ret false
def tOrM (t u : List Cell → M Bool) : List Cell → M Bool := fun Γ => (t Γ).bind fun b => if b then .ret true else u Γ
def tNotM (t : List Cell → M Bool) : List Cell → M Bool := fun Γ => (t Γ).bind fun b => .ret !b
/-- an operation by data is what the rule asks -/
def Op2 (c : Fc) (r : R2) (o : PyData → PyData → M PyData) : Prop := ∀ (W : Addr → Prop) (H : Hp) (x y : V) (a b : PyData) (Q : VK), LW c.T W H → Pk c W H x a → Pk c W H y b → ((o a b).run fun d => ∀ H' v, Same H H' → Da W c.K H' v d → Q v H') → r x y H Q
def FnA (c : Fc) (r : List V → Hp → VK → Prop) (o : List PyData → M PyData) : Prop := ∀ (W : Addr → Prop) (H : Hp) (xs : List V) (ds : List PyData) (Q : VK), LW c.T W H → DaL W c.K H xs ds → ((o ds).run fun d => ∀ H' v, Same H H' → Da W c.K H' v d → Q v H') → r xs H Q
def Fn1 (c : Fc) (r : V → Hp → VK → Prop) (o : PyData → M PyData) : Prop := ∀ (W : Addr → Prop) (H : Hp) (x : V) (a : PyData) (Q : VK), LW c.T W H → Pk c W H x a → ((o a).run fun d => ∀ H' v, Same H H' → Da W c.K H' v d → Q v H') → r x H Q
section
variable {X : Cx} {c : Fc} {e e1 e2 e3 : Expr} {es : List Expr} {f g h : List Cell → M PyData} {F : List Cell → M (List PyData)} {t u : List Cell → M Bool} {pos : Pos} {d : PyData}
/-- what stands behind a first part -/
theorem tF_seq {W : Addr → Prop} {Γ : List Cell} {H H1 : Hp} {σ : L2.St} (S : Sr c W H σ Γ) (k : Ch c H H1) {Q : VK} (h : (f Γ).run fun d => ∀ H' v, Ch c H H' → Da W c.K H' v d → Q v H') : tF c f σ H1 Q :=
  ⟨W, Γ, S.ch k, (f Γ).mono (fun d q H' v k' => q H' v (k.trans k')) h⟩
theorem tG_seq {W : Addr → Prop} {Γ : List Cell} {H H1 : Hp} {σ : L2.St} (S : Sr c W H σ Γ) (k : Ch c H H1) {Q : VK} (h : (f Γ).run fun d => ∀ H' v, Ch c H H' → Pk c W H' v d → Q v H') : tG c f σ H1 Q :=
  ⟨W, Γ, S.ch k, (f Γ).mono (fun d q H' v k' => q H' v (k.trans k')) h⟩
theorem tAF_seq {W : Addr → Prop} {Γ : List Cell} {H H1 : Hp} {σ : L2.St} (S : Sr c W H σ Γ) (k : Ch c H H1) {Q : List V → Hp → Prop} (h : (F Γ).run fun d => ∀ H' v, Ch c H H' → DaL W c.K H' v d → Q v H') : tAF c F σ H1 Q :=
  ⟨W, Γ, S.ch k, (F Γ).mono (fun d q H' v k' => q H' v (k.trans k')) h⟩
theorem tTF_seq {W : Addr → Prop} {Γ : List Cell} {H H1 : Hp} {σ : L2.St} (S : Sr c W H σ Γ) (k : Ch c H H1) {Q : Bool → Hp → Prop} (h : (t Γ).run fun d => ∀ H', Ch c H H' → Q d H') : tTF c t σ H1 Q :=
  ⟨W, Γ, S.ch k, (t Γ).mono (fun d q H' k' => q H' (k.trans k')) h⟩
theorem pf_g (h : PE X e (tF c f)) : PE X e (tG c f) := pe_weak h fun σ H Q ⟨W, Γ, S, q⟩ => ⟨W, Γ, S, (f Γ).mono (fun d q H' v k a => q H' v k (.inl a)) q⟩
theorem pf_tc {v : V} (h : PE X e (tC v)) (hd : ∀ W H, Da W c.K H v d) : PE X e (tF c (mCon d)) := pe_weak h fun σ H Q ⟨W, Γ, S, q⟩ => q H v S.refl (hd W H)
theorem pf_int {i j} : PE X (.Constant (.int i) j pos) (tF c (mCon (.int i))) := pf_tc pe_int fun _ _ => .int i
theorem pf_bl {b j} : PE X (.Constant (.bool b) j pos) (tF c (mCon (.bool b))) := pf_tc pe_bl fun _ _ => .bl b
theorem pf_non {j} : PE X (.Constant .none j pos) (tF c (mCon .none)) := pf_tc pe_non fun _ _ => .non
theorem pf_str {x j} : PE X (.Constant (.str x) j pos) (tF c (mCon (.str x))) := pf_tc pe_str fun _ _ => .str x
theorem pf_var {i : Nat} (h : PE X e (tVar i)) : PE X e (tF c (mVar i)) := pe_weak h fun σ H Q ⟨W, Γ, S, q⟩ => by
  unfold mVar at q
  cases e : Γ[i]? with
  | none => rw [e] at q; exact q.elim
  | some z =>
    rw [e] at q
    cases z with
    | im d =>
      obtain ⟨u, e2, a⟩ := S.at' i _ e
      exact ⟨u, e2, q H u S.refl a⟩
    | un => exact q.elim
    | ow ds => exact q.elim
    | well => exact q.elim
theorem pg_var {i : Nat} (h : PE X e (tVar i)) : PE X e (tG c (mPk i)) := pe_weak h fun σ H Q ⟨W, Γ, S, q⟩ => by
  unfold mPk at q
  cases e : Γ[i]? with
  | none => rw [e] at q; exact q.elim
  | some z =>
    rw [e] at q
    cases z with
    | im d =>
      obtain ⟨u, e2, a⟩ := S.at' i _ e
      exact ⟨u, e2, q H u S.refl (.inl a)⟩
    | un => exact q.elim
    | ow ds =>
      obtain ⟨a, xs, e2, w, _, m, h1, h2⟩ := S.at' i _ e
      exact ⟨_, e2, q H _ S.refl (.inr ⟨a, xs, ds, rfl, rfl, m, h1, h2⟩)⟩
    | well => exact q.elim
theorem w_un1 {r : V → Hp → VK → Prop} {o : PyData → M PyData} (ho : Fn1 c r o) {σ : L2.St} {H : Hp} {Q : VK} (q : tF c (mUn o f) σ H Q) : tG c f σ H fun x H1 => r x H1 Q := by
  obtain ⟨W, Γ, S, q⟩ := q
  exact ⟨W, Γ, S, (f Γ).mono (fun a q H1 x k da => ho W H1 x a Q (S.lwC k) da ((o a).mono (fun d q H2 v s dd => q H2 v (k.trans ((S.ch k).cs s)) dd) q)) q⟩
theorem w_op2 {r : R2} {o : PyData → PyData → M PyData} (ho : Op2 c r o) {σ : L2.St} {H : Hp} {Q : VK} (q : tF c (mOp o f g) σ H Q) : tG c f σ H fun x H1 => tG c g σ H1 fun y H2 => r x y H2 Q := by
  obtain ⟨W, Γ, S, q⟩ := q
  exact ⟨W, Γ, S, (f Γ).mono (fun a q H1 x k1 da => ⟨W, Γ, S.ch k1, (g Γ).mono (fun b q H2 y k2 db => ho W H2 x y a b Q ((S.ch k1).lwC k2) ((S.ch k1).pk k2 da) db
    ((o a b).mono (fun d q H3 v s dd => q H3 v ((k1.trans k2).trans ((S.ch (k1.trans k2)).cs s)) dd) q)) q⟩) q⟩
/-- an operator -/
theorem pf_op {op : Operator} {r : R2} {o : PyData → PyData → M PyData} (hr : ∀ {a b : Expr} {ta tb : TE}, PE X a ta → PE X b tb → PE X (.BinOp a op b pos) (tOp r ta tb)) (ho : Op2 c r o) (ha : PE X e1 (tG c f)) (hb : PE X e2 (tG c g)) : PE X (.BinOp e1 op e2 pos) (tF c (mOp o f g)) :=
  pe_weak (hr ha hb) fun σ H Q q => w_op2 ho q
theorem pf_cmp {op : CmpOp} {r : R2} {o : PyData → PyData → M PyData} (hr : OpR X (compareOp op) r) (ho : Op2 c r o) (ha : PE X e1 (tG c f)) (hb : PE X e2 (tG c g)) (hm : behindInMarks op e2 = false) : PE X (.Compare e1 [op] [e2] pos) (tF c (mOp o f g)) :=
  pe_weak (pe_cmpR hr ha hb hm) fun σ H Q q => w_op2 ho q
theorem pf_ix {r : R2} {o : PyData → PyData → M PyData} (hr : IxR X r) (ho : Op2 c r o) (ha : PE X e1 (tG c f)) (hb : PE X e2 (tG c g)) (hs : PlainIx e2) : PE X (.Subscript e1 e2 pos) (tF c (mOp o f g)) :=
  pe_weak (pe_ix hr ha hb hs) fun σ H Q q => w_op2 ho q
theorem pf_un {p : UnaryOp} {r : V → Hp → VK → Prop} {o : PyData → M PyData} (hr : ∀ {a : Expr} {ta : TE}, PE X a ta → PE X (.UnaryOp p a pos) (tUn r ta)) (ho : Fn1 c r o) (ha : PE X e1 (tG c f)) : PE X (.UnaryOp p e1 pos) (tF c (mUn o f)) :=
  pe_weak (hr ha) fun σ H Q q => w_un1 ho q
theorem pf_not (ha : PE X e1 (tF c f)) : PE X (.UnaryOp .Not e1 pos) (tF c (mNot f)) := pe_weak (pe_not ha) fun σ H Q ⟨W, Γ, S, q⟩ => ⟨W, Γ, S, (f Γ).mono (fun a q H1 x k da => by
  cases da with
  | bl b => exact ⟨b, rfl, q H1 _ k (.bl _)⟩
  | _ => exact q.elim) q⟩
theorem pf_one {op} (ha : PE X e1 (tF c f)) : PE X (.BoolOp op [e1] pos) (tF c f) := pe_one ha
theorem pf_and (ha : PE X e1 (tF c f)) (hb : PE X (.BoolOp .And (e2 :: es) pos) (tF c g)) : PE X (.BoolOp .And (e1 :: e2 :: es) pos) (tF c (mAnd f g)) := pe_weak (pe_and ha hb) fun σ H Q ⟨W, Γ, S, q⟩ => ⟨W, Γ, S, (f Γ).mono (fun a q H1 x k da => by
  cases da with
  | bl b =>
    refine ⟨b, rfl, ?_⟩
    cases b with
    | true => exact tF_seq S k q
    | false => exact q H1 _ k (.bl _)
  | _ => exact q.elim) q⟩
theorem pf_or (ha : PE X e1 (tF c f)) (hb : PE X (.BoolOp .Or (e2 :: es) pos) (tF c g)) : PE X (.BoolOp .Or (e1 :: e2 :: es) pos) (tF c (mOr f g)) := pe_weak (pe_or ha hb) fun σ H Q ⟨W, Γ, S, q⟩ => ⟨W, Γ, S, (f Γ).mono (fun a q H1 x k da => by
  cases da with
  | bl b =>
    refine ⟨b, rfl, ?_⟩
    cases b with
    | true => exact q H1 _ k (.bl _)
    | false => exact tF_seq S k q
  | _ => exact q.elim) q⟩
/-! tests -/
theorem ptf_val (ha : PE X e1 (tF c f)) (he : ∀ whole, isTrue e1 X.env whole = (do let v ← whole; standAt e1.pos; holding [v] (truthy v)) := by intro _; rfl) : PT X e1 (tTF c (tVal f)) :=
  ⟨fun pins s σ H Q I ⟨W, Γ, S, q⟩ => (pt_val ha he).run pins s σ H Q I ⟨W, Γ, S, (f Γ).mono (fun a q H1 x k da => by
    cases da with
    | bl b => exact ⟨b, rfl, q H1 k⟩
    | _ => exact q.elim) q⟩⟩
theorem pt_weak {t t' : TT} (h : PT X e t) (f : ∀ σ H Q, t' σ H Q → t σ H Q) : PT X e t' := ⟨fun pins s σ H Q I q => h.run pins s σ H Q I (f σ H Q q)⟩
theorem pw_weak {t t' : TT} (h : PW X e t) (f : ∀ σ H Q, t' σ H Q → t σ H Q) : PW X e t' := ⟨fun wh pins s σ H Q I q => h.run wh pins s σ H Q I (f σ H Q q)⟩
theorem ptf_cmp {op : CmpOp} {r : R2} {o : PyData → PyData → M PyData} (hr : OpR X (compareOp op) r) (ho : Op2 c r o) (ha : PE X e1 (tG c f)) (hb : PE X e2 (tG c g)) (hm : behindInMarks op e2 = false) : PT X (.Compare e1 [op] [e2] pos) (tTF c (tVal (mOp o f g))) :=
  pt_weak (pt_cmpR hr ha hb hm) fun σ H Q ⟨W, Γ, S, q⟩ => w_op2 ho ⟨W, Γ, S, (mOp o f g Γ).mono (fun a q H1 x k da => by
    cases da with
    | bl b => exact ⟨b, rfl, q H1 k⟩
    | _ => exact q.elim) q⟩
theorem ptf_not (ha : PT X e1 (tTF c t)) : PT X (.UnaryOp .Not e1 pos) (tTF c (tNotM t)) := pt_weak (pt_not ha) fun σ H Q q => q
theorem pwf_and1 (ha : PT X e1 (tTF c t)) : PW X (.BoolOp .And [e1] pos) (tTF c t) := pw_and1 ha
theorem pwf_or1 (ha : PT X e1 (tTF c t)) : PW X (.BoolOp .Or [e1] pos) (tTF c t) := pw_or1 ha
theorem pwf_and (ha : PT X e1 (tTF c t)) (hb : PW X (.BoolOp .And (e2 :: es) pos) (tTF c u)) : PW X (.BoolOp .And (e1 :: e2 :: es) pos) (tTF c (tAndM t u)) := pw_weak (pw_and ha hb) fun σ H Q ⟨W, Γ, S, q⟩ => ⟨W, Γ, S, (t Γ).mono (fun b q H1 k => by
  cases b with
  | true => exact tTF_seq S k q
  | false => exact q H1 k) q⟩
theorem pwf_or (ha : PT X e1 (tTF c t)) (hb : PW X (.BoolOp .Or (e2 :: es) pos) (tTF c u)) : PW X (.BoolOp .Or (e1 :: e2 :: es) pos) (tTF c (tOrM t u)) := pw_weak (pw_or ha hb) fun σ H Q ⟨W, Γ, S, q⟩ => ⟨W, Γ, S, (t Γ).mono (fun b q H1 k => by
  cases b with
  | true => exact q H1 k
  | false => exact tTF_seq S k q) q⟩
theorem pf_if (ht : PT X e3 (tTF c t)) (ha : PE X e1 (tF c f)) (hb : PE X e2 (tF c g)) : PE X (.IfExp e3 e1 e2 pos) (tF c (mIf t f g)) := pe_weak (pe_ifExp ht ha hb) fun σ H Q ⟨W, Γ, S, q⟩ => ⟨W, Γ, S, (t Γ).mono (fun b q H1 k => by
  cases b with
  | true => exact tF_seq S k q
  | false => exact tF_seq S k q) q⟩
/-! chains -/
theorem w_chn {r r' : R2} {o o' : PyData → PyData → M PyData} (ho : Op2 c r o) (ho' : Op2 c r' o') {σ : L2.St} {H : Hp} {Q : VK} (q : tF c (mChn o o' f g h) σ H Q) : tChain r r' (tG c f) (tG c g) (tG c h) σ H Q := by
  obtain ⟨W, Γ, S, q⟩ := q
  refine ⟨W, Γ, S, (f Γ).mono (fun a q H1 x k1 da => ⟨W, Γ, S.ch k1, (g Γ).mono (fun b q H2 y k2 db => ho W H2 x y a b _ ((S.ch k1).lwC k2) ((S.ch k1).pk k2 da) db
    ((o a b).mono (fun z q H3 v s dz => ?_) q)) q⟩) q⟩
  have k3 : Ch c H H3 := (k1.trans k2).trans ((S.ch (k1.trans k2)).cs s)
  have k23 : Ch c H2 H3 := (S.ch (k1.trans k2)).cs s
  cases dz with
  | bl b' =>
    refine ⟨b', rfl, ?_⟩
    cases b' with
    | true => exact ⟨W, Γ, S.ch k3, (h Γ).mono (fun e q H4 w k4 de => ho' W H4 y w b e Q ((S.ch k3).lwC k4) ((S.ch k3).pk k4 ((S.ch (k1.trans k2)).pk k23 db)) de
        ((o' b e).mono (fun d q H5 v s dd => q H5 v ((k3.trans k4).trans ((S.ch (k3.trans k4)).cs s)) dd) q)) q⟩
    | false => exact q H3 _ k3 (.bl _)
  | _ => exact q.elim
theorem pf_chn {op op' : CmpOp} {r r' : R2} {o o' : PyData → PyData → M PyData} (hr : OpR X (compareOp op) r) (hr' : OpR X (compareOp op') r') (ho : Op2 c r o) (ho' : Op2 c r' o') (ha : PE X e1 (tG c f)) (hb : PE X e2 (tG c g)) (hc : PE X e3 (tG c h)) (hm : lastMarks [op, op'] [e2, e3] = false := by with_unfolding_all rfl)
    : PE X (.Compare e1 [op, op'] [e2, e3] pos) (tF c (mChn o o' f g h)) := pe_weak (pe_chain hr hr' ha hb hc hm) fun σ H Q q => w_chn ho ho' q
theorem ptf_chn {op op' : CmpOp} {r r' : R2} {o o' : PyData → PyData → M PyData} (hr : OpR X (compareOp op) r) (hr' : OpR X (compareOp op') r') (ho : Op2 c r o) (ho' : Op2 c r' o') (ha : PE X e1 (tG c f)) (hb : PE X e2 (tG c g)) (hc : PE X e3 (tG c h)) (hm : lastMarks [op, op'] [e2, e3] = false := by with_unfolding_all rfl)
    : PT X (.Compare e1 [op, op'] [e2, e3] pos) (tTF c (tVal (mChn o o' f g h))) := pt_weak (pt_chain hr hr' ha hb hc hm) fun σ H Q ⟨W, Γ, S, q⟩ => w_chn ho ho' ⟨W, Γ, S, (mChn o o' f g h Γ).mono (fun a q H1 x k da => by
    cases da with
    | bl b => exact ⟨b, rfl, q H1 k⟩
    | _ => exact q.elim) q⟩
/-! arguments, displays -/
theorem paf_nil : PA X [] (tAF c mNil) := pa_weak pa_nil fun σ H Q ⟨W, Γ, S, q⟩ => q H _ S.refl .nil
theorem paf_cons (ha : PE X e (tF c f)) (hr : PA X es (tAF c F)) (hs : starEach (e :: es) X.env = (false, eval e X.env) :: starEach es X.env := by rfl) : PA X (e :: es) (tAF c (mCons f F)) :=
  pa_weak (pa_cons ha hr hs) fun σ H Q ⟨W, Γ, S, q⟩ => ⟨W, Γ, S, (f Γ).mono (fun a q H1 x k1 da => ⟨W, Γ, S.ch k1, (F Γ).mono (fun ds q H2 vs k2 dd => q H2 _ (k1.trans k2) (.cons ((S.ch k1).da k2 da) dd)) q⟩) q⟩
theorem pf_tup {x1} (h : PA X es (tAF c F)) : PE X (.Tuple es x1 pos) (tF c (mTup F)) := pe_weak (pe_tup h) fun σ H Q ⟨W, Γ, S, q⟩ => ⟨W, Γ, S, (F Γ).mono (fun ds q H1 vs k dd =>
  ⟨Nat.le_trans (by rw [dd.length]; exact q.1) (by decide), fun p hp => q.2 _ _ (k.trans ((S.ch k).new1 hp)) (.tup (SqT.of upd_same) ((S.ch k).dal ((S.ch k).new1 hp) dd))⟩) q⟩
theorem pf_lst (h : PA X es (tAF c F)) : PE X (.List es pos) (tF c (mLst F)) := pe_weak (pe_lst h) fun σ H Q ⟨W, Γ, S, q⟩ => ⟨W, Γ, S, (F Γ).mono (fun ds q H1 vs k dd =>
  ⟨Nat.le_trans (by rw [dd.length]; exact q.1) (by decide), fun p hp => q.2 _ _ (k.trans ((S.ch k).new1 hp)) (.lst ((S.ch k).lw.dom hp) upd_same ((S.ch k).dal ((S.ch k).new1 hp) dd))⟩) q⟩
theorem pf_dic : PE X (.Dict [] [] pos) (tF c (mCon (.dict []))) := pe_weak pe_dnewK fun σ H Q ⟨W, Γ, S, q⟩ p hp => q _ _ (S.new1 hp) (.dic upd_same)
/-- a builtin of several arguments -/
theorem pf_fn {r : List V → Hp → VK → Prop} {o : List PyData → M PyData} (hr : ∀ {t : TA}, PA X es t → PE X e (tCB r t)) (ho : FnA c r o) (ha : PA X es (tAF c F)) : PE X e (tF c (mFn o F)) :=
  pe_weak (hr ha) fun σ H Q ⟨W, Γ, S, q⟩ => ⟨W, Γ, S, (F Γ).mono (fun ds q H1 xs k dd => ho W H1 xs ds Q (S.lwC k) dd ((o ds).mono (fun d q H2 v s z => q H2 v (k.trans ((S.ch k).cs s)) z) q)) q⟩
/-- a builtin of one -/
theorem pa_one {te : TE} (ha : PE X e te) (hs : starEach [e] X.env = (false, eval e X.env) :: starEach [] X.env := by rfl) : PA X [e] (fun σ H R => te σ H fun x H1 => R [x] H1) := pa_weak (pa_cons ha pa_nil hs) fun σ H Q q => q
theorem pf_fn1 {r : List V → Hp → VK → Prop} {o : PyData → M PyData} (hr : ∀ {t : TA}, PA X [e1] t → PE X e (tCB r t)) (ho : Fn1 c (fun x => r [x]) o) (ha : PE X e1 (tG c f)) (hs : starEach [e1] X.env = (false, eval e1 X.env) :: starEach [] X.env := by rfl) : PE X e (tF c (mUn o f)) :=
  pe_weak (hr (pa_one ha hs)) fun σ H Q q => w_un1 ho q
end
end Dl

set_option Elab.async false
set_option linter.all false
set_option maxRecDepth 100000
set_option maxHeartbeats 2000000
set_option autoImplicit false
/-! Dp: operators and builtins by data. -/
namespace Dl
open PySem PySem.Spec PyProof.Rows L2 Gd
section
variable {c : Fc} {W : Addr → Prop} {H : Hp} {v : V}
theorem pk_int {i : Int} (h : Pk c W H v (.int i)) : v = .int i := by
  rcases h with h | ⟨a, xs, ds, _, e, _⟩
  · cases h; rfl
  · cases e
theorem pk_bl {i : Bool} (h : Pk c W H v (.bool i)) : v = .bl i := by
  rcases h with h | ⟨a, xs, ds, _, e, _⟩
  · cases h; rfl
  · cases e
theorem pk_str {i : Str} (h : Pk c W H v (.str i)) : v = .str i := by
  rcases h with h | ⟨a, xs, ds, _, e, _⟩
  · cases h; rfl
  · cases e
theorem pk_non (h : Pk c W H v .none) : v = .non := by
  rcases h with h | ⟨a, xs, ds, _, e, _⟩
  · cases h; rfl
  · cases e
theorem pk_tup {ds : List PyData} (h : Pk c W H v (.tuple ds)) : ∃ a xs, v = .ref a ∧ SqT c.K H a xs ∧ DaL W c.K H xs ds := by
  rcases h with h | ⟨a, xs, ds, _, e, _⟩
  · cases h with | tup h r => exact ⟨_, _, rfl, h, r⟩
  · cases e
theorem pk_lst {ds : List PyData} (h : Pk c W H v (.list ds)) : ∃ a xs, v = .ref a ∧ H a = some (.lst xs) ∧ DaL W c.K H xs ds := by
  rcases h with h | ⟨a, xs, es, e1, e, _, h1, h2⟩
  · cases h with | lst n h r => exact ⟨_, _, rfl, h, r⟩
  · cases e; exact ⟨a, xs, e1, h1, h2⟩
theorem pk_dic {kvs : List (PyData × PyData)} (h : Pk c W H v (.dict kvs)) : ∃ a, v = .ref a ∧ H a = some (.dK []) := by
  rcases h with h | ⟨a, xs, es, e1, e, _, h1, h2⟩
  · cases h with | dic h => exact ⟨_, rfl, h⟩
  · cases e
theorem Pk.dp {d : PyData} (h : Pk c W H v d) (s : SeqAt.shaped d = true) : Dp c.K H v d := by
  rcases h with h | ⟨a, xs, ds, rfl, rfl, _, h1, h2⟩
  · exact h.dps s
  · have c := SeqAt.canLay_of_shaped s
    exact .lst (SqL.of h1) (h2.dp (by simpa only [PyData.canLay0] using c))
theorem Pk.da0 {d : PyData} (h : Pk c W H v d) : Da (fun _ => False) c.K H v d := by
  rcases h with h | ⟨a, xs, ds, rfl, rfl, _, h1, h2⟩
  · exact h.less fun _ z => z.elim
  · exact .lst (fun z => z) h1 (h2.less fun _ z => z.elim)
end
/-! ### ints -/
def o_i2 (C : Int → Int → Prop) (f : Int → Int → PyData) : PyData → PyData → M PyData
  | .int i, .int j => (M.gd (C i j)).bind fun _ => .ret (f i j)
  | _, _ => .fail
def o_cmp (p : Int → Int → Bool) : PyData → PyData → M PyData
  | .int i, .int j => .ret (.bool (p i j))
  | _, _ => .fail
section
variable {c : Fc}
theorem op2_int {C : Int → Int → Prop} {g : Int → Int → Int} : Op2 c (rI C fun i j => .int (g i j)) (o_i2 C fun i j => .int (g i j)) := by
  intro W H x y a b Q lw hx hy q
  unfold o_i2 at q
  split at q
  · rw [pk_int hx, pk_int hy]
    exact ⟨_, _, rfl, rfl, q.1, q.2 H _ (Same.refl H) (.int _)⟩
  · exact q.elim
theorem op2_cmp {p : Int → Int → Bool} : Op2 c (rI0 fun i j => .bl (p i j)) (o_cmp p) := by
  intro W H x y a b Q lw hx hy q
  unfold o_cmp at q
  split at q
  · rw [pk_int hx, pk_int hy]
    exact ⟨_, _, rfl, rfl, q H _ (Same.refl H) (.bl _)⟩
  · exact q.elim
def o_sub : PyData → PyData → M PyData
  | .int i, .int j => .ret (.int (i - j))
  | _, _ => .fail
theorem op2_sub : Op2 c Gd.rSub o_sub := by
  intro W H x y a b Q lw hx hy q
  unfold o_sub at q
  split at q
  · rw [pk_int hx, pk_int hy]
    exact ⟨_, _, rfl, rfl, q H _ (Same.refl H) (.int _)⟩
  · exact q.elim
def o_neg : PyData → M PyData
  | .int i => .ret (.int (-i))
  | _ => .fail
theorem fn1_neg : Fn1 c (rU fun i => .int (-i)) o_neg := by
  intro W H x a Q lw hx q
  unfold o_neg at q
  split at q
  · rw [pk_int hx]
    exact ⟨_, rfl, q H _ (Same.refl H) (.int _)⟩
  · exact q.elim
/-! ### +, * -/
def o_add : PyData → PyData → M PyData
  | .int i, .int j => .ret (.int (i + j))
  | .tuple a, .tuple b => (M.gd (a.length + b.length ≤ 1000)).bind fun _ => .ret (.tuple (a ++ b))
  | .list a, .list b => (M.gd (a.length + b.length ≤ 1000)).bind fun _ => .ret (.list (a ++ b))
  | _, _ => .fail
theorem op2_add : Op2 c (rAddA c.K) o_add := by
  intro W H x y a b Q lw hx hy q
  unfold o_add at q
  split at q
  · rw [pk_int hx, pk_int hy]
    exact .inl ⟨_, _, rfl, rfl, q H _ (Same.refl H) (.int _)⟩
  · rename_i a b
    obtain ⟨p, xs, rfl, h1, r1⟩ := pk_tup hx
    obtain ⟨u, ys, rfl, h2, r2⟩ := pk_tup hy
    obtain ⟨z, q⟩ := q
    have l1 := r1.length
    have l2 := r2.length
    refine .inr (.inl ⟨p, u, xs, ys, rfl, rfl, h1, h2, Nat.le_trans (by omega) (show 1000 ≤ sizeLine by decide), fun e => ?_, fun e1 e2 => ?_, fun e1 e2 p hp => ?_⟩)
    · subst e
      cases r1
      exact q H _ (Same.refl H) (.tup h2 r2)
    · subst e2
      cases r2
      rw [List.append_nil] at q
      exact q H _ (Same.refl H) (.tup h1 r1)
    · exact q _ _ (same_new hp) (.tup (SqT.of upd_same) ((r1.append r2).same (same_new hp)))
  · rename_i a b
    obtain ⟨p, xs, rfl, h1, r1⟩ := pk_lst hx
    obtain ⟨u, ys, rfl, h2, r2⟩ := pk_lst hy
    obtain ⟨z, q⟩ := q
    have l1 := r1.length
    have l2 := r2.length
    exact .inr (.inr ⟨p, u, xs, ys, rfl, rfl, h1, h2, Nat.le_trans (by omega) (show 1000 ≤ sizeLine by decide), fun p hp => q _ _ (same_new hp) (.lst (lw.dom hp) upd_same ((r1.append r2).same (same_new hp)))⟩)
  · exact q.elim
/-- * of ints, a tuple and a list by an int from 2 on -/
def o_mul : PyData → PyData → M PyData
  | .int i, .int j => (M.gd (CMulA i j)).bind fun _ => .ret (.int (i * j))
  | .tuple a, .int k => (M.gd (a ≠ [] ∧ 2 ≤ k ∧ k ≤ 1000 ∧ a.length ≤ 1000)).bind fun _ => .ret (.tuple (List.replicate k.toNat a).flatten)
  | .list a, .int k => (M.gd (0 ≤ k ∧ k ≤ 1000 ∧ a.length ≤ 1000)).bind fun _ => .ret (.list (List.replicate k.toNat a).flatten)
  | _, _ => .fail
theorem op2_mul : Op2 c (rMulA c.K) o_mul := by
  intro W H x y a b Q lw hx hy q
  unfold o_mul at q
  split at q
  · rw [pk_int hx, pk_int hy]
    exact .inl ⟨_, _, rfl, rfl, q.1, q.2 H _ (Same.refl H) (.int _)⟩
  · rename_i a k
    obtain ⟨p, xs, rfl, h1, r1⟩ := pk_tup hx
    rw [pk_int hy]
    obtain ⟨⟨z0, z1, z2, z3⟩, q⟩ := q
    have l1 := r1.length
    refine .inr (.inl ⟨p, k, xs, rfl, rfl, h1, fun e => ?_, z1, z2, by omega, fun p hp => q _ _ (same_new hp) (.tup (SqT.of upd_same) ((r1.reps _).same (same_new hp)))⟩)
    subst e
    cases r1
    exact z0 rfl
  · rename_i a k
    obtain ⟨p, xs, rfl, h1, r1⟩ := pk_lst hx
    rw [pk_int hy]
    obtain ⟨⟨z1, z2, z3⟩, q⟩ := q
    have l1 := r1.length
    refine .inr (.inr ⟨p, k, xs, rfl, rfl, h1, by omega, by omega, ?_, fun p hp => q _ _ (same_new hp) (.lst (lw.dom hp) upd_same ((r1.reps _).same (same_new hp)))⟩)
    have : xs.length * k.toNat ≤ 1000 * 1000 := Nat.mul_le_mul (by omega) (by omega)
    rw [sizeLine_eq]
    omega
  · exact q.elim
/-! ### ==, !=, in -/
def o_eq : PyData → PyData → M PyData := fun a b => (M.gd (SeqAt.shaped a = true ∧ SeqAt.shaped b = true)).bind fun _ => .ret (.bool (PyData.eqv a b))
def o_ne : PyData → PyData → M PyData := fun a b => (M.gd (SeqAt.shaped a = true ∧ SeqAt.shaped b = true)).bind fun _ => .ret (.bool (!PyData.eqv a b))
theorem op2_eq : Op2 c (rEqA c.K) o_eq := by
  intro W H x y a b Q lw hx hy q
  exact .inr ⟨a, b, hx.dp q.1.1, hy.dp q.1.2, q.1.1, q.1.2, q.2 H _ (Same.refl H) (.bl _)⟩
theorem op2_ne : Op2 c (rNeA c.K) o_ne := by
  intro W H x y a b Q lw hx hy q
  exact .inr ⟨a, b, hx.dp q.1.1, hy.dp q.1.2, q.1.1, q.1.2, q.2 H _ (Same.refl H) (.bl _)⟩
/-- an int among ints -/
def o_in (neg : Bool) : PyData → PyData → M PyData
  | .int i, .tuple a => (M.gd (∀ d ∈ a, ∃ j, d = PyData.int j)).bind fun _ => .ret (.bool (if neg then !a.any (PyData.eqv · (.int i)) else a.any (PyData.eqv · (.int i))))
  | _, _ => .fail
theorem in_ints {i : Int} {W : Addr → Prop} {H : Hp} : ∀ {xs : List V} {ds : List PyData}, DaL W c.K H xs ds → (∀ d ∈ ds, ∃ j, d = PyData.int j) → xs.all flatV = true ∧ inV (.int i) xs = ds.any (PyData.eqv · (.int i))
  | _, _, .nil, _ => ⟨rfl, rfl⟩
  | v :: vs, d :: ds, .cons h r, z => by
    obtain ⟨j, rfl⟩ := z d (List.mem_cons_self ..)
    obtain ⟨h1, h2⟩ := in_ints (i := i) r fun x m => z x (List.mem_cons_of_mem _ m)
    cases h
    unfold inV at h2 ⊢
    refine ⟨by rw [List.all_cons, h1]; rfl, ?_⟩
    rw [List.any_cons, List.any_cons, h2]
    congr 1
theorem op2_in {neg : Bool} : Op2 c (rIn c.K neg) (o_in neg) := by
  intro W H x y a b Q lw hx hy q
  unfold o_in at q
  split at q
  · rw [pk_int hx]
    obtain ⟨p, xs, rfl, h1, r1⟩ := pk_tup hy
    obtain ⟨f, e⟩ := in_ints (i := _) r1 q.1
    refine ⟨p, xs, rfl, .inr h1, rfl, f, ?_⟩
    rw [e]
    exact q.2 H _ (Same.refl H) (.bl _)
  · exact q.elim
/-! ### items, parts -/
def o_ix : PyData → PyData → M PyData
  | .tuple a, .int i => .opt (atI a i)
  | .list a, .int i => .opt (atI a i)
  | _, _ => .fail
theorem atI_da {W : Addr → Prop} {H : Hp} {xs : List V} {ds : List PyData} {i : Int} {d : PyData} (r : DaL W c.K H xs ds) (e : atI ds i = some d) : ∃ v, atI xs i = some v ∧ Da W c.K H v d := by
  unfold atI at e ⊢
  rw [r.length]
  cases k : ixN ds.length i with
  | none => rw [k] at e; cases e
  | some j =>
    rw [k] at e
    exact r.get' (i := j) e
theorem op2_ix : Op2 c (rIx c.K) o_ix := by
  intro W H x y a b Q lw hx hy q
  unfold o_ix at q
  split at q
  · rename_i a i
    obtain ⟨p, xs, rfl, h1, r1⟩ := pk_tup hx
    rw [pk_int hy]
    cases e : atI a i with
    | none => rw [e] at q; exact q.elim
    | some d =>
      rw [e] at q
      obtain ⟨v, e2, da⟩ := atI_da r1 e
      exact .inr (.inl ⟨p, xs, i, v, rfl, rfl, h1, e2, q H v (Same.refl H) da⟩)
  · rename_i a i
    obtain ⟨p, xs, rfl, h1, r1⟩ := pk_lst hx
    rw [pk_int hy]
    cases e : atI a i with
    | none => rw [e] at q; exact q.elim
    | some d =>
      rw [e] at q
      obtain ⟨v, e2, da⟩ := atI_da r1 e
      exact .inl ⟨p, xs, i, v, rfl, rfl, SqL.of h1, e2, q H v (Same.refl H) da⟩
  · exact q.elim
/-! ### builtins -/
def o_len : PyData → M PyData
  | .tuple a => .ret (.int a.length)
  | .list a => .ret (.int a.length)
  | _ => .fail
theorem fn_len : Fn1 c (fun x => Gd.rLen c.K [x]) o_len := by
  intro W H x a Q lw hx q
  unfold o_len at q
  split at q
  · obtain ⟨p, xs, rfl, h1, r1⟩ := pk_tup hx
    refine ⟨p, xs, rfl, .inr h1, ?_⟩
    rw [r1.length]
    exact q H _ (Same.refl H) (.int _)
  · obtain ⟨p, xs, rfl, h1, r1⟩ := pk_lst hx
    refine ⟨p, xs, rfl, .inl (SqL.of h1), ?_⟩
    rw [r1.length]
    exact q H _ (Same.refl H) (.int _)
  · exact q.elim
def o_tuple : PyData → M PyData
  | .tuple a => .ret (.tuple a)
  | .list a => .ret (.tuple a)
  | _ => .fail
theorem fn_tuple : Fn1 c (fun x => rTup c.K [x]) o_tuple := by
  intro W H x a Q lw hx q
  unfold o_tuple at q
  split at q
  · obtain ⟨p, xs, rfl, h1, r1⟩ := pk_tup hx
    exact ⟨p, xs, rfl, .inr ⟨h1, q H _ (Same.refl H) (.tup h1 r1)⟩⟩
  · obtain ⟨p, xs, rfl, h1, r1⟩ := pk_lst hx
    exact ⟨p, xs, rfl, .inl ⟨SqL.of h1, fun l hl => q _ _ (same_new hl) (.tup (SqT.of upd_same) (r1.same (same_new hl)))⟩⟩
  · exact q.elim
def o_list : PyData → M PyData
  | .tuple a => .ret (.list a)
  | .list a => .ret (.list a)
  | _ => .fail
theorem fn_list : Fn1 c (fun x => rLst c.K [x]) o_list := by
  intro W H x a Q lw hx q
  unfold o_list at q
  split at q
  · obtain ⟨p, xs, rfl, h1, r1⟩ := pk_tup hx
    exact ⟨p, xs, rfl, .inr h1, fun l hl => q _ _ (same_new hl) (.lst (lw.dom hl) upd_same (r1.same (same_new hl)))⟩
  · obtain ⟨p, xs, rfl, h1, r1⟩ := pk_lst hx
    exact ⟨p, xs, rfl, .inl (SqL.of h1), fun l hl => q _ _ (same_new hl) (.lst (lw.dom hl) upd_same (r1.same (same_new hl)))⟩
  · exact q.elim
def o_int : PyData → M PyData
  | .int i => .ret (.int i)
  | .bool b => .ret (.int (if b then 1 else 0))
  | _ => .fail
theorem fn_int : Fn1 c (fun x => rInt [x]) o_int := by
  intro W H x a Q lw hx q
  unfold o_int at q
  split at q
  · rw [pk_int hx]
    exact .inl ⟨_, rfl, q H _ (Same.refl H) (.int _)⟩
  · rw [pk_bl hx]
    exact .inr ⟨_, rfl, q H _ (Same.refl H) (.int _)⟩
  · exact q.elim
def o_abs : PyData → M PyData
  | .int i => .ret (.int (if i < 0 then -i else i))
  | _ => .fail
theorem fn_abs : Fn1 c (fun x => rAbs [x]) o_abs := by
  intro W H x a Q lw hx q
  unfold o_abs at q
  split at q
  · rw [pk_int hx]
    exact ⟨_, rfl, q H _ (Same.refl H) (.int _)⟩
  · exact q.elim
def o_gcd : List PyData → M PyData
  | [.int i, .int j] => .ret (.int (Nat.gcd i.natAbs j.natAbs : Nat))
  | _ => .fail
theorem fn_gcd : FnA c rGcd o_gcd := by
  intro W H xs ds Q lw hd q
  unfold o_gcd at q
  split at q
  · cases hd with | cons h1 r => cases r with | cons h2 r => cases r; cases h1; cases h2; exact ⟨_, _, rfl, q H _ (Same.refl H) (.int _)⟩
  · exact q.elim
def o_max2 : List PyData → M PyData
  | [.int i, .int j] => .ret (.int (if j > i then j else i))
  | _ => .fail
def o_min2 : List PyData → M PyData
  | [.int i, .int j] => .ret (.int (if j < i then j else i))
  | _ => .fail
theorem fn_max2 : FnA c (fun xs H Q => ∃ i j, xs = [.int i, .int j] ∧ Q (.int (if j > i then j else i)) H) o_max2 := by
  intro W H xs ds Q lw hd q
  unfold o_max2 at q
  split at q
  · cases hd with | cons h1 r => cases r with | cons h2 r => cases r; cases h1; cases h2; exact ⟨_, _, rfl, q H _ (Same.refl H) (.int _)⟩
  · exact q.elim
theorem fn_min2 : FnA c (fun xs H Q => ∃ i j, xs = [.int i, .int j] ∧ Q (.int (if j < i then j else i)) H) o_min2 := by
  intro W H xs ds Q lw hd q
  unfold o_min2 at q
  split at q
  · cases hd with | cons h1 r => cases r with | cons h2 r => cases r; cases h1; cases h2; exact ⟨_, _, rfl, q H _ (Same.refl H) (.int _)⟩
  · exact q.elim
/-- a list of bools, told by a list of them -/
def bools : List PyData → Option (List Bool)
  | [] => some []
  | .bool b :: r => (bools r).map (b :: ·)
  | _ :: _ => none
theorem bools_da {W : Addr → Prop} {H : Hp} : ∀ {xs : List V} {ds : List PyData} {bs : List Bool}, DaL W c.K H xs ds → bools ds = some bs → xs = bs.map V.bl
  | _, _, _, .nil, e => by cases e; rfl
  | _, _, bs, .cons (ds := r') (d := d) h r, e => by
    cases d with
    | bool b =>
      simp only [bools, Option.map_eq_some_iff] at e
      obtain ⟨cs, e1, rfl⟩ := e
      cases h
      rw [bools_da r e1]
      rfl
    | _ => simp [bools] at e
def o_all : PyData → M PyData
  | .list a => (M.opt (bools a)).bind fun bs => .ret (.bool (bs.all id))
  | _ => .fail
def o_any : PyData → M PyData
  | .list a => (M.opt (bools a)).bind fun bs => .ret (.bool (bs.any id))
  | _ => .fail
theorem fn_all : Fn1 c (fun x => rAll c.K [x]) o_all := by
  intro W H x a Q lw hx q
  unfold o_all at q
  split at q
  · rename_i a
    obtain ⟨p, xs, rfl, h1, r1⟩ := pk_lst hx
    cases e : bools a with
    | none => rw [e] at q; exact q.elim
    | some bs =>
      rw [e] at q
      have e2 := bools_da r1 e
      subst e2
      exact ⟨p, bs, rfl, SqL.of h1, q H _ (Same.refl H) (.bl _)⟩
  · exact q.elim
theorem fn_any : Fn1 c (fun x => rAny c.K [x]) o_any := by
  intro W H x a Q lw hx q
  unfold o_any at q
  split at q
  · rename_i a
    obtain ⟨p, xs, rfl, h1, r1⟩ := pk_lst hx
    cases e : bools a with
    | none => rw [e] at q; exact q.elim
    | some bs =>
      rw [e] at q
      have e2 := bools_da r1 e
      subst e2
      exact ⟨p, bs, rfl, SqL.of h1, q H _ (Same.refl H) (.bl _)⟩
  · exact q.elim
def o_repr : PyData → M PyData
  | .list a => (M.gd ((PyData.list a).showable = true ∧ (PyData.list a).depth ≤ 100 ∧ (PyData.list a).shown.length ≤ sizeLine)).bind fun _ => .ret (.str (PyData.list a).shown)
  | .tuple a => (M.gd ((PyData.tuple a).showable = true ∧ (PyData.tuple a).depth ≤ 100 ∧ (PyData.tuple a).shown.length ≤ sizeLine)).bind fun _ => .ret (.str (PyData.tuple a).shown)
  | _ => .fail
end
section
variable {X : Cx} {pins : List (Addr × Obj)} {σ : L2.St} {H : Hp} {s : Shared} {W : Addr → Prop}
mutual
theorem Da.reads (S : SysM X.base) (I : Inv X pins σ H s) : ∀ (d : PyData) (v : V) (u : Value), Da W X.K H v d → RelV v u → ∃ as, Reads s.heap u d as ∧ sysModules ∉ as
  | .none, _, _, h, r => by cases h; cases r; exact ⟨_, .none, by simp⟩
  | .bool b, _, _, h, r => by cases h; cases r; exact ⟨_, .bool b, by simp⟩
  | .int i, _, _, h, r => by cases h; obtain ⟨t, rfl⟩ := r; exact ⟨_, .int i t, by simp⟩
  | .str x, _, _, h, r => by cases h; obtain ⟨t, rfl⟩ := r; exact ⟨_, .str x t, by simp⟩
  | .list ds, _, _, h, r => by
    cases h with
    | lst hw hs ha =>
      cases r
      obtain ⟨its, rv, ⟨o, n, ho, hc, _, hd⟩, _⟩ := I.list (SqL.of hs)
      obtain ⟨as, hr, hn⟩ := DaL.reads S I ds _ its ha rv
      refine ⟨_, .list ho hc hd hr, fun z => ?_⟩
      rcases List.mem_cons.mp z with z | z
      · exact sys_ne S I ho (fun es n q => by rw [hd] at q; cases q) z
      · exact hn z
  | .tuple ds, _, _, h, r => by
    cases h with
    | tup hs ha =>
      cases r
      obtain ⟨its, rv, ⟨o, ho, hc, n, hd⟩, _⟩ := I.tuple hs
      obtain ⟨as, hr, hn⟩ := DaL.reads S I ds _ its ha rv
      exact ⟨_, .tuple ho hc hd hr, hn⟩
  | .dict kvs, _, _, h, r => by
    cases h with
    | dic h =>
      cases r
      obtain ⟨_, hne, vs, rv, o, es, ep, e1, e2, e3, _, e4, _⟩ := I.hok _ _ h
      cases rv
      have e4' : es = #[] := by
        have z : es.toList = [] := by
          generalize es.toList = l at e4
          cases e4
          rfl
        exact Array.toList_eq_nil_iff.mp z
      subst e4'
      refine ⟨[_] ++ [], .dict (as := []) (bs := []) e1 e2.1 e3 .nil .nil, fun z => ?_⟩
      simp only [List.append_nil, List.mem_cons, List.not_mem_nil, or_false] at z
      rw [← z] at hne
      exact absurd hne (by simp)
theorem DaL.reads (S : SysM X.base) (I : Inv X pins σ H s) : ∀ (ds : List PyData) (vs : List V) (us : List Value), DaL W X.K H vs ds → Vals vs us → ∃ as, ReadsAll s.heap us ds as ∧ sysModules ∉ as
  | [], _, _, h, r => by cases h; cases r; exact ⟨_, .nil, by simp⟩
  | d :: ds, _, _, h, r => by
    cases h with
    | cons h1 h2 =>
      cases r with
      | cons r1 r2 =>
        obtain ⟨as, q1, n1⟩ := Da.reads S I d _ _ h1 r1
        obtain ⟨bs, q2, n2⟩ := DaL.reads S I ds _ _ h2 r2
        exact ⟨_, .cons q1 q2, fun z => (List.mem_append.mp z).elim n1 n2⟩
end
def rReprA (K : PySem.W.Frag) : List V → Hp → VK → Prop := fun xs H Q => ∃ a d, xs = [.ref a] ∧ Da (fun _ => False) K H (.ref a) d ∧ d.showable = true ∧ d.depth ≤ 100 ∧ d.shown.length ≤ sizeLine ∧ Q (.str d.shown) H
theorem call_reprA (S : SysM X.base) (hG : Cl X.A) (hu : X.A.units + 150 < cLine) : CallR X (.builtin "repr") (rReprA X.K) := by
  intro pins s σ H xs us Q I r h
  obtain ⟨a, d, rfl, hd, h1, h2, h3, q⟩ := h
  cases r with
  | cons r1 r2 =>
    cases r2
    obtain ⟨as, hr, hn⟩ := Da.reads S I d _ _ hd r1
    cases r1
    exact repr_of_reads' (A := X.A) hr h1 (fun _ => hn) hG (by omega) (fun _ _ e => e) (fun h' u tk hk => ⟨.str d.shown, H, I.kept hk, ⟨u, rfl⟩, q⟩) h3
theorem k_reprA {K : PySem.W.Frag} (e : X.K = K) (S : SysM X.base) (hG : Cl X.A) (hu : X.A.units + 150 < cLine) : CallR X (.builtin "repr") (rReprA K) := e ▸ call_reprA S hG hu
theorem fn_repr {c : Fc} : Fn1 c (fun x => rReprA c.K [x]) o_repr := by
  intro W H x a Q lw hx q
  have h0 := hx.da0
  unfold o_repr at q
  split at q
  · obtain ⟨p, xs, rfl, h1, r1⟩ := pk_lst hx
    exact ⟨p, _, rfl, h0, q.1.1, q.1.2.1, q.1.2.2, q.2 H _ (Same.refl H) (.str _)⟩
  · obtain ⟨p, xs, rfl, h1, r1⟩ := pk_tup hx
    exact ⟨p, _, rfl, h0, q.1.1, q.1.2.1, q.1.2.2, q.2 H _ (Same.refl H) (.str _)⟩
  · exact q.elim
/-! ### isinstance -/
def tyOf : PyData → String
  | .none => "NoneType"
  | .bool _ => "bool"
  | .int _ => "int"
  | .str _ => "str"
  | .list _ => "list"
  | .tuple _ => "tuple"
  | .dict _ => "dict"
def o_isi (T : String) : PyData → M PyData := fun d => (M.opt (kitB (tyOf d) T)).bind fun b => .ret (.bool b)
theorem ty_of {c : Fc} {W : Addr → Prop} {H : Hp} {v : V} {d : PyData} (h : Pk c W H v d) : TyX c.K H v (.type (tyOf d)) := by
  cases d with
  | none => rw [pk_non h]; exact .base .non
  | bool b => rw [pk_bl h]; exact .base (.bl b)
  | int i => rw [pk_int h]; exact .base (.int i)
  | str x => rw [pk_str h]; exact .base (.str x)
  | list ds => obtain ⟨a, xs, rfl, h1, _⟩ := pk_lst h; exact .base (.lst h1)
  | tuple ds =>
    obtain ⟨a, xs, rfl, h1, _⟩ := pk_tup h
    rcases h1 with (h1 | ⟨o, h1⟩) | ⟨o, its, n, h1, h2, _⟩
    · exact .base (.tup h1)
    · exact .fTuple h1
    · exact .kTuple h1 h2
  | dict kvs => obtain ⟨a, rfl, h1⟩ := pk_dic h; exact .base (.dK h1)
theorem pf_isi {c : Fc} {e1 : Expr} {T : String} {x : Str} {p pos ps : Pos} {f : List Cell → M PyData} (eK : X.K = c.K) (hg : Gl X "isinstance") (hm : X.mg "isinstance" = none) (ha : PE X e1 (tG c f)) (hT : PE X (.Name x ps) (tC (.ty T)))
    (hs : starEach [e1, .Name x ps] X.env = (false, eval e1 X.env) :: starEach [.Name x ps] X.env := by rfl) (hs2 : starEach [.Name x ps] X.env = (false, eval (.Name x ps) X.env) :: starEach [] X.env := by rfl)
    (hpl : (backTo pos (starEach [.Name x ps] X.env)).any (·.1) = false := by rfl) :
    PE X (.Call (.Name "isinstance" p) [e1, .Name x ps] [] pos) (tF c (mUn (o_isi T) f)) :=
  pe_weak (pe_callB (k_isi eK) hg hm (by decide +kernel) (pa_cons ha (pa_cons hT pa_nil hs2) hs) (by decide) (by decide) hs hpl) fun σ H Q ⟨W, Γ, S, q⟩ => ⟨W, Γ, S, (f Γ).mono (fun a q H1 v k da => by
    unfold o_isi at q
    cases e : kitB (tyOf a) T with
    | none => rw [e] at q; exact q.elim
    | some b =>
      rw [e] at q
      exact ⟨v, .ty T, _, _, b, rfl, .ty T, ty_of da, kit_ty e, q H1 _ k (.bl b)⟩) q⟩
end
end Dl

set_option Elab.async false
set_option linter.all false
set_option maxRecDepth 100000
set_option maxHeartbeats 2000000
set_option autoImplicit false
/-! Ds: statements by data. -/
namespace Dl
open PySem PySem.Spec PyProof.Rows L2 Gd
inductive Out where
  | nx (Γ : List Cell)
  | bk (Γ : List Cell)
  | ct (Γ : List Cell)
  | rt (d : PyData)
/-- the frame's own lists may be new -/
def Ex (W : Addr → Prop) (H : Hp) (W' : Addr → Prop) : Prop := ∀ a, W' a → W a ∨ H a = none
/-- what is wanted behind a statement -/
def SF (c : Fc) (W : Addr → Prop) (H : Hp) (D : Ends) : Out → Prop
  | .nx Γ => ∀ W' σ' H', Sr c W' H' σ' Γ → Kw c.T W H H' → Ex W H W' → D.nx σ' H'
  | .bk Γ => ∀ W' σ' H', Sr c W' H' σ' Γ → Kw c.T W H H' → Ex W H W' → D.bk σ' H'
  | .ct Γ => ∀ W' σ' H', Sr c W' H' σ' Γ → Kw c.T W H H' → Ex W H W' → D.ct σ' H'
  | .rt d => ∀ H' v, Ch c c.H0 H' → Da c.W0 c.K H' v d → D.rt v H'
def tSF (c : Fc) (g : List Cell → M Out) : TS := fun D σ H => ∃ W Γ, Sr c W H σ Γ ∧ (g Γ).run (SF c W H D)
section
variable {c : Fc} {W W' : Addr → Prop} {H H' H1 H2 : Hp} {σ : L2.St} {Γ : List Cell}
theorem Ex.refl : Ex W H W := fun _ w => .inl w
theorem Kw.trans {W1 : Addr → Prop} (lw : LW c.T W H) (a : Kw c.T W H H1) (b : Kw c.T W1 H1 H2) (e : Ex W H W1) : Kw c.T W H H2 := fun x o n t h => b x o (fun z => by
  rcases e x z with z | z
  · exact n z
  · rw [h] at z
    cases z) t (a x o n t h)
theorem Ex.trans {W1 W2 : Addr → Prop} (lw1 : LW c.T W1 H1) (a : Kw c.T W H H1) (e : Ex W H W1) (e2 : Ex W1 H1 W2) : Ex W H W2 := fun x z => by
  rcases e2 x z with z | z
  · exact e x z
  · cases q : H x with
    | none => exact .inr rfl
    | some o =>
      by_cases w : W x
      · exact .inl w
      · by_cases t : c.T x
        · obtain ⟨ps, q2, _⟩ := lw1.t x t
          rw [q2] at z
          cases z
        · rw [a x o w t q] at z
          cases z
theorem SF.move {W1 : Addr → Prop} {D : Ends} (lw : LW c.T W H) (lw1 : LW c.T W1 H1) (a : Kw c.T W H H1) (e : Ex W H W1) : ∀ {o : Out}, SF c W H D o → SF c W1 H1 D o
  | .nx Γ, q => fun W' σ' H' S k x => q W' σ' H' S (Kw.trans lw a k e) (Ex.trans lw1 a e x)
  | .bk Γ, q => fun W' σ' H' S k x => q W' σ' H' S (Kw.trans lw a k e) (Ex.trans lw1 a e x)
  | .ct Γ, q => fun W' σ' H' S k x => q W' σ' H' S (Kw.trans lw a k e) (Ex.trans lw1 a e x)
  | .rt d, q => q
theorem SF.chm {D : Ends} (S : Sr c W H σ Γ) (k : Ch c H H1) {o : Out} (q : SF c W H D o) : SF c W H1 D o := SF.move S.lw (S.lwC k) (S.kwC k) Ex.refl q
theorem set_at {α : Type} {l : List α} {i j : Nat} {a b : α} (h : (l.set i a)[j]? = some b) : (i = j ∧ a = b ∧ i < l.length) ∨ (i ≠ j ∧ l[j]? = some b) := by
  by_cases e : i = j
  · subst e
    by_cases z : i < l.length
    · rw [List.getElem?_set_self z] at h
      exact .inl ⟨rfl, Option.some.inj h, z⟩
    · rw [List.getElem?_eq_none (by rw [List.length_set]; omega)] at h
      cases h
  · rw [List.getElem?_set_ne e] at h
    exact .inr ⟨e, h⟩
/-- a slot is set to a datum -/
theorem Sr.set (S : Sr c W H σ Γ) {i : Nat} {v : V} {d : PyData} (h : Da W c.K H v d) : Sr c W H (σ.set i (some v)) (Γ.set i (.im d)) where
  len := by rw [List.length_set, List.length_set]; exact S.len
  at' := fun j z e => by
    rcases set_at e with ⟨rfl, rfl, l⟩ | ⟨n, e⟩
    · rw [List.getElem?_set_self (by rw [S.len]; exact l)]
      exact ⟨v, rfl, h⟩
    · rw [List.getElem?_set_ne n]
      exact S.at' j z e
  sep := fun j k a ds es n e1 e2 e3 e4 => by
    rcases set_at e1 with ⟨_, z, _⟩ | ⟨n1, e1⟩
    · cases z
    · rcases set_at e2 with ⟨_, z, _⟩ | ⟨n2, e2⟩
      · cases z
      · rw [List.getElem?_set_ne n1] at e3
        rw [List.getElem?_set_ne n2] at e4
        exact S.sep j k a ds es n e1 e2 e3 e4
  wok := S.wok
  sub := S.sub
  lw := S.lw
  new := S.new
  ch0 := S.ch0
/-- a slot is forgotten -/
theorem Sr.un (S : Sr c W H σ Γ) {i : Nat} {v : Option V} : Sr c W H (σ.set i v) (Γ.set i .un) where
  len := by rw [List.length_set, List.length_set]; exact S.len
  at' := fun j z e => by
    rcases set_at e with ⟨rfl, rfl, l⟩ | ⟨n, e⟩
    · trivial
    · rw [List.getElem?_set_ne n]
      exact S.at' j z e
  sep := fun j k a ds es n e1 e2 e3 e4 => by
    rcases set_at e1 with ⟨_, z, _⟩ | ⟨n1, e1⟩
    · cases z
    · rcases set_at e2 with ⟨_, z, _⟩ | ⟨n2, e2⟩
      · cases z
      · rw [List.getElem?_set_ne n1] at e3
        rw [List.getElem?_set_ne n2] at e4
        exact S.sep j k a ds es n e1 e2 e3 e4
  wok := S.wok
  sub := S.sub
  lw := S.lw
  new := S.new
  ch0 := S.ch0
abbrev W1 (W : Addr → Prop) (p : Addr) : Addr → Prop := fun a => W a ∨ a = p
theorem da_new {p : Addr} {o : HO} (hp : H p = none) {v : V} {d : PyData} (h : Da W c.K H v d) : Da (W1 W p) c.K (upd H p o) v d :=
  (h.w fun a xs e n z => by
    rcases z with z | rfl
    · exact n z
    · rw [hp] at e
      cases e).same (same_new hp)
theorem dal_new {p : Addr} {o : HO} (hp : H p = none) {v : List V} {d : List PyData} (h : DaL W c.K H v d) : DaL (W1 W p) c.K (upd H p o) v d :=
  (h.w fun a xs e n z => by
    rcases z with z | rfl
    · exact n z
    · rw [hp] at e
      cases e).same (same_new hp)
theorem Sr.h0 (S : Sr c W H σ Γ) {p : Addr} (hp : H p = none) : c.H0 p = none := by
  cases e : c.H0 p with
  | none => rfl
  | some o =>
    by_cases w : some p = c.ow
    · have := S.wl p w.symm
      obtain ⟨_, _, _, q, _⟩ := this
      rw [hp] at q
      cases q
    · by_cases t : c.T p
      · exact (S.lw.domT hp t).elim
      · rw [S.ch0 p o w t e] at hp
        cases hp
theorem Sr.noow (S : Sr c W H σ Γ) {p : Addr} (hp : H p = none) : some p ≠ c.ow := fun w => by
  obtain ⟨_, _, _, q, _⟩ := S.wl p w.symm
  rw [hp] at q
  cases q
theorem W1.less {p : Addr} : ∀ a, W a → W1 W p a := fun _ z => .inl z
/-- what the frame knew ahead of a new list has nothing of it -/
theorem Sr.apart (S : Sr c W H σ Γ) {p : Addr} (k : Ch c H H1) (hp : H p = none) {v : V} {d : PyData} (h : Da W c.K H v d) : Da (W1 W p) c.K H1 v d := by
  have q : Da (W1 W p) c.K H v d := h.w fun a xs e n z => by
    rcases z with z | rfl
    · exact n z
    · rw [hp] at e
      cases e
  have lv : LV c.T (W1 W p) H := by
    refine ⟨fun a o w e => ?_, S.lw.t⟩
    rcases w with w | rfl
    · obtain ⟨xs, e2⟩ := S.lw.l a w
      rw [e] at e2
      exact ⟨xs, Option.some.inj e2⟩
    · rw [hp] at e
      cases e
  exact q.kw lv fun b o n t e => S.kwC k b o (fun z => n (.inl z)) t e
theorem Sr.apartL (S : Sr c W H σ Γ) {p : Addr} (k : Ch c H H1) (hp : H p = none) : ∀ {vs : List V} {ds : List PyData}, DaL W c.K H vs ds → DaL (W1 W p) c.K H1 vs ds
  | _, _, .nil => .nil
  | _, _, .cons h r => .cons (S.apart k hp h) (Sr.apartL S k hp r)
/-- a list that came while an expression was reckoned: it is in W from now on -/
theorem Sr.more (S : Sr c W H σ Γ) {p : Addr} {xs : List V} (k : Ch c H H1) (hp : H p = none) (e : H1 p = some (.lst xs)) : Sr c (W1 W p) H1 σ Γ where
  len := S.len
  at' := fun i z e => by
    have q := S.at' i z e
    cases z with
    | un => trivial
    | im d => obtain ⟨u, e1, a⟩ := q; exact ⟨u, e1, S.apart k hp a⟩
    | ow ds => obtain ⟨a, xs, e1, w, w0, m, e2, r⟩ := q; exact ⟨a, xs, e1, .inl w, w0, m, k.kp _ _ m (S.lw.noT e2 fun _ z => by cases z) e2, S.apartL k hp r⟩
    | well => exact q
  sep := S.sep
  wok := fun w e => ⟨(S.wok w e).1, k.wl w e⟩
  sub := fun a z => .inl (S.sub a z)
  lw := ⟨fun a z => by
    rcases z with z | rfl
    · exact (S.lwC k).l a z
    · exact ⟨xs, e⟩, k.tb⟩
  new := fun a z z0 => by
    rcases z with z | rfl
    · exact S.new a z z0
    · exact S.h0 hp
  ch0 := (S.ch k).ch0
/-- .. and a slot's own -/
theorem Sr.own (S : Sr c W H σ Γ) {i p : Nat} {xs : List V} {ds : List PyData} (k : Ch c H H1) (hp : H p = none) (e : H1 p = some (.lst xs)) (r : DaL (W1 W p) c.K H1 xs ds) : Sr c (W1 W p) H1 (σ.set i (some (.ref p))) (Γ.set i (.ow ds)) := by
  have S1 := S.more k hp e
  have old : ∀ (j : Nat) (es : List PyData), Γ[j]? = some (.ow es) → σ[j]? = some (some (.ref p)) → False := fun j es e1 e2 => by
    obtain ⟨a, ys, e3, w, _, _, e4, _⟩ := S.at' j _ e1
    rw [e2] at e3
    cases e3
    rw [hp] at e4
    cases e4
  exact {
    len := by rw [List.length_set, List.length_set]; exact S.len
    at' := fun j z e' => by
      rcases set_at e' with ⟨rfl, rfl, l⟩ | ⟨n, e'⟩
      · rw [List.getElem?_set_self (by rw [S.len]; exact l)]
        exact ⟨p, xs, rfl, .inr rfl, fun z => S.lw.dom hp (S.sub p z), S.noow hp, e, r⟩
      · rw [List.getElem?_set_ne n]
        exact S1.at' j z e'
    sep := fun j k a ds es n e1 e2 e3 e4 => by
      rcases set_at e1 with ⟨rfl, z, l1⟩ | ⟨n1, e1⟩
      · rw [List.getElem?_set_self (by rw [S.len]; exact l1)] at e3
        cases e3
        rcases set_at e2 with ⟨rfl, _, _⟩ | ⟨n2, e2⟩
        · exact n rfl
        · rw [List.getElem?_set_ne n2] at e4
          exact old k es e2 e4
      · rw [List.getElem?_set_ne n1] at e3
        rcases set_at e2 with ⟨rfl, z, l1⟩ | ⟨n2, e2⟩
        · rw [List.getElem?_set_self (by rw [S.len]; exact l1)] at e4
          cases e4
          exact old j ds e1 e3
        · rw [List.getElem?_set_ne n2] at e4
          exact S.sep j k a ds es n e1 e2 e3 e4
    wok := S1.wok
    sub := S1.sub
    lw := S1.lw
    new := S1.new
    ch0 := S1.ch0 }
/-- a slot's own list is written -/
theorem Sr.put (S : Sr c W H σ Γ) {i : Nat} {a : Addr} {ds es : List PyData} {ys : List V} (e : Γ[i]? = some (.ow ds)) (e2 : σ[i]? = some (some (.ref a))) (r : DaL W c.K H ys es) : Sr c W (upd H a (.lst ys)) σ (Γ.set i (.ow es)) ∧ Kw c.T W H (upd H a (.lst ys)) := by
  obtain ⟨a', xs, e3, w, w0, m, e4, r0⟩ := S.at' i _ e
  rw [e2] at e3
  cases e3
  have kw : Kw c.T W H (upd H a (.lst ys)) := fun b o n t h => by
    rw [upd_ne (fun z => n (by rw [z]; exact w))]
    exact h
  refine ⟨{
    len := by rw [List.length_set]; exact S.len
    at' := fun j z e' => ?_
    sep := fun j k b ds' es' n e1 e2' e3 e4' => ?_
    wok := fun v e5 => ⟨(S.wok v e5).1, ?_⟩
    sub := S.sub
    lw := ⟨fun b z => ?_, fun b t => ?_⟩
    new := S.new
    ch0 := fun b o n t h => ?_ }, kw⟩
  · rcases set_at e' with ⟨rfl, rfl, l⟩ | ⟨n, e'⟩
    · exact ⟨a, ys, e2, w, w0, m, upd_same, r.kw S.lw.v kw⟩
    · have q := S.at' j z e'
      cases z with
      | un => trivial
      | im d => obtain ⟨u, e1, q⟩ := q; exact ⟨u, e1, q.kw S.lw.v kw⟩
      | ow ds' =>
        obtain ⟨b, zs, q1, q2, q3, q4, q5, q6⟩ := q
        refine ⟨b, zs, q1, q2, q3, q4, ?_, q6.kw S.lw.v kw⟩
        rw [upd_ne]
        · exact q5
        · rintro rfl
          exact S.sep i j b ds ds' n e e' e2 q1
      | well => exact q
  · have back : ∀ {j : Nat} {fs : List PyData}, (Γ.set i (.ow es))[j]? = some (.ow fs) → ∃ gs, Γ[j]? = some (.ow gs) := fun {j fs} h => by
      rcases set_at h with ⟨rfl, _, _⟩ | ⟨_, h⟩
      · exact ⟨_, e⟩
      · exact ⟨_, h⟩
    obtain ⟨g1, h1⟩ := back e1
    obtain ⟨g2, h2⟩ := back e2'
    exact S.sep j k b g1 g2 n h1 h2 e3 e4'
  · obtain ⟨x, y, z, q, q2⟩ := S.wl v e5
    refine ⟨x, y, z, ?_, q2⟩
    rw [upd_ne]
    · exact q
    · rintro rfl
      exact m e5.symm
  · by_cases z2 : b = a
    · exact ⟨ys, by rw [z2]; exact upd_same⟩
    · obtain ⟨xs, q⟩ := S.lw.l b z
      exact ⟨xs, by rw [upd_ne z2]; exact q⟩
  · obtain ⟨ps, q, q2⟩ := S.lw.t b t
    refine ⟨ps, ?_, q2⟩
    rw [upd_ne]
    · exact q
    · rintro rfl
      rw [e4] at q
      cases q
  · rw [upd_ne]
    · exact S.ch0 b o n t h
    · rintro rfl
      rw [S.new b w w0] at h
      cases h
end
end Dl

set_option Elab.async false
set_option linter.all false
set_option maxRecDepth 100000
set_option maxHeartbeats 2000000
set_option autoImplicit false
/-! Du: the statements' rules by data. -/
namespace Dl
open PySem PySem.Spec PyProof.Rows L2 Gd
abbrev Sg := List Cell → M Out
def sNext : Sg := fun Γ => .ret (.nx Γ)
def sBrk : Sg := fun Γ => .ret (.bk Γ)
def sCnt : Sg := fun Γ => .ret (.ct Γ)
def sNever : Sg := fun _ => .fail
/-- what follows -/
def thenO (g : Sg) : Out → M Out
  | .nx Γ => g Γ
  | o => .ret o
def sSeq (g1 g2 : Sg) : Sg := fun Γ => (g1 Γ).bind (thenO g2)
def sIf (t : List Cell → M Bool) (g1 g2 : Sg) : Sg := fun Γ => (t Γ).bind fun b => if b then g1 Γ else g2 Γ
def sRet (f : List Cell → M PyData) : Sg := fun Γ => (f Γ).bind fun d => .ret (.rt d)
def sRetN : Sg := fun _ => .ret (.rt .none)
def sDrop (f : List Cell → M PyData) : Sg := fun Γ => (f Γ).bind fun _ => .ret (.nx Γ)
/-- a slot's own list is handed back -/
def sRetO (i : Nat) : Sg := fun Γ => match Γ[i]? with
  | some (.ow ds) => .ret (.rt (.list ds))
  | _ => .fail
/-- a target: what it makes of a datum -/
abbrev Bg := PyData → List Cell → M (List Cell)
abbrev Bgs := List PyData → List Cell → M (List Cell)
def bNm (i : Nat) : Bg := fun d Γ => .ret (Γ.set i (.im d))
def bNil : Bgs := fun ds Γ => match ds with
  | [] => .ret Γ
  | _ => .fail
def bCons (b : Bg) (r : Bgs) : Bgs := fun ds Γ => match ds with
  | d :: ds => (b d Γ).bind fun Γ' => r ds Γ'
  | _ => .fail
def bTup (n : Nat) (r : Bgs) : Bg := fun d Γ => match d with
  | .tuple ds => (M.gd (ds.length = n)).bind fun _ => r ds Γ
  | _ => .fail
def sAsg (f : List Cell → M PyData) (b : Bg) : Sg := fun Γ => (f Γ).bind fun d => (b d Γ).bind fun Γ' => .ret (.nx Γ')
abbrev sSet (i : Nat) (f : List Cell → M PyData) : Sg := sAsg f (bNm i)
/-- a new list -/
def sOwn (i : Nat) (F : List Cell → M (List PyData)) : Sg := fun Γ => (F Γ).bind fun ds => .ret (.nx (Γ.set i (.ow ds)))
def sApp (i : Nat) (f : List Cell → M PyData) : Sg := fun Γ => match Γ[i]? with
  | some (.ow ds) => (f Γ).bind fun d => (M.gd (ds.length < 1000)).bind fun _ => .ret (.nx (Γ.set i (.ow (ds ++ [d]))))
  | _ => .fail
def sPar (i j : Nat) (F : List Cell → M (List PyData)) : Sg := fun Γ => (F Γ).bind fun ds => match ds with
  | [a, b] => .ret (.nx ((Γ.set i (.im a)).set j (.im b)))
  | _ => .fail
def sPar3 (i j l : Nat) (F : List Cell → M (List PyData)) : Sg := fun Γ => (F Γ).bind fun ds => match ds with
  | [a, b, d] => .ret (.nx (((Γ.set i (.im a)).set j (.im b)).set l (.im d)))
  | _ => .fail
/-- x, y = [..], e -/
def sParO (i j : Nat) (F : List Cell → M (List PyData)) (f : List Cell → M PyData) : Sg := fun Γ => (F Γ).bind fun ds => (f Γ).bind fun d => .ret (.nx ((Γ.set i (.ow ds)).set j (.im d)))
/-- a frame's own list is written no more -/
def sFrz (i : Nat) (g : Sg) : Sg := fun Γ => match Γ[i]? with
  | some (.ow ds) => g (Γ.set i (.im (.list ds)))
  | _ => .fail
/-- a new list, and where it was not there yet -/
def tN (c : Fc) (F : List Cell → M (List PyData)) : TE := fun σ H Q => ∃ W Γ, Sr c W H σ Γ ∧ (F Γ).run fun ds => ∀ H' p xs, Ch c H H' → H p = none → H' p = some (.lst xs) → DaL (W1 W p) c.K H' xs ds → Q (.ref p) H'
/-- the slots of that list alone may be others -/
def Only (is : List Nat) (σ σ' : L2.St) : Prop := σ'.length = σ.length ∧ ∀ i, i ∉ is → σ'[i]? = σ[i]?
def tGF (c : Fc) (is : List Nat) (b : Bg) : TG := fun v σ H N => ∃ W Γ d, Sr c W H σ Γ ∧ Da W c.K H v d ∧ (b d Γ).run fun Γ' => ∀ σ', Sr c W H σ' Γ' → Only is σ σ' → N σ' H
def tGsF (c : Fc) (is : List Nat) (b : Bgs) : TGs := fun vs σ H N => ∃ W Γ ds, Sr c W H σ Γ ∧ DaL W c.K H vs ds ∧ (b ds Γ).run fun Γ' => ∀ σ', Sr c W H σ' Γ' → Only is σ σ' → N σ' H
section
variable {X : Cx} {c : Fc} {e e1 e2 e3 : Expr} {es : List Expr} {f g h : List Cell → M PyData} {F : List Cell → M (List PyData)} {t u : List Cell → M Bool} {pos : Pos} {d : PyData} {g1 g2 : Sg} {st : Stmt} {ss s2 : List Stmt} {b : Bg} {bs : Bgs} {is js : List Nat} {tg : Expr} {ts : List Expr}
theorem ps_weak {t t' : TS} (h : PS X st t) (f : ∀ D σ H, t' D σ H → t D σ H) : PS X st t' := ⟨fun pins s σ H D I q => h.run pins s σ H D I (f D σ H q)⟩
theorem pss_weak {t t' : TS} (h : PSs X ss t) (f : ∀ D σ H, t' D σ H → t D σ H) : PSs X ss t' := ⟨fun pins s σ H D I q => h.run pins s σ H D I (f D σ H q)⟩
theorem pg_weak {t t' : TG} (h : PG X tg t) (f : ∀ v σ H N, t' v σ H N → t v σ H N) : PG X tg t' := ⟨fun pins s σ H v u N I r q => h.run pins s σ H v u N I r (f v σ H N q)⟩
theorem pgs_weak {t t' : TGs} (h : PGs X ts t) (f : ∀ v σ H N, t' v σ H N → t v σ H N) : PGs X ts t' := ⟨fun pins s σ H v u N I r q => h.run pins s σ H v u N I r (f v σ H N q)⟩
theorem tSF_seq {W : Addr → Prop} {Γ : List Cell} {H H1 : Hp} {σ : L2.St} {D : Ends} (S : Sr c W H σ Γ) (k : Ch c H H1) (q : (g1 Γ).run (SF c W H D)) : tSF c g1 D σ H1 := ⟨W, Γ, S.ch k, (g1 Γ).mono (fun o z => SF.chm S k z) q⟩
theorem SF.nx1 {W : Addr → Prop} {H H1 : Hp} {σ σ' : L2.St} {Γ Γ' : List Cell} {D : Ends} (S : Sr c W H σ Γ) (k : Ch c H H1) (q : SF c W H D (.nx Γ')) (S' : Sr c W H1 σ' Γ') : D.nx σ' H1 := q W σ' H1 S' (S.kwC k) Ex.refl
theorem sf_nil : PSs X [] (tSF c sNext) := pss_weak pss_nil fun D σ H ⟨W, Γ, S, q⟩ => q.nx1 S S.refl S
theorem sf_cons (h1 : PS X st (tSF c g1)) (h2 : PSs X ss (tSF c g2)) : PSs X (st :: ss) (tSF c (sSeq g1 g2)) := pss_weak (pss_cons h1 h2) fun D σ H ⟨W, Γ, S, q⟩ => ⟨W, Γ, S, (g1 Γ).mono (fun o q => by
  cases o with
  | nx Γ' => exact fun W' σ' H' S' k x => ⟨W', Γ', S', (g2 Γ').mono (fun o z => SF.move S.lw S'.lw k x z) q⟩
  | bk Γ' => exact q
  | ct Γ' => exact q
  | rt d => exact q) q⟩
theorem sf_one (h1 : PS X st (tSF c g1)) : PSs X [st] (tSF c g1) := pss_one h1
theorem sf_pass : PS X (.Pass pos) (tSF c sNext) := ps_weak ps_pass fun D σ H ⟨W, Γ, S, q⟩ => q.nx1 S S.refl S
theorem sf_brk : PS X (.Break pos) (tSF c sBrk) := ps_weak ps_break fun D σ H ⟨W, Γ, S, q⟩ => q W σ H S Kw.refl Ex.refl
theorem sf_cnt : PS X (.Continue pos) (tSF c sCnt) := ps_weak ps_continue fun D σ H ⟨W, Γ, S, q⟩ => q W σ H S Kw.refl Ex.refl
theorem sf_never : PS X st (tSF c sNever) := ps_weak ps_never fun D σ H ⟨W, Γ, S, q⟩ => q.elim
theorem sf_if (ht : PT X e (tTF c t)) (h1 : PSs X ss (tSF c g1)) (h2 : PSs X s2 (tSF c g2)) : PS X (.If e ss s2 pos) (tSF c (sIf t g1 g2)) := ps_weak (ps_if ht h1 h2) fun D σ H ⟨W, Γ, S, q⟩ => ⟨W, Γ, S, (t Γ).mono (fun b q H1 k => by
  cases b with
  | true => exact tSF_seq S k q
  | false => exact tSF_seq S k q) q⟩
theorem sf_ret (he : PE X e (tF c f)) : PS X (.Return (some e) pos) (tSF c (sRet f)) := ps_weak (ps_ret he) fun D σ H ⟨W, Γ, S, q⟩ => ⟨W, Γ, S, (f Γ).mono (fun d q H1 v k a => q H1 v (S.ret.trans k) (a.less S.sub)) q⟩
theorem sf_retN : PS X (.Return none pos) (tSF c sRetN) := ps_weak ps_retN fun D σ H ⟨W, Γ, S, q⟩ => q H _ S.ret .non
theorem sf_retO {i : Nat} (he : PE X e (tVar i)) : PS X (.Return (some e) pos) (tSF c (sRetO i)) := ps_weak (ps_ret he) fun D σ H ⟨W, Γ, S, q⟩ => by
  unfold sRetO at q
  split at q
  · rename_i ds e1
    obtain ⟨a, xs, e2, w, w0, m, h1, h2⟩ := S.at' i _ e1
    exact ⟨_, e2, q H _ S.ret (.lst w0 h1 (h2.less S.sub))⟩
  · exact q.elim
theorem sf_expr (he : PE X e (tF c f)) (hs : swapsWith e none pos.line X.env = pure false := by rfl) : PS X (.Expr e pos) (tSF c (sDrop f)) := ps_weak (ps_expr he hs) fun D σ H ⟨W, Γ, S, q⟩ => ⟨W, Γ, S, (f Γ).mono (fun d q H1 v k a => q.nx1 S k (S.ch k)) q⟩
/-! targets -/
theorem pgf_name {i : Nat} (hg : PG X e (gName i)) : PG X e (tGF c [i] (bNm i)) := pg_weak hg fun v σ H N ⟨W, Γ, d, S, a, q⟩ => q _ (S.set a) ⟨by rw [List.length_set], fun j n => List.getElem?_set_ne (fun z => n (by simp [z]))⟩
theorem pgsf_nil : PGs X [] (tGsF c [] bNil) := pgs_weak pgs_nil fun vs σ H N ⟨W, Γ, ds, S, a, q⟩ => by
  cases a with
  | nil => exact ⟨rfl, q σ S ⟨rfl, fun _ _ => rfl⟩⟩
  | cons => exact q.elim
theorem pgsf_cons (h1 : PG X e (tGF c is b)) (h2 : PGs X es (tGsF c js bs)) (hs : (assignEach (e :: es) X.env).map (·.2) = assign e X.env :: (assignEach es X.env).map (·.2) := by rfl) : PGs X (e :: es) (tGsF c (is ++ js) (bCons b bs)) := pgs_weak (pgs_cons h1 h2 hs) fun vs σ H N ⟨W, Γ, ds, S, a, q⟩ => by
  cases a with
  | nil => exact q.elim
  | cons a r => exact ⟨_, _, rfl, W, Γ, _, S, a, (b _ Γ).mono (fun Γ' q σ' S' s1 => ⟨W, Γ', _, S', r, (bs _ Γ').mono (fun Γ2 q σ2 S2 s2 => q σ2 S2 ⟨s2.1.trans s1.1, fun i n => (s2.2 i fun z => n (List.mem_append_right _ z)).trans (s1.2 i fun z => n (List.mem_append_left _ z))⟩) q⟩) q⟩
theorem pgf_tup {k n : Nat} (hc : X.calm = true) (eK : X.K = c.K) (h : PGs X es (tGsF c is bs)) (hn : (assignEach es X.env).length = n := by rfl) (hst : (assignEach es X.env).findIdx? (·.1) = none := by rfl) : PG X (.Tuple es k pos) (tGF c is (bTup n bs)) :=
  pg_weak (k_gtup eK hc h hn hst) fun v σ H N ⟨W, Γ, d, S, a, q⟩ => by
    cases a with
    | tup h1 r => exact ⟨_, _, rfl, h1, by rw [r.length]; exact q.1, W, Γ, _, S, r, q.2⟩
    | _ => exact q.elim
/-! assignments -/
theorem sf_asg (he : PE X e (tF c f)) (hg : PG X tg (tGF c is b)) (hs : swapsWithSole [tg] e pos.line X.env = pure false := by rfl) (hw : swappedStores [tg] e X.env = pure none := by rfl)
    (h1 : (assignEach [tg] X.env).map (·.2) = [assign tg X.env] := by rfl) : PS X (.Assign [tg] e pos) (tSF c (sAsg f b)) := ps_weak (ps_asg he hg hs hw h1) fun D σ H ⟨W, Γ, S, q⟩ => ⟨W, Γ, S, (f Γ).mono (fun d q H1 v k a =>
      ⟨W, Γ, d, S.ch k, a, (b d Γ).mono (fun Γ' q σ' S' _ => q.nx1 S k S') q⟩) q⟩
theorem sf_own {i : Nat} (h : PS X st (tAsg (tN c F) (gName i))) : PS X st (tSF c (sOwn i F)) := ps_weak h fun D σ H ⟨W, Γ, S, q⟩ => ⟨W, Γ, S, (F Γ).mono (fun ds q H1 p xs k hp e r => q _ _ H1 (S.own k hp e r) (S.kwC k) fun a z => z.imp id fun w => by rw [w]; exact hp) q⟩
theorem sf_app {i : Nat} (h : PS X st (tDrop (tBM c.K "list" rAppend (tVar i) (tCons (tF c f) tNil)))) : PS X st (tSF c (sApp i f)) := ps_weak h fun D σ H ⟨W, Γ, S, q⟩ => by
  unfold sApp at q
  split at q
  · rename_i ds e1
    obtain ⟨a, xs, e2, w, w0, m, h1, h2⟩ := S.at' i _ e1
    refine ⟨_, e2, .inl ⟨rfl, _, .inl (.inl h1)⟩, W, Γ, S, (f Γ).mono (fun d q H1 v k da => ?_) q⟩
    have h1' : H1 a = some (.lst xs) := k.kp _ _ m (S.lw.noT h1 fun _ z => by cases z) h1
    have S1 := S.ch k
    obtain ⟨S2, k2⟩ := S1.put e1 e2 ((S.dal k h2).append (.cons da .nil))
    refine ⟨a, xs, v, rfl, rfl, h1', ?_, q.2 W σ _ S2 (Kw.trans S.lw (S.kwC k) k2 Ex.refl) Ex.refl⟩
    have := h2.length
    have z := q.1
    exact Nat.lt_of_lt_of_le (by omega : xs.length < 1000) (by decide)
  · exact q.elim
theorem sf_par {i j : Nat} (h : PS X st (tPar i j (tAF c F))) : PS X st (tSF c (sPar i j F)) := ps_weak h fun D σ H ⟨W, Γ, S, q⟩ => ⟨W, Γ, S, (F Γ).mono (fun ds q H1 vs k a => by
  dsimp only at q
  split at q
  · cases a with | cons a1 r => cases r with | cons a2 r => cases r; exact ⟨_, _, rfl, q.nx1 S k (((S.ch k).set a1).set a2)⟩
  · exact q.elim) q⟩
theorem sf_par3 {i j l : Nat} (h : PS X st (tPar3 i j l (tAF c F))) : PS X st (tSF c (sPar3 i j l F)) := ps_weak h fun D σ H ⟨W, Γ, S, q⟩ => ⟨W, Γ, S, (F Γ).mono (fun ds q H1 vs k a => by
  dsimp only at q
  split at q
  · cases a with | cons a1 r => cases r with | cons a2 r => cases r with | cons a3 r => cases r; exact ⟨_, _, _, rfl, q.nx1 S k ((((S.ch k).set a1).set a2).set a3)⟩
  · exact q.elim) q⟩
theorem sf_parO {i j : Nat} (h : PS X st (tPar i j (tCons (tN c F) (tCons (tF c f) tNil)))) (n : i ≠ j) : PS X st (tSF c (sParO i j F f)) := ps_weak h fun D σ H ⟨W, Γ, S, q⟩ => ⟨W, Γ, S, (F Γ).mono (fun ds q H1 p xs k hp e r => by
  have S1 := S.more k hp e
  refine ⟨_, Γ, S1, (f Γ).mono (fun d q H2 v k2 da => ?_) q⟩
  have e2 : H2 p = some (.lst xs) := k2.kp _ _ (S.noow hp) (S1.lw.noT e fun _ z => by cases z) e
  have S2 := (S.own (i := i) (k.trans k2) hp e2 (S1.dal k2 r)).set (i := j) da
  exact ⟨_, _, rfl, q _ _ H2 S2 (S.kwC (k.trans k2)) fun a z => z.imp id fun w => by rw [w]; exact hp⟩) q⟩
/-! a frame's own list is frozen -/
theorem Sr.frz {W : Addr → Prop} {H : Hp} {σ : L2.St} {Γ : List Cell} (S : Sr c W H σ Γ) {i : Nat} {ds : List PyData} (e : Γ[i]? = some (.ow ds)) : ∃ W', (∀ a, W' a → W a) ∧ Sr c W' H σ (Γ.set i (.im (.list ds))) := by
  obtain ⟨a, xs, e2, w, w0, m, h1, h2⟩ := S.at' i _ e
  refine ⟨fun b => W b ∧ b ≠ a, fun b z => z.1, ?_⟩
  have le : ∀ b, (W b ∧ b ≠ a) → W b := fun b z => z.1
  exact {
    len := by rw [List.length_set]; exact S.len
    at' := fun j z e' => by
      rcases set_at e' with ⟨rfl, rfl, l⟩ | ⟨n, e'⟩
      · exact ⟨_, e2, .lst (fun z => z.2 rfl) h1 (h2.less le)⟩
      · have q := S.at' j z e'
        cases z with
        | un => trivial
        | im d => obtain ⟨u, e1, q⟩ := q; exact ⟨u, e1, q.less le⟩
        | ow ds' =>
          obtain ⟨b, zs, q1, q2, q3, q4, q5, q6⟩ := q
          refine ⟨b, zs, q1, ⟨q2, ?_⟩, q3, q4, q5, q6.less le⟩
          rintro rfl
          exact S.sep i j b ds ds' n e e' e2 q1
        | well => exact q
    sep := fun j k b ds' es' n e1 e2' e3 e4' => by
      rcases set_at e1 with ⟨_, z, _⟩ | ⟨n1, e1⟩
      · cases z
      · rcases set_at e2' with ⟨_, z, _⟩ | ⟨n2, e2'⟩
        · cases z
        · exact S.sep j k b ds' es' n e1 e2' e3 e4'
    wok := S.wok
    sub := fun b z => ⟨S.sub b z, by rintro rfl; exact w0 z⟩
    lw := ⟨fun b z => S.lw.l b z.1, S.lw.t⟩
    new := fun b z z0 => S.new b z.1 z0
    ch0 := S.ch0 }
theorem SF.less {W W' : Addr → Prop} {H : Hp} {D : Ends} (le : ∀ a, W' a → W a) : ∀ {o : Out}, SF c W H D o → SF c W' H D o
  | .nx Γ, q => fun V σ' H' S k x => q V σ' H' S (fun b o n t h => k b o (fun z => n (le b z)) t h) fun a z => (x a z).imp (le a) id
  | .bk Γ, q => fun V σ' H' S k x => q V σ' H' S (fun b o n t h => k b o (fun z => n (le b z)) t h) fun a z => (x a z).imp (le a) id
  | .ct Γ, q => fun V σ' H' S k x => q V σ' H' S (fun b o n t h => k b o (fun z => n (le b z)) t h) fun a z => (x a z).imp (le a) id
  | .rt d, q => q
theorem sf_frz {i : Nat} (h : PS X st (tSF c g1)) : PS X st (tSF c (sFrz i g1)) := ps_weak h fun D σ H ⟨W, Γ, S, q⟩ => by
  unfold sFrz at q
  split at q
  · rename_i ds e1
    obtain ⟨W', le, S'⟩ := S.frz e1
    exact ⟨W', _, S', (g1 _).mono (fun o z => SF.less le z) q⟩
  · exact q.elim
/-! new lists -/
theorem pn_f (h : PE X e (tN c F)) : PE X e (tF c fun Γ => (F Γ).bind fun ds => .ret (.list ds)) := pe_weak h fun σ H Q ⟨W, Γ, S, q⟩ => ⟨W, Γ, S, (F Γ).mono (fun ds q H' p xs k hp e r => q H' _ k (.lst (S.lw.dom hp) e (r.less fun a z => .inl z))) q⟩
def nLst (F : List Cell → M (List PyData)) : List Cell → M (List PyData) := fun Γ => (F Γ).bind fun ds => (M.gd (ds.length ≤ 1000)).bind fun _ => .ret ds
theorem Ch.free {c : Fc} {W : Addr → Prop} {H H1 : Hp} {σ : L2.St} {Γ : List Cell} (S : Sr c W H σ Γ) (k : Ch c H H1) {p : Addr} (hp : H1 p = none) : H p = none := by
  cases e : H p with
  | none => rfl
  | some o =>
    by_cases w : some p = c.ow
    · obtain ⟨_, _, _, q, _⟩ := k.wl p w.symm
      rw [hp] at q
      cases q
    · by_cases t : c.T p
      · obtain ⟨_, q, _⟩ := k.tb p t
        rw [hp] at q
        cases q
      · rw [k.kp p o w t e] at hp
        cases hp
theorem pn_lst (h : PA X es (tAF c F)) : PE X (.List es pos) (tN c (nLst F)) := pe_weak (pe_lst h) fun σ H Q ⟨W, Γ, S, q⟩ => ⟨W, Γ, S, (F Γ).mono (fun ds q H1 vs k dd =>
  ⟨Nat.le_trans (by rw [dd.length]; exact q.1) (by decide), fun p hp => q.2 _ p vs (k.trans ((S.ch k).new1 hp)) (Ch.free S k hp) upd_same (dal_new hp dd)⟩) q⟩
end
end Dl

set_option Elab.async false
set_option linter.all false
set_option maxRecDepth 100000
set_option maxHeartbeats 2000000
set_option autoImplicit false
/-! Dw: what is walked, loops, comprehensions, by data. -/
namespace Dl
open PySem PySem.Spec PyProof.Rows L2 Gd RZ
section
variable {c : Fc} {W Wc : Addr → Prop} {H H1 H2 : Hp} {v : V} {d : PyData} {vs : List V} {ds : List PyData}
theorem Da.move (lw : LW c.T W H1) (x : Ex W H1 Wc) (k : Kw c.T W H1 H) (h : Da W c.K H1 v d) : Da Wc c.K H v d := by
  have h1 : Da (fun a => W a ∨ Wc a) c.K H1 v d := h.w fun a xs e n z => by
    rcases z with z | z
    · exact n z
    · rcases x a z with z | z
      · exact n z
      · rw [e] at z
        cases z
  have lv : LV c.T (fun a => W a ∨ Wc a) H1 := ⟨fun a o w e => by
    have w' : W a := by
      rcases w with w | w
      · exact w
      · rcases x a w with z | z
        · exact z
        · rw [e] at z
          cases z
    obtain ⟨xs, e2⟩ := lw.l a w'
    rw [e] at e2
    exact ⟨xs, Option.some.inj e2⟩, lw.t⟩
  exact (h1.kw lv fun b o n t e => k b o (fun z => n (.inl z)) t e).less fun a z => .inr z
theorem DaL.move (lw : LW c.T W H1) (x : Ex W H1 Wc) (k : Kw c.T W H1 H) : ∀ {vs : List V} {ds : List PyData}, DaL W c.K H1 vs ds → DaL Wc c.K H vs ds
  | _, _, .nil => .nil
  | _, _, .cons h r => .cons (h.move lw x k) (DaL.move lw x k r)
end
/-- the iterator yields what stands at those data -/
structure ItOk (c : Fc) (W : Addr → Prop) (J : It) (H1 : Hp) (ds : List PyData) : Prop where
  step : ∀ (i : Nat) (Wc : Addr → Prop) (H : Hp) (d : PyData), ds[i]? = some d → Ex W H1 Wc → Kw c.T W H1 H → J.go i H ∧ ∀ x H', J.yld i H x H' → Same H H' ∧ Da Wc c.K H' x d
  stop : ∀ (H : Hp), Kw c.T W H1 H → J.stop ds.length H
def tIF (c : Fc) (src : List Cell → M (List PyData)) : TI := fun σ H R => ∃ W Γ, Sr c W H σ Γ ∧ (src Γ).run fun ds => ∀ J H', Ch c H H' → ItOk c W J H' ds → R J H'
def sLs (f : List Cell → M PyData) : List Cell → M (List PyData) := fun Γ => (f Γ).bind fun d => match d with
  | .list ds => .ret ds
  | _ => .fail
def sTs (f : List Cell → M PyData) : List Cell → M (List PyData) := fun Γ => (f Γ).bind fun d => match d with
  | .tuple ds => .ret ds
  | _ => .fail
def sRg1 (F : List Cell → M (List PyData)) : List Cell → M (List PyData) := fun Γ => (F Γ).bind fun ds => match ds with
  | [.int j] => (M.gd (-(2 ^ 62) ≤ j ∧ j < 2 ^ 62)).bind fun _ => .ret ((List.range j.toNat).map fun k => .int (0 + (k : Nat)))
  | _ => .fail
def sRg2 (F : List Cell → M (List PyData)) : List Cell → M (List PyData) := fun Γ => (F Γ).bind fun ds => match ds with
  | [.int i, .int j] => (M.gd (-(2 ^ 62) ≤ i ∧ i < 2 ^ 62 ∧ -(2 ^ 62) ≤ j ∧ j < 2 ^ 62)).bind fun _ => .ret ((List.range (j - i).toNat).map fun k => .int (i + (k : Nat)))
  | _ => .fail
def zipD : List PyData → List PyData → List PyData
  | a :: as, b :: bs => .tuple [a, b] :: zipD as bs
  | _, _ => []
def sZip (F : List Cell → M (List PyData)) : List Cell → M (List PyData) := fun Γ => (F Γ).bind fun ds => match ds with
  | [.list a, .list b] => .ret (zipD a b)
  | [.tuple a, .tuple b] => .ret (zipD a b)
  | _ => .fail
def enuD : Nat → List PyData → List PyData
  | _, [] => []
  | n, a :: as => .tuple [.int (n : Nat), a] :: enuD (n + 1) as
def sEnu (f : List Cell → M PyData) : List Cell → M (List PyData) := fun Γ => (f Γ).bind fun d => match d with
  | .list a => .ret (enuD 0 a)
  | _ => .fail
theorem zipD_get : ∀ {as bs : List PyData} {i : Nat} {d : PyData}, (zipD as bs)[i]? = some d → ∃ a b, as[i]? = some a ∧ bs[i]? = some b ∧ d = .tuple [a, b]
  | a :: as, b :: bs, 0, d, e => by simp [zipD] at e; exact ⟨a, b, rfl, rfl, e.symm⟩
  | a :: as, b :: bs, i + 1, d, e => by simpa [zipD] using zipD_get (as := as) (bs := bs) (i := i) (d := d) (by simpa [zipD] using e)
  | [], _, _, _, e => by simp [zipD] at e
  | _ :: _, [], _, _, e => by simp [zipD] at e
theorem zipD_len : ∀ {as bs : List PyData}, as.length ≤ (zipD as bs).length ∨ bs.length ≤ (zipD as bs).length
  | a :: as, b :: bs => by
    have := zipD_len (as := as) (bs := bs)
    simp only [zipD, List.length_cons]
    omega
  | [], _ => .inl (Nat.zero_le _)
  | _ :: _, [] => .inr (Nat.zero_le _)
theorem enuD_get : ∀ {n : Nat} {as : List PyData} {i : Nat} {d : PyData}, (enuD n as)[i]? = some d → ∃ a, as[i]? = some a ∧ d = .tuple [.int ((n + i : Nat) : Int), a]
  | n, a :: as, 0, d, e => by simp [enuD] at e; exact ⟨a, rfl, e.symm⟩
  | n, a :: as, i + 1, d, e => by
    obtain ⟨b, h1, h2⟩ := enuD_get (n := n + 1) (as := as) (i := i) (d := d) (by simpa [enuD] using e)
    exact ⟨b, by simpa using h1, by rw [h2, show n + 1 + i = n + (i + 1) by omega]⟩
  | _, [], _, _, e => by simp [enuD] at e
theorem enuD_len : ∀ {n : Nat} {as : List PyData}, (enuD n as).length = as.length
  | _, [] => rfl
  | n, a :: as => by simp [enuD, enuD_len]
section
variable {X : Cx} {c : Fc} {e e1 e2 : Expr} {es : List Expr} {f : List Cell → M PyData} {F : List Cell → M (List PyData)} {tg : Expr} {pos : Pos} {W : Addr → Prop} {H H1 : Hp} {σ : L2.St} {Γ : List Cell}
theorem pi_weak {w w' : TI} (h : PI X tg e w) (f : ∀ σ H R, w' σ H R → w σ H R) : PI X tg e w' := ⟨fun pins s σ H R I q => h.run pins s σ H R I (f σ H R q)⟩
theorem kwL (lw : LW c.T W H1) {a : Addr} {xs : List V} (n : ¬ W a) (h : H1 a = some (.lst xs)) (k : Kw c.T W H1 H) : H a = some (.lst xs) := k a _ n (lw.noT h fun _ z => by cases z) h
theorem itok_list (lw : LW c.T W H1) {a : Addr} {xs : List V} {ds : List PyData} (n : ¬ W a) (h : H1 a = some (.lst xs)) (r : DaL W c.K H1 xs ds) : ItOk c W (Itl c.K a) H1 ds where
  step := fun i Wc H d e x k => by
    obtain ⟨v, hv, da⟩ := r.get' e
    have h2 := SqL.of (K := c.K) (kwL lw n h k)
    refine ⟨⟨xs, v, h2, hv⟩, ?_⟩
    rintro y H' ⟨rfl, q⟩
    have e2 := q xs h2
    rw [hv] at e2
    cases e2
    exact ⟨Same.refl _, da.move lw x k⟩
  stop := fun H k => ⟨xs, SqL.of (kwL lw n h k), Nat.le_of_eq r.length⟩
theorem itok_tup (lw : LW c.T W H1) {a : Addr} {xs : List V} {ds : List PyData} (h : SqT c.K H1 a xs) (r : DaL W c.K H1 xs ds) : ItOk c W (Itt c.K a) H1 ds where
  step := fun i Wc H d e x k => by
    obtain ⟨v, hv, da⟩ := r.get' e
    have h2 := sqT_kw lw.v k h
    refine ⟨⟨xs, v, h2, hv⟩, ?_⟩
    rintro y H' ⟨rfl, q⟩
    have e2 := q xs h2
    rw [hv] at e2
    cases e2
    exact ⟨Same.refl _, da.move lw x k⟩
  stop := fun H k => ⟨xs, sqT_kw lw.v k h, Nat.le_of_eq r.length⟩
theorem itok_rng {lo : Int} {n : Nat} : ItOk c W (Itr lo n) H1 ((List.range n).map fun k => .int (lo + (k : Nat))) where
  step := fun i Wc H d e x k => by
    rw [List.getElem?_map] at e
    obtain ⟨j, e1, rfl⟩ := Option.map_eq_some_iff.mp e
    obtain ⟨l, rfl⟩ := List.getElem?_eq_some_iff.mp e1
    rw [List.length_range] at l
    refine ⟨l, ?_⟩
    rintro y H' ⟨rfl, rfl⟩
    refine ⟨Same.refl _, ?_⟩
    rw [List.getElem_range]
    exact .int _
  stop := fun H k => by
    rw [List.length_map, List.length_range]
    exact Nat.le_refl _
theorem da_pair {Wc : Addr → Prop} {T : Addr} {v1 v2 : V} {a b : PyData} (hT : H T = none) (h1 : Da Wc c.K H v1 a) (h2 : Da Wc c.K H v2 b) : Da Wc c.K (upd H T (.tup [v1, v2])) (.ref T) (.tuple [a, b]) :=
  .tup (SqT.of upd_same) (.cons (h1.same (same_new hT)) (.cons (h2.same (same_new hT)) .nil))
theorem itok_zipL (lw : LW c.T W H1) {a b : Addr} {xs ys : List V} {ds es : List PyData} (n : ¬ W a) (h : H1 a = some (.lst xs)) (r : DaL W c.K H1 xs ds) (m : ¬ W b) (h' : H1 b = some (.lst ys)) (r' : DaL W c.K H1 ys es) : ItOk c W (Itz c.K a b) H1 (zipD ds es) where
  step := fun i Wc H d e x k => by
    obtain ⟨p, q, e1, e2, rfl⟩ := zipD_get e
    obtain ⟨v1, hv1, d1⟩ := r.get' e1
    obtain ⟨v2, hv2, d2⟩ := r'.get' e2
    have h3 := SqL.of (K := c.K) (kwL lw n h k)
    have h4 := SqL.of (K := c.K) (kwL lw m h' k)
    refine ⟨⟨xs, ys, _, _, h3, h4, hv1, hv2⟩, ?_⟩
    rintro _ _ ⟨T, y1, y2, rfl, hT, rfl, f1, f2⟩
    have z1 := f1 xs h3
    have z2 := f2 ys h4
    rw [hv1] at z1
    rw [hv2] at z2
    cases z1
    cases z2
    exact ⟨same_new hT, da_pair hT (d1.move lw x k) (d2.move lw x k)⟩
  stop := fun H k => ⟨xs, ys, SqL.of (kwL lw n h k), SqL.of (kwL lw m h' k), by
    have := zipD_len (as := ds) (bs := es)
    rw [r.length, r'.length]
    exact this⟩
theorem itok_zipT (lw : LW c.T W H1) {a b : Addr} {xs ys : List V} {ds es : List PyData} (h : SqT c.K H1 a xs) (r : DaL W c.K H1 xs ds) (h' : SqT c.K H1 b ys) (r' : DaL W c.K H1 ys es) : ItOk c W (ItzT c.K a b) H1 (zipD ds es) where
  step := fun i Wc H d e x k => by
    obtain ⟨p, q, e1, e2, rfl⟩ := zipD_get e
    obtain ⟨v1, hv1, d1⟩ := r.get' e1
    obtain ⟨v2, hv2, d2⟩ := r'.get' e2
    have h3 := sqT_kw lw.v k h
    have h4 := sqT_kw lw.v k h'
    refine ⟨⟨xs, ys, _, _, h3, h4, hv1, hv2⟩, ?_⟩
    rintro _ _ ⟨T, y1, y2, rfl, hT, rfl, f1, f2⟩
    have z1 := f1 xs h3
    have z2 := f2 ys h4
    rw [hv1] at z1
    rw [hv2] at z2
    cases z1
    cases z2
    exact ⟨same_new hT, da_pair hT (d1.move lw x k) (d2.move lw x k)⟩
  stop := fun H k => ⟨xs, ys, sqT_kw lw.v k h, sqT_kw lw.v k h', by
    have := zipD_len (as := ds) (bs := es)
    rw [r.length, r'.length]
    exact this⟩
theorem itok_enu (lw : LW c.T W H1) {a : Addr} {xs : List V} {ds : List PyData} (n : ¬ W a) (h : H1 a = some (.lst xs)) (r : DaL W c.K H1 xs ds) : ItOk c W (Ite c.K a) H1 (enuD 0 ds) where
  step := fun i Wc H d e x k => by
    obtain ⟨p, e1, rfl⟩ := enuD_get e
    obtain ⟨v, hv, da⟩ := r.get' e1
    have h2 := SqL.of (K := c.K) (kwL lw n h k)
    refine ⟨⟨xs, v, h2, hv⟩, ?_⟩
    rintro _ _ ⟨T, y, rfl, hT, rfl, q⟩
    have e2 := q xs h2
    rw [hv] at e2
    cases e2
    rw [Nat.zero_add]
    exact ⟨same_new hT, da_pair hT (.int _) (da.move lw x k)⟩
  stop := fun H k => ⟨xs, SqL.of (kwL lw n h k), by rw [enuD_len, r.length]; exact Nat.le_refl _⟩
theorem pif_list (eK : X.K = c.K) (he : PE X e (tF c f)) : PI X tg e (tIF c (sLs f)) := pi_weak (k_list eK he) fun σ H R ⟨W, Γ, S, q⟩ => ⟨W, Γ, S, (f Γ).mono (fun d q H1 v k a => by
  cases a with
  | lst n h r => exact ⟨_, rfl, ⟨_, SqL.of h⟩, q _ H1 k (itok_list (S.lwC k) n h r)⟩
  | _ => exact q.elim) q⟩
theorem pif_tup (eK : X.K = c.K) (he : PE X e (tF c f)) : PI X tg e (tIF c (sTs f)) := pi_weak (k_tup eK he) fun σ H R ⟨W, Γ, S, q⟩ => ⟨W, Γ, S, (f Γ).mono (fun d q H1 v k a => by
  cases a with
  | tup h r => exact ⟨_, rfl, ⟨_, h⟩, q _ H1 k (itok_tup (S.lwC k) h r)⟩
  | _ => exact q.elim) q⟩
theorem pif_rg1 (h : PI X tg e (iRng1 (tAF c F))) : PI X tg e (tIF c (sRg1 F)) := pi_weak h fun σ H R ⟨W, Γ, S, q⟩ => ⟨W, Γ, S, (F Γ).mono (fun ds q H1 vs k a => by
  dsimp only at q
  split at q
  · cases a with | cons a1 r => cases r; cases a1; exact ⟨_, rfl, q.1.1, q.1.2, q.2 _ H1 k itok_rng⟩
  · exact q.elim) q⟩
theorem pif_rg2 (h : PI X tg e (iRng2 (tAF c F))) : PI X tg e (tIF c (sRg2 F)) := pi_weak h fun σ H R ⟨W, Γ, S, q⟩ => ⟨W, Γ, S, (F Γ).mono (fun ds q H1 vs k a => by
  dsimp only at q
  split at q
  · cases a with | cons a1 r => cases r with | cons a2 r => cases r; cases a1; cases a2; exact ⟨_, _, rfl, q.1, q.2 _ H1 k itok_rng⟩
  · exact q.elim) q⟩
theorem pif_zip (h : PI X tg e (iZipA c.K (tAF c F))) : PI X tg e (tIF c (sZip F)) := pi_weak h fun σ H R ⟨W, Γ, S, q⟩ => ⟨W, Γ, S, (F Γ).mono (fun ds q H1 vs k a => by
  dsimp only at q
  split at q
  · cases a with | cons a1 r => cases r with | cons a2 r => cases r; cases a1 with | lst n h r1 => cases a2 with | lst m h' r2 => exact ⟨_, _, _, _, rfl, .inl ⟨SqL.of h, SqL.of h', q _ H1 k (itok_zipL (S.lwC k) n h r1 m h' r2)⟩⟩
  · cases a with | cons a1 r => cases r with | cons a2 r => cases r; cases a1 with | tup h r1 => cases a2 with | tup h' r2 => exact ⟨_, _, _, _, rfl, .inr ⟨h, h', q _ H1 k (itok_zipT (S.lwC k) h r1 h' r2)⟩⟩
  · exact q.elim) q⟩
theorem pif_enu (h : PI X tg e (iEnum c.K (fun σ H R => tF c f σ H fun x H1 => R [x] H1))) : PI X tg e (tIF c (sEnu f)) := pi_weak h fun σ H R ⟨W, Γ, S, q⟩ => ⟨W, Γ, S, (f Γ).mono (fun d q H1 v k a => by
  cases a with
  | lst n h r => exact ⟨_, _, rfl, SqL.of h, q _ H1 k (itok_enu (S.lwC k) n h r)⟩
  | _ => exact q.elim) q⟩
end
/-! ### for -/
def forL (b : Bg) (g : Sg) : List PyData → List Cell → M Out
  | [], Γ => .ret (.nx Γ)
  | d :: ds, Γ => (b d Γ).bind fun Γ1 => (g Γ1).bind fun o => match o with
    | .nx Γ' => forL b g ds Γ'
    | .ct Γ' => forL b g ds Γ'
    | .bk Γ' => .ret (.nx Γ')
    | .rt d => .ret (.rt d)
def sFor (src : List Cell → M (List PyData)) (b : Bg) (g : Sg) : Sg := fun Γ => (src Γ).bind fun ds => forL b g ds Γ
theorem sf_for {X : Cx} {c : Fc} {st : Stmt} {src : List Cell → M (List PyData)} {b : Bg} {g : Sg} {is : List Nat} (h : PS X st (tFor (tIF c src) (tGF c is b) (tSF c g))) : PS X st (tSF c (sFor src b g)) := ps_weak h fun D σ H ⟨W, Γ, S, q⟩ => by
  refine ⟨W, Γ, S, (src Γ).mono (fun ds q J H1 k it => ?_) q⟩
  have S1 := S.ch k
  have q1 : (forL b g ds Γ).run (SF c W H1 D) := (forL b g ds Γ).mono (fun o z => SF.chm S k z) q
  refine ⟨fun i m σ H => m = ds.length - i ∧ i ≤ ds.length ∧ ∃ Wc Γc, Sr c Wc H σ Γc ∧ Kw c.T W H1 H ∧ Ex W H1 Wc ∧ (forL b g (ds.drop i) Γc).run (SF c W H1 D), ⟨_, rfl, Nat.zero_le _, W, Γ, S1, Kw.refl, Ex.refl, q1⟩, ?_⟩
  rintro i m σ H ⟨rfl, hi, Wc, Γc, Sc, kc, xc, qc⟩
  by_cases hlt : i < ds.length
  · have e : ds[i]? = some ds[i] := List.getElem?_eq_getElem hlt
    rw [List.drop_eq_getElem_cons hlt] at qc
    obtain ⟨h1, h2⟩ := it.step i Wc H _ e xc kc
    refine .inr ⟨h1, fun σ' H' => ∃ Wd Γd, Sr c Wd H' σ' Γd ∧ Kw c.T W H1 H' ∧ Ex W H1 Wd ∧ (forL b g (ds.drop (i + 1)) Γd).run (SF c W H1 D), fun σ' H' ⟨Wd, Γd, x⟩ => ⟨ds.length - (i + 1), by omega, rfl, hlt, Wd, Γd, x⟩, fun x H' y => ?_⟩
    obtain ⟨sm, da⟩ := h2 x H' y
    have S2 := Sc.same sm
    have kk : Kw c.T W H1 H' := Kw.trans S1.lw kc (Kw.same sm) xc
    refine ⟨Wc, Γc, _, S2, da, (b _ Γc).mono (fun Γ1 q σ2 S3 _ => ⟨Wc, Γ1, S3, (g Γ1).mono (fun o q => ?_) q⟩) qc⟩
    cases o with
    | nx Γ' => exact fun W' σ' H3 S4 k4 x4 => ⟨W', Γ', S4, Kw.trans S1.lw kk k4 xc, Ex.trans S2.lw kk xc x4, q⟩
    | ct Γ' => exact fun W' σ' H3 S4 k4 x4 => ⟨W', Γ', S4, Kw.trans S1.lw kk k4 xc, Ex.trans S2.lw kk xc x4, q⟩
    | bk Γ' => exact fun W' σ' H3 S4 k4 x4 => q W' σ' H3 S4 (Kw.trans S1.lw kk k4 xc) (Ex.trans S2.lw kk xc x4)
    | rt d => exact q
  · obtain rfl : i = ds.length := by omega
    rw [List.drop_length] at qc
    exact .inl ⟨it.stop H kc, qc Wc σ H Sc kc xc⟩
end Dl

set_option Elab.async false
set_option linter.all false
set_option maxRecDepth 100000
set_option maxHeartbeats 2000000
set_option autoImplicit false
/-! Dx: comprehensions, all and any of generator expressions, by data. -/
namespace Dl
open PySem PySem.Spec PyProof.Rows L2 Gd RZ
def wipC (Γ : List Cell) : List Nat → List Cell
  | [] => Γ
  | v :: vs => (wipC Γ vs).set v .un
section
variable {c : Fc} {W : Addr → Prop} {H : Hp} {σ : L2.St} {Γ : List Cell}
theorem Sr.wipe (S : Sr c W H σ Γ) : ∀ vs : List Nat, Sr c W H (wipe σ vs) (wipC Γ vs)
  | [] => S
  | v :: vs => (Sr.wipe S vs).un
theorem wipe_get (σ : L2.St) (j : Nat) : ∀ vs : List Nat, (L2.wipe σ vs)[j]? = if j ∈ vs ∧ j < σ.length then some none else σ[j]?
  | [] => by simp [L2.wipe]
  | v :: vs => by
    unfold L2.wipe
    by_cases e : v = j
    · subst e
      by_cases l : v < σ.length
      · rw [List.getElem?_set_self (by rw [wipe_length]; exact l), if_pos ⟨by simp, l⟩]
      · rw [List.getElem?_eq_none (by rw [List.length_set, wipe_length]; omega), if_neg (fun z => l z.2), List.getElem?_eq_none (by omega)]
    · rw [List.getElem?_set_ne e, wipe_get σ j vs]
      have : j ∈ v :: vs ↔ j ∈ vs := by simp [show ¬ j = v from fun z => e z.symm]
      simp only [this]
theorem wipe_same {σ σ' : L2.St} {is vs : List Nat} (sub : ∀ i ∈ is, i ∈ vs) (h : Only is σ σ') : L2.wipe σ' vs = L2.wipe σ vs := by
  obtain ⟨hl, h⟩ := h
  refine List.ext_getElem? fun j => ?_
  rw [wipe_get, wipe_get, hl]
  by_cases z : j ∈ vs ∧ j < σ.length
  · rw [if_pos z, if_pos z]
  · rw [if_neg z, if_neg z]
    by_cases w : j ∈ vs
    · have l : ¬ j < σ.length := fun l => z ⟨w, l⟩
      rw [List.getElem?_eq_none (by omega), List.getElem?_eq_none (by omega)]
    · exact h j fun m => w (sub j m)
theorem wipe_wipe (σ : L2.St) (vs : List Nat) : L2.wipe (L2.wipe σ vs) vs = L2.wipe σ vs := by
  refine List.ext_getElem? fun j => ?_
  rw [wipe_get, wipe_get, wipe_length]
  by_cases z : j ∈ vs ∧ j < σ.length
  · rw [if_pos z, if_pos z]
  · rw [if_neg z, if_neg z]
theorem wipC_some {i : Nat} {ds : List PyData} : ∀ {vs : List Nat}, (wipC Γ vs)[i]? = some (.ow ds) → Γ[i]? = some (.ow ds) ∧ i ∉ vs
  | [], h => ⟨h, by simp⟩
  | v :: vs, h => by
    unfold wipC at h
    rcases set_at h with ⟨_, z, _⟩ | ⟨n, h⟩
    · cases z
    · obtain ⟨h1, h2⟩ := wipC_some h
      exact ⟨h1, by simp only [List.mem_cons, not_or]; exact ⟨fun e => n e.symm, h2⟩⟩
/-- a list of W that is no slot's is written -/
theorem Sr.putX (S : Sr c W H σ Γ) {a : Addr} {xs ys : List V} (w : W a) (w0 : ¬ c.W0 a) (m : some a ≠ c.ow) (e4 : H a = some (.lst xs)) (no : ∀ (j : Nat) (es : List PyData), Γ[j]? = some (.ow es) → σ[j]? = some (some (.ref a)) → False) : Sr c W (upd H a (.lst ys)) σ Γ := by
  have kw : Kw c.T W H (upd H a (.lst ys)) := fun b o n t h => by
    rw [upd_ne (fun z => n (by rw [z]; exact w))]
    exact h
  refine {
    len := S.len
    at' := fun j z e' => ?_
    sep := S.sep
    wok := fun v e5 => ⟨(S.wok v e5).1, ?_⟩
    sub := S.sub
    lw := ⟨fun b z => ?_, fun b t => ?_⟩
    new := S.new
    ch0 := fun b o n t h => ?_ }
  · have q := S.at' j z e'
    cases z with
    | un => trivial
    | im d => obtain ⟨u, e1, q⟩ := q; exact ⟨u, e1, q.kw S.lw.v kw⟩
    | ow ds' =>
      obtain ⟨b, zs, q1, q2, q3, q4, q5, q6⟩ := q
      refine ⟨b, zs, q1, q2, q3, q4, ?_, q6.kw S.lw.v kw⟩
      rw [upd_ne]
      · exact q5
      · rintro rfl
        exact no j ds' e' q1
    | well => exact q
  · obtain ⟨x, y, z, q, q2⟩ := S.wl v e5
    refine ⟨x, y, z, ?_, q2⟩
    rw [upd_ne]
    · exact q
    · rintro rfl
      exact m e5.symm
  · by_cases z2 : b = a
    · exact ⟨ys, by rw [z2]; exact upd_same⟩
    · obtain ⟨xs, q⟩ := S.lw.l b z
      exact ⟨xs, by rw [upd_ne z2]; exact q⟩
  · obtain ⟨ps, q, q2⟩ := S.lw.t b t
    refine ⟨ps, ?_, q2⟩
    rw [upd_ne]
    · exact q
    · rintro rfl
      rw [e4] at q
      cases q
  · rw [upd_ne]
    · exact S.ch0 b o n t h
    · rintro rfl
      rw [S.new b w w0] at h
      cases h
end
/-! ### comprehensions -/
def tYesM : List Cell → M Bool := fun _ => .ret true
def lcL (b : Bg) (t : List Cell → M Bool) (f : List Cell → M PyData) (Γ : List Cell) : List PyData → M (List PyData)
  | [] => .ret []
  | d :: ds => (b d Γ).bind fun Γ1 => (t Γ1).bind fun k => if k then (f Γ1).bind fun e => (lcL b t f Γ ds).bind fun r => .ret (e :: r) else lcL b t f Γ ds
def mLc (vs : List Nat) (src : List Cell → M (List PyData)) (b : Bg) (t : List Cell → M Bool) (f : List Cell → M PyData) : List Cell → M (List PyData) := fun Γ => (src Γ).bind fun ds => (M.gd (ds.length ≤ 1000)).bind fun _ => lcL b t f (wipC Γ vs) ds
section
variable {c : Fc} {src : List Cell → M (List PyData)} {b : Bg} {t : List Cell → M Bool} {f : List Cell → M PyData} {is vs : List Nat}
theorem w_lcF {σ : L2.St} {H : Hp} {Q : VK} (sub : ∀ i ∈ is, i ∈ vs) (q : tN c (mLc vs src b t f) σ H Q) : tLc (tIF c src) (tGF c is b) (tTF c t) (tF c f) vs σ H Q := by
  obtain ⟨W, Γ, S, q⟩ := q
  refine ⟨W, Γ, S, (src Γ).mono (fun ds q J H1 k it => ?_) q⟩
  obtain ⟨hz, q⟩ := q
  intro D hD
  have S1 := S.ch k
  have hD0 := Ch.free S k hD
  have cD : Ch c H (upd H1 D (.lst [])) := k.trans (S1.new1 hD)
  have Sd : Sr c (W1 W D) (upd H1 D (.lst [])) σ Γ := S.more cD hD0 upd_same
  have Sw := Sd.wipe vs
  refine ⟨fun i m H2 => m = ds.length - i ∧ i ≤ ds.length ∧ ∃ acc accd, Sr c (W1 W D) H2 (wipe σ vs) (wipC Γ vs) ∧ H2 D = some (.lst acc) ∧ DaL (W1 W D) c.K H2 acc accd ∧ acc.length ≤ i ∧ Kw c.T (W1 W D) (upd H1 D (.lst [])) H2 ∧ (∀ b o, some b ≠ c.ow → ¬ c.T b → H b = some o → H2 b = some o) ∧
    (lcL b t f (wipC Γ vs) (ds.drop i)).run fun r => ∀ H' p xs, Ch c H H' → H p = none → H' p = some (.lst xs) → DaL (W1 W p) c.K H' xs (accd ++ r) → Q (.ref p) H', ⟨_, rfl, Nat.zero_le _, [], [], Sw, upd_same, .nil, Nat.le_refl _, Kw.refl, cD.kp, q⟩, ?_⟩
  rintro i m H2 ⟨rfl, hi, acc, accd, S2, e2, r2, l2, k2, kp2, q2⟩
  have kw1 : Kw c.T W H1 H2 := fun b o n t h => by
    have nb : b ≠ D := by
      rintro rfl
      rw [hD] at h
      cases h
    exact k2 b o (fun z => z.elim n nb) t (by rw [upd_ne nb]; exact h)
  have ex : Ex W H1 (W1 W D) := fun a z => z.imp id fun z => by rw [z]; exact hD
  by_cases hlt : i < ds.length
  · have e : ds[i]? = some ds[i] := List.getElem?_eq_getElem hlt
    rw [List.drop_eq_getElem_cons hlt] at q2
    obtain ⟨h1, h2⟩ := it.step i (W1 W D) H2 _ e ex kw1
    refine .inr ⟨h1, fun H3 => ∃ acc accd, Sr c (W1 W D) H3 (wipe σ vs) (wipC Γ vs) ∧ H3 D = some (.lst acc) ∧ DaL (W1 W D) c.K H3 acc accd ∧ acc.length ≤ i + 1 ∧ Kw c.T (W1 W D) (upd H1 D (.lst [])) H3 ∧ (∀ b o, some b ≠ c.ow → ¬ c.T b → H b = some o → H3 b = some o) ∧
      (lcL b t f (wipC Γ vs) (ds.drop (i + 1))).run fun r => ∀ H' p xs, Ch c H H' → H p = none → H' p = some (.lst xs) → DaL (W1 W p) c.K H' xs (accd ++ r) → Q (.ref p) H', fun H3 ⟨acc, accd, x⟩ => ⟨ds.length - (i + 1), by omega, rfl, hlt, acc, accd, x⟩, fun x H3 y => ?_⟩
    obtain ⟨sm, da⟩ := h2 x H3 y
    have S3 := S2.same sm
    have c3 : Ch c H2 H3 := S2.cs sm
    refine ⟨W1 W D, _, _, S3, da, (b _ _).mono (fun Γ1 q σ2 S4 hs => ⟨(wipe_same sub hs).trans (wipe_wipe σ vs), W1 W D, Γ1, S4, (t Γ1).mono (fun kk q H4 c4 => ?_) q⟩) q2⟩
    have e3 : H4 D = some (.lst acc) := c4.kp _ _ (S.noow hD0) (S3.lw.noT (sm _ _ e2) fun _ z => by cases z) (sm _ _ e2)
    have c24 : Ch c H2 H4 := c3.trans c4
    have S5 := S2.ch c24
    have r4 := S2.dal c24 r2
    have kp4 : ∀ b o, some b ≠ c.ow → ¬ c.T b → H b = some o → H4 b = some o := fun b o n t h => c24.kp b o n t (kp2 b o n t h)
    have kw4 : Kw c.T (W1 W D) (upd H1 D (.lst [])) H4 := Kw.trans Sd.lw k2 (S2.kwC c24) Ex.refl
    cases kk with
    | false => exact ⟨acc, accd, S5, e3, r4, Nat.le_succ_of_le l2, kw4, kp4, q⟩
    | true =>
      refine ⟨W1 W D, Γ1, S4.ch c4, (f Γ1).mono (fun ed q H5 y c5 dy => ?_) q⟩
      have c45 : Ch c H4 H5 := c5
      have e5 : H5 D = some (.lst acc) := c5.kp _ _ (S.noow hD0) (S5.lw.noT e3 fun _ z => by cases z) e3
      have S6 := S5.ch c5
      have r5 := S5.dal c5 r4
      have kwD : Kw c.T (W1 W D) H5 (upd H5 D (.lst (acc ++ [y]))) := fun b o n t h => by
        rw [upd_ne (fun z => n (.inr z))]
        exact h
      have hl : acc.length < sizeLine := Nat.lt_of_lt_of_le (by omega : acc.length < 1001) (by decide)
      have Sput : Sr c (W1 W D) (upd H5 D (.lst (acc ++ [y]))) (L2.wipe σ vs) (wipC Γ vs) := S6.putX (.inr rfl) (fun z => S.lw.dom hD0 (S.sub D z)) (S.noow hD0) e5 (fun j es e1 e2 => by
        have := Sw.at' j _ e1
        obtain ⟨a, xs, q1, q2, q3, q4, q5, q6⟩ := this
        have w : (wipC Γ vs)[j]? = some (.ow es) := e1
        obtain ⟨g1, g2⟩ := wipC_some w
        obtain ⟨a', xs', p1, p2, p3, p4, p5, p6⟩ := S.at' j _ g1
        have : (L2.wipe σ vs)[j]? = σ[j]? := by rw [wipe_get, if_neg fun z => g2 z.1]
        rw [this, p1] at e2
        cases e2
        rw [hD0] at p5
        cases p5)
      refine ⟨acc, e5, hl, acc ++ [y], accd ++ [ed], Sput, upd_same, (r5.append (.cons dy .nil)).kw S6.lw.v kwD, by rw [List.length_append]; exact Nat.succ_le_succ l2, Kw.trans Sd.lw (Kw.trans Sd.lw kw4 (S5.kwC c5) Ex.refl) kwD Ex.refl, fun b o n t h => ?_, ?_⟩
      · rw [upd_ne (ne_of_none h hD0)]
        exact c5.kp b o n t (kp4 b o n t h)
      · exact (lcL b t f (wipC Γ vs) (ds.drop (i + 1))).mono (fun r z H' p xs h1 h2 h3 h4 => z H' p xs h1 h2 h3 (by rw [List.append_assoc] at h4; exact h4)) q
  · obtain rfl : i = ds.length := by omega
    rw [List.drop_length] at q2
    have q3 := q2 H2 D acc ⟨kp2, S2.lw.t, S2.wl⟩ hD0 e2 (by rw [List.append_nil]; exact r2)
    exact .inl ⟨it.stop H2 kw1, q3⟩
end
end Dl
namespace Dl
open PySem PySem.Spec PyProof.Rows L2 Gd RZ
section
variable {X : Cx} {c : Fc} {e e1 : Expr} {es : List Expr} {src : List Cell → M (List PyData)} {b : Bg} {t : List Cell → M Bool} {f elt : List Cell → M PyData} {is vs : List Nat}
theorem pn_lc (h : PE X e (tLc (tIF c src) (tGF c is b) (tTF c t) (tF c f) vs)) (sub : ∀ i ∈ is, i ∈ vs := by decide) : PE X e (tN c (mLc vs src b t f)) := pe_weak h fun σ H Q q => w_lcF sub q
theorem ptsf_nil : PTs X [] (tTF c tYesM) := ⟨fun pins s σ H Q I ⟨W, Γ, S, q⟩ => pts_nil.run pins s σ H Q I (q H S.refl)⟩
/-! ### all, any of a generator expression -/
def capC : Option Cell → Cell
  | some (.im d) => .im d
  | _ => .un
def agL (b0 : Bool) (elt : List Cell → M PyData) (Γ : List Cell) : List PyData → M PyData
  | [] => .ret (.bool b0)
  | d :: ds => (elt (.im d :: Γ)).bind fun y => (asB y).bind fun k => if k = b0 then agL b0 elt Γ ds else .ret (.bool (!b0))
def mAG (b0 : Bool) (caps : List Nat) (f elt : List Cell → M PyData) : List Cell → M PyData := fun Γ => (f Γ).bind fun d => match d with
  | .tuple ds => agL b0 elt (caps.map fun j => capC Γ[j]?) ds
  | _ => .fail
theorem capS {W : Addr → Prop} {H : Hp} {σ : L2.St} {Γ : List Cell} (S : Sr c W H σ Γ) (caps : List Nat) (u : Option V) : Sr c W H (u :: caps.map fun j => (σ[j]?).join) (.un :: caps.map fun j => capC Γ[j]?) where
  len := by simp
  at' := fun i z e => by
    cases i with
    | zero => cases e; trivial
    | succ i =>
      rw [List.getElem?_cons_succ] at e ⊢
      rw [List.getElem?_map] at e ⊢
      cases q : caps[i]? with
      | none => rw [q] at e; cases e
      | some j =>
        rw [q] at e
        cases e
        show CellAt c W H (some ((σ[j]?).join)) (capC Γ[j]?)
        cases w : Γ[j]? with
        | none => exact trivial
        | some z =>
          cases z with
          | im d =>
            obtain ⟨v, e2, a⟩ := S.at' j _ w
            exact ⟨v, by rw [e2]; rfl, a⟩
          | un => exact trivial
          | ow ds => exact trivial
          | well => exact trivial
  sep := fun i j a ds es n e1 e2 e3 e4 => by
    have no : ∀ (i : Nat) (ds : List PyData), (.un :: caps.map fun j => capC Γ[j]?)[i]? ≠ some (.ow ds) := fun i ds e => by
      cases i with
      | zero => cases e
      | succ i =>
        rw [List.getElem?_cons_succ, List.getElem?_map] at e
        cases q : caps[i]? with
        | none => rw [q] at e; cases e
        | some j =>
          rw [q] at e
          have e' : capC Γ[j]? = .ow ds := Option.some.inj e
          unfold capC at e'
          split at e' <;> cases e'
    exact no i ds e1
  wok := S.wok
  sub := S.sub
  lw := S.lw
  new := S.new
  ch0 := S.ch0
theorem pf_ag {P : Addr} {b0 : Bool} {caps : List Nat} (h : PE X e (tAG c.K P b0 caps (tGF c [0] (bNm 0)) (tF c f) (tF c elt))) (hP : c.T P) : PE X e (tF c (mAG b0 caps f elt)) := pe_weak h fun σ H Q ⟨W, Γ, S, q⟩ => ⟨W, Γ, S, (f Γ).mono (fun d q H1 v k da => by
  dsimp only at q
  split at q
  · rename_i ds
    cases da with
    | @tup a xs _ h1 r =>
      have S1 := S.ch k
      refine ⟨a, xs, rfl, h1, S1.lw.t P hP, fun H2 tb => ?_⟩
      have c12 : Ch c H1 H2 := by
        refine ⟨fun b o n t e => ?_, fun b t => ?_, fun w e => ?_⟩
        · rw [tb.2 b (fun z => t (by rw [z]; exact hP))]; exact e
        · by_cases z : b = P
          · rw [z]; exact tb.1
          · obtain ⟨ps, e1, e2⟩ := S1.lw.t b t
            exact ⟨ps, by rw [tb.2 b z]; exact e1, e2⟩
        · obtain ⟨x, y, z, e1, e2⟩ := S1.wl w e
          refine ⟨x, y, z, ?_, e2⟩
          rw [tb.2 w]
          · exact e1
          · rintro rfl
            obtain ⟨ps, e3, _⟩ := S1.lw.t w hP
            rw [e1] at e3
            cases e3
      have S2 := S1.ch c12
      have cap := capS S2 caps none
      let Γ' : List Cell := caps.map fun j => capC Γ[j]?
      let post : PyData → Prop := fun d => ∀ H' v, Ch c H H' → Da W c.K H' v d → Q v H'
      let Js : Nat → L2.St → Hp → Prop := fun i σ' H' => ∃ z, Sr c W H' σ' (z :: Γ') ∧ Ch c H H' ∧ SqT c.K H' a xs ∧ DaL W c.K H' xs ds ∧ (agL b0 elt Γ' (ds.drop i)).run post
      have j0 : Js 0 (none :: caps.map fun j => (σ[j]?).join) H2 := ⟨.un, cap, k.trans c12, sqT_kw S1.lw.v (S1.kwC c12) h1, S1.dal c12 r, q⟩
      refine ⟨Js, fun i b σ' H' => (b = b0 → Js (i + 1) σ' H') ∧ (b = (!b0) → Q (.bl (!b0)) H'), j0, ?_⟩
      refine ⟨fun i σ' H' ⟨z, s, k1, h, r, q⟩ => h, fun i v σ' H' hv ⟨z, s, k1, h, r, q⟩ => ?_, fun i σ' H' o => o.1 rfl, fun i σ' H' _ o => o.2 rfl, fun σ' H' ⟨z, s, k1, h, r, q⟩ => ?_⟩
      · obtain ⟨d, hd, dv⟩ := r.get hv
        have hl : i < ds.length := (List.getElem?_eq_some_iff.mp hd).1
        have hd' : ds[i] = d := (List.getElem?_eq_some_iff.mp hd).2
        rw [List.drop_eq_getElem_cons hl, hd'] at q
        refine ⟨W, _, d, s, dv, fun σ2 s2 _ => ?_⟩
        refine ⟨W, _, s2, (elt _).mono (fun y q H3 u k3 dy => ?_) q⟩
        cases dy with
        | bl b =>
          refine ⟨b, rfl, fun e => ?_, fun e => ?_⟩
          · have q' : (if b = b0 then agL b0 elt Γ' (ds.drop (i + 1)) else .ret (.bool (!b0))).run post := q
            rw [if_pos e] at q'
            exact ⟨_, s2.ch k3, k1.trans k3, sqT_kw s.lw.v (s.kwC k3) h, s.dal k3 r, q'⟩
          · have q' : (if b = b0 then agL b0 elt Γ' (ds.drop (i + 1)) else .ret (.bool (!b0))).run post := q
            rw [if_neg (by rw [e]; cases b0 <;> decide)] at q'
            exact q' H3 _ (k1.trans k3) (.bl _)
        | _ => exact q.elim
      · rw [r.length, List.drop_length] at q
        exact q H' _ k1 (.bl _)
  · exact q.elim) q⟩
end
end Dl

set_option Elab.async false
set_option linter.all false
set_option maxRecDepth 100000
set_option maxHeartbeats 2000000
set_option autoImplicit false
/-! Dy: defs by data: promises, calls. -/
namespace Dl
open PySem PySem.Spec PyProof.Rows L2 Gd RZ
/-- what a def leaves: all stands but the well; tables grow -/
abbrev fc (K : PySem.W.Frag) (T : Addr → Prop) (ow : Option Addr) (W : Addr → Prop) (H : Hp) : Fc := ⟨K, T, ow, W, H⟩
/-- a def of n data: what it hands back -/
def spD (K : PySem.W.Frag) (T : Addr → Prop) (n : Nat) (g : List PyData → M PyData) : Sp := fun vs H Q _ => ∃ W ds, DaL W K H vs ds ∧ LW T W H ∧ ds.length = n ∧ (g ds).run fun d => ∀ H' v, Ch (fc K T none W H) H H' → Da W K H' v d → Q v H'
/-- a def of a well and n data -/
def spW (K : PySem.W.Frag) (T : Addr → Prop) (n : Nat) (g : List PyData → M PyData) : Sp := fun vs H Q _ => ∃ w W ds us, vs = .ref w :: us ∧ W w ∧ Wl H w ∧ DaL W K H us ds ∧ LW T W H ∧ ds.length = n ∧ (g ds).run fun d => ∀ H' v, Ch (fc K T (some w) W H) H H' → Da W K H' v d → Q v H'
def outD : Out → M PyData
  | .rt d => .ret d
  | .nx _ => .ret .none
  | _ => .fail
/-- a def's body as a function of its arguments; k: how many other names it has -/
def fnD (k : Nat) (m : Sg) (ds : List PyData) : M PyData := (m (ds.map .im ++ List.replicate k .un)).bind outD
def fnW (k : Nat) (m : Sg) (ds : List PyData) : M PyData := (m (.well :: ds.map .im ++ List.replicate k .un)).bind outD
section
variable {K : PySem.W.Frag} {T : Addr → Prop} {W : Addr → Prop} {H : Hp}
theorem start_im {c : Fc} (eK : c.K = K) : ∀ {vs : List V} {ds : List PyData} (k : Nat), DaL W K H vs ds → ∀ (i : Nat) (z : Cell), (ds.map Cell.im ++ List.replicate k .un)[i]? = some z → CellAt c W H (vs.map some ++ List.replicate k none)[i]? z
  | _, _, k, .nil, i, z, e => by
    rw [List.map_nil, List.nil_append, List.getElem?_replicate] at e
    split at e
    · cases e; trivial
    · cases e
  | _, _, k, .cons (v := v) (d := d) h r, 0, z, e => by
    simp at e
    subst e
    exact ⟨v, by simp, by rw [eK]; exact h⟩
  | _, _, k, .cons h r, i + 1, z, e => by
    have := start_im eK k r i z (by simpa using e)
    simpa using this
theorem start_no : ∀ {ds : List PyData} {k i : Nat} {es : List PyData}, (ds.map Cell.im ++ List.replicate k .un)[i]? ≠ some (.ow es)
  | [], k, i, es, e => by
    rw [List.map_nil, List.nil_append, List.getElem?_replicate] at e
    split at e <;> cases e
  | d :: ds, k, 0, es, e => by simp at e
  | d :: ds, k, i + 1, es, e => start_no (ds := ds) (k := k) (i := i) (es := es) (by simpa using e)
theorem sr_start {vs : List V} {ds : List PyData} {k : Nat} (h : DaL W K H vs ds) (lw : LW T W H) : Sr (fc K T none W H) W H (vs.map some ++ List.replicate k none) (ds.map .im ++ List.replicate k .un) where
  len := by simp [h.length]
  at' := start_im rfl k h
  sep := fun i j a ds es n e1 => (start_no e1).elim
  wok := fun w e => nomatch e
  sub := fun _ w => w
  lw := lw
  new := fun a w n => (n w).elim
  ch0 := fun b o _ _ e => e
theorem sr_startW {w : Addr} {vs : List V} {ds : List PyData} {k : Nat} (hw : W w) (wl : Wl H w) (h : DaL W K H vs ds) (lw : LW T W H) : Sr (fc K T (some w) W H) W H ((V.ref w :: vs).map some ++ List.replicate k none) (.well :: ds.map .im ++ List.replicate k .un) where
  len := by simp [h.length]
  at' := fun i z e => by
    cases i with
    | zero =>
      simp at e
      subst e
      exact ⟨w, rfl, by simp⟩
    | succ i =>
      have := start_im (c := fc K T (some w) W H) rfl k h i z (by simpa using e)
      simpa using this
  sep := fun i j a ds es n e1 => by
    cases i with
    | zero => simp at e1
    | succ i => exact (start_no (by simpa using e1)).elim
  wok := fun v e => by cases e; exact ⟨hw, wl⟩
  sub := fun _ w => w
  lw := lw
  new := fun a w n => (n w).elim
  ch0 := fun b o _ _ e => e
/-- a body of data keeps the def's promise -/
theorem body_d {vs : List V} {Q : VK} {E : XK} {N : List Str} {n k : Nat} {m : Sg} (hN : N.length = n + k) (h : spD K T n (fnD k m) vs H Q E) : ∃ c : Fc, c.K = K ∧ c.T = T ∧ c.ow = none ∧ tSF c m { nx := fun _ H' => Q .non H', rt := Q } (start N vs) H := by
  obtain ⟨W, ds, h1, lw, l, q⟩ := h
  have q : (m (ds.map .im ++ List.replicate k .un)).run fun o => (outD o).run fun d => ∀ H' v, Ch (fc K T none W H) H H' → Da W K H' v d → Q v H' := q
  refine ⟨fc K T none W H, rfl, rfl, rfl, W, ds.map .im ++ List.replicate k .un, ?_, (m _).mono (fun o q => ?_) q⟩
  · unfold L2.start
    rw [show N.length - vs.length = k by rw [h1.length, l]; omega]
    exact sr_start h1 lw
  · cases o with
    | rt d => exact q
    | nx Γ => exact fun W' σ' H' S _ _ => q H' _ S.ret .non
    | bk Γ => exact q.elim
    | ct Γ => exact q.elim
theorem body_w {vs : List V} {Q : VK} {E : XK} {N : List Str} {n k : Nat} {m : Sg} (hN : N.length = n + 1 + k) (h : spW K T n (fnW k m) vs H Q E) : ∃ c : Fc, c.K = K ∧ c.T = T ∧ tSF c m { nx := fun _ H' => Q .non H', rt := Q } (start N vs) H := by
  obtain ⟨w, W, ds, us, rfl, hw, wl, h1, lw, l, q⟩ := h
  have q : (m (.well :: ds.map .im ++ List.replicate k .un)).run fun o => (outD o).run fun d => ∀ H' v, Ch (fc K T (some w) W H) H H' → Da W K H' v d → Q v H' := q
  refine ⟨fc K T (some w) W H, rfl, rfl, W, .well :: ds.map .im ++ List.replicate k .un, ?_, (m _).mono (fun o q => ?_) q⟩
  · unfold L2.start
    rw [show N.length - (V.ref w :: us).length = k by rw [List.length_cons, h1.length, l]; omega]
    exact sr_startW hw wl h1 lw
  · cases o with
    | rt d => exact q
    | nx Γ => exact fun W' σ' H' S _ _ => q H' _ S.ret .non
    | bk Γ => exact q.elim
    | ct Γ => exact q.elim
theorem spD.len {n : Nat} {g : List PyData → M PyData} {vs : List V} {Q : VK} {E : XK} (h : spD K T n g vs H Q E) : vs.length = n := by
  obtain ⟨W, ds, h1, _, l, _⟩ := h
  rw [h1.length, l]
theorem spW.len {n : Nat} {g : List PyData → M PyData} {vs : List V} {Q : VK} {E : XK} (h : spW K T n g vs H Q E) : vs.length = n + 1 := by
  obtain ⟨w, W, ds, us, rfl, _, _, h1, _, l, _⟩ := h
  rw [List.length_cons, h1.length, l]
/-- one function for another that comes to the same -/
theorem spD.imp {n : Nat} {g g' : List PyData → M PyData} (hg : ∀ ds p, ds.length = n → (g' ds).run p → (g ds).run p) {vs : List V} {Q : VK} {E : XK} (h : spD K T n g' vs H Q E) : spD K T n g vs H Q E := by
  obtain ⟨W, ds, h1, lw, l, q⟩ := h
  exact ⟨W, ds, h1, lw, l, hg ds _ l q⟩
theorem spW.imp {n : Nat} {g g' : List PyData → M PyData} (hg : ∀ ds p, ds.length = n → (g' ds).run p → (g ds).run p) {vs : List V} {Q : VK} {E : XK} (h : spW K T n g' vs H Q E) : spW K T n g vs H Q E := by
  obtain ⟨w, W, ds, us, e, a, b, h1, lw, l, q⟩ := h
  exact ⟨w, W, ds, us, e, a, b, h1, lw, l, hg ds _ l q⟩
end
section
variable {X : Cx} {c : Fc} {e : Expr} {F : List Cell → M (List PyData)} {n i : Nat} {g : List PyData → M PyData} {E : XK}
theorem ch_none {T W H H' H1} {K : PySem.W.Frag} {W1 : Addr → Prop} (e : T = c.T) (wl : ∀ w, c.ow = some w → Wl H w) (lw : LW c.T W H) (k : Ch (fc K T none W1 H1) H H') : Ch c H H' := by
  subst e
  refine ⟨fun b o _ t h => k.kp b o (fun z => nomatch z) t h, k.tb, fun w e => ?_⟩
  obtain ⟨x, y, z, q, r⟩ := wl w e
  exact ⟨x, y, z, k.kp w _ (fun z => nomatch z) (lw.noT q fun _ z => by cases z) q, r⟩
theorem w_callD {σ : L2.St} {H : Hp} {Q : VK} (q : tF c (mFn (fun ds => (M.gd (ds.length = n)).bind fun _ => g ds) F) σ H Q) : tCall (spD c.K c.T n g) [] E (tAF c F) σ H Q := by
  obtain ⟨W, Γ, S, q⟩ := q
  refine ⟨W, Γ, S, (F Γ).mono (fun ds q H1 vs k a => ?_) q⟩
  show spD c.K c.T n g (vs ++ []) H1 Q E
  rw [List.append_nil]
  have S1 := S.ch k
  exact ⟨W, ds, a, S1.lw, q.1, (g ds).mono (fun d z H' v k2 da => z H' v (k.trans (ch_none rfl S1.wl S1.lw k2)) da) q.2⟩
theorem pf_callD (h : PE X e (tCall (spD c.K c.T n g) [] E (tAF c F))) : PE X e (tF c (mFn (fun ds => (M.gd (ds.length = n)).bind fun _ => g ds) F)) := pe_weak h fun σ H Q q => w_callD q
/-- a call with the well ahead -/
theorem pf_callW (h : PE X e (tCall (spW c.K c.T n g) [] E (tCons (tVar i) (tAF c F)))) : PE X e (tF c fun Γ => match Γ[i]? with
    | some .well => mFn (fun ds => (M.gd (ds.length = n)).bind fun _ => g ds) F Γ
    | _ => .fail) := pe_weak h fun σ H Q ⟨W, Γ, S, q⟩ => by
  dsimp only at q
  split at q
  · rename_i e1
    obtain ⟨w, ow, e2⟩ := S.at' i _ e1
    refine ⟨_, e2, W, Γ, S, (F Γ).mono (fun ds q H1 vs k a => ?_) q⟩
    have S1 := S.ch k
    refine ⟨w, W, ds, vs, by rw [List.append_nil], S1.ww w ow, S1.wl w ow, a, S1.lw, q.1, (g ds).mono (fun d z H' v k2 da => z H' v (k.trans ⟨?_, k2.tb, ?_⟩) da) q.2⟩
    · rw [ow]; exact k2.kp
    · rw [ow]; exact k2.wl
  · exact q.elim
/-- keywords alone -/
theorem pf_callK {ks : Nat} {G : {α : Type} → List α → List α → List α} {t : TA} (h : PE X e (tCK (spD c.K c.T n g) 0 ks G E tNil t)) (hG : ∀ {W : Addr → Prop} {H : Hp} {vs : List V} {ds : List PyData}, DaL W c.K H vs ds → DaL W c.K H (G [] vs) (G [] ds))
    (ht : ∀ σ H R, tAF c F σ H R → t σ H R) : PE X e (tF c (mFn (fun ds => (M.gd (ds.length = ks ∧ (G [] ds).length = n)).bind fun _ => g (G [] ds)) F)) := pe_weak h fun σ H Q ⟨W, Γ, S, q⟩ => ht _ _ _ ⟨W, Γ, S, (F Γ).mono (fun ds q H1 vs k a => by
  have S1 := S.ch k
  exact ⟨rfl, by rw [a.length]; exact q.1.1, W, G [] ds, hG a, S1.lw, q.1.2, (g (G [] ds)).mono (fun d z H' v k2 da => z H' v (k.trans (ch_none rfl S1.wl S1.lw k2)) da) q.2⟩) q⟩
theorem pkf_nil : PK X [] (tAF c mNil) := ⟨fun pos pins s σ H R I ⟨W, Γ, S, q⟩ => pk_nil.run pos pins s σ H R I (q H _ S.refl .nil)⟩
theorem pkf_cons {x : Option Str} {f : List Cell → M PyData} {kws : List Keyword} {kpos : Pos} (ha : PE X e (tF c f)) (hr : PK X kws (tAF c F)) : PK X (⟨x, e, kpos⟩ :: kws) (tAF c (mCons f F)) :=
  ⟨fun pos pins s σ H R I ⟨W, Γ, S, q⟩ => (pk_cons ha hr).run pos pins s σ H R I ⟨W, Γ, S, (f Γ).mono (fun a q H1 x k1 da => ⟨W, Γ, S.ch k1, (F Γ).mono (fun ds q H2 vs k2 dd => q H2 _ (k1.trans k2) (.cons ((S.ch k1).da k2 da) dd)) q⟩) q⟩⟩
end
end Dl

set_option Elab.async false
set_option linter.all false
set_option maxRecDepth 100000
set_option maxHeartbeats 4000000
set_option autoImplicit false
/-! Dz: further rules by data. -/
namespace Dl
open PySem PySem.Spec PyProof.Rows L2 Gd RZ
section
variable {X : Cx} {c : Fc} {e e1 e2 : Expr} {es : List Expr} {st : Stmt} {f g : List Cell → M PyData} {F : List Cell → M (List PyData)} {pos : Pos} {i : Nat}
/-! assignments by their readings -/
theorem sf_set {te : TE} (h : PS X st (tAsg te (gName i))) (w : ∀ σ H Q, tF c f σ H Q → te σ H Q) : PS X st (tSF c (sSet i f)) := ps_weak h fun D σ H ⟨W, Γ, S, q⟩ => w _ _ _ ⟨W, Γ, S, (f Γ).mono (fun d q H1 v k a => q.nx1 S k ((S.ch k).set a)) q⟩
theorem sf_set1 (h : PS X st (tAsg (tF c f) (gName i))) : PS X st (tSF c (sSet i f)) := sf_set h fun _ _ _ q => q
theorem sf_ownW {te : TE} (h : PS X st (tAsg te (gName i))) (w : ∀ σ H Q, tN c F σ H Q → te σ H Q) : PS X st (tSF c (sOwn i F)) := ps_weak h fun D σ H ⟨W, Γ, S, q⟩ => w _ _ _ ⟨W, Γ, S, (F Γ).mono (fun ds q H1 p xs k hp e r => q _ _ H1 (S.own k hp e r) (S.kwC k) fun a z => z.imp id fun w => by rw [w]; exact hp) q⟩
def mOfN (F : List Cell → M (List PyData)) : List Cell → M PyData := fun Γ => (F Γ).bind fun ds => .ret (.list ds)
theorem tN_of {σ : L2.St} {H : Hp} {Q : VK} (q : tF c (mOfN F) σ H Q) : tN c F σ H Q := by
  obtain ⟨W, Γ, S, q⟩ := q
  exact ⟨W, Γ, S, (F Γ).mono (fun ds q H' p xs k hp e r => q H' _ k (.lst (S.lw.dom hp) e (r.less fun a z => .inl z))) q⟩
theorem pn_m (h : PE X e (tN c F)) : PE X e (tF c (mOfN F)) := pn_f h
/-! names of the top -/
theorem pf_gint {x : Str} {i : Int} (hg : Gl X x) (hm : ∃ t, X.mg x = some (.int i t)) (hd : (x == ("__debug__" : Str)) = false := by decide) : PE X (.Name x pos) (tF c (mCon (.int i))) := by
  obtain ⟨t, hm⟩ := hm
  exact pf_tc (pe_glob hg hm (v := .int i) ⟨t, rfl⟩ hd) fun _ _ => .int i
/-- a constant of the top: what it comes to at each heap -/
def GDat (K : PySem.W.Frag) (mg : Str → Option Value) (x : Str) (d : PyData) : Prop := ∃ v u, mg x = some u ∧ RelV v u ∧ ∀ W H, Da W K H v d
theorem pf_gdat {x : Str} {d : PyData} (hg : Gl X x) (hm : GDat c.K X.mg x d) (hd : (x == ("__debug__" : Str)) = false := by decide) : PE X (.Name x pos) (tF c (mCon d)) := by
  obtain ⟨v, u, h1, h2, h3⟩ := hm
  exact pf_tc (pe_glob hg h1 h2 hd) h3
/-! parts -/
def cutD (xs : List PyData) (lo hi : Option Int) : List PyData := (xs.drop (HT.sIx xs.length 0 lo)).take (HT.sIx xs.length xs.length hi - HT.sIx xs.length 0 lo)
theorem cutD_da {W : Addr → Prop} {H : Hp} {xs : List V} {ds : List PyData} (r : DaL W c.K H xs ds) (lo hi : Option Int) : DaL W c.K H (cutV xs lo hi) (cutD ds lo hi) := by
  unfold cutV cutD
  rw [r.length]
  exact (r.drop _).take _
def o_cut (lo hi : Option Int) : PyData → M PyData
  | .tuple a => .ret (.tuple (cutD a lo hi))
  | .list a => .ret (.list (cutD a lo hi))
  | _ => .fail
def pNone : List Cell → M (Option Int) := fun _ => .ret none
def pSome (f : List Cell → M PyData) : List Cell → M (Option Int) := fun Γ => (f Γ).bind fun d => match d with
  | .int i => .ret (some i)
  | _ => .fail
def tOF (c : Fc) (p : List Cell → M (Option Int)) : TO := fun σ H R => ∃ W Γ, Sr c W H σ Γ ∧ (p Γ).run fun o => ∀ H', Ch c H H' → R o H'
theorem po_weak {e : Option Expr} {t t' : TO} (h : PO X e t) (f : ∀ σ H Q, t' σ H Q → t σ H Q) : PO X e t' := ⟨fun pins s σ H Q I q => h.run pins s σ H Q I (f σ H Q q)⟩
theorem pof_none : PO X none (tOF c pNone) := po_weak po_none fun σ H Q ⟨W, Γ, S, q⟩ => q H S.refl
theorem pof_some (h : PE X e (tF c f)) : PO X (some e) (tOF c (pSome f)) := po_weak (po_some h) fun σ H Q ⟨W, Γ, S, q⟩ => ⟨W, Γ, S, (f Γ).mono (fun d q H1 v k a => by
  dsimp only at q
  split at q
  · cases a; exact ⟨_, rfl, q H1 k⟩
  · exact q.elim) q⟩
def mCut (f : List Cell → M PyData) (lo hi : List Cell → M (Option Int)) : List Cell → M PyData := fun Γ => (f Γ).bind fun d => (lo Γ).bind fun l => (hi Γ).bind fun h => o_cut l h d
theorem cut_all {xs : List V} {lo hi : Option Int} (h : HT.sIx xs.length 0 lo = 0 ∧ HT.sIx xs.length xs.length hi = xs.length) : cutV xs lo hi = xs := by
  unfold cutV
  rw [h.1, h.2]
  simp
theorem pf_cut {lo hi : Option Expr} {pl ph : List Cell → M (Option Int)} {p2 : Pos} (eK : X.K = c.K) (he : PE X e (tG c f)) (hl : PO X lo (tOF c pl)) (hu : PO X hi (tOF c ph)) : PE X (.Subscript e (.Slice lo hi none p2) pos) (tF c (mCut f pl ph)) :=
  pe_weak (pe_slice (k_sl eK) he hl hu) fun σ H Q ⟨W, Γ, S, q⟩ => ⟨W, Γ, S, (f Γ).mono (fun d q H1 x k1 da => ⟨W, Γ, S.ch k1, (pl Γ).mono (fun l q H2 k2 => ⟨W, Γ, (S.ch k1).ch k2, (ph Γ).mono (fun h q H3 k3 => by
    have k : Ch c H H3 := (k1.trans k2).trans k3
    have S3 := S.ch k
    have d3 := (S.ch k1).pk (k2.trans k3) da
    unfold o_cut at q
    split at q
    · rename_i a
      obtain ⟨p, xs, rfl, h1, r1⟩ := pk_tup d3
      refine .inr ⟨p, xs, rfl, h1, fun z => ?_, fun z p hp => ?_⟩
      · have e := cut_all z
        have r2 := cutD_da r1 l h
        rw [e] at r2
        exact q H3 _ k (.tup h1 r2)
      · exact q _ _ (k.trans (S3.new1 hp)) (.tup (SqT.of upd_same) ((cutD_da r1 l h).same (same_new hp)))
    · rename_i a
      obtain ⟨p, xs, rfl, h1, r1⟩ := pk_lst d3
      exact .inl ⟨p, xs, rfl, SqL.of h1, fun p hp => q _ _ (k.trans (S3.new1 hp)) (.lst (S3.lw.dom hp) upd_same ((cutD_da r1 l h).same (same_new hp)))⟩
    · exact q.elim) q⟩) q⟩) q⟩
def o_rev : PyData → M PyData
  | .tuple a => .ret (.tuple a.reverse)
  | .list a => .ret (.list a.reverse)
  | _ => .fail
end
end Dl

set_option Elab.async false
set_option linter.all false
set_option maxRecDepth 100000
set_option maxHeartbeats 4000000
set_option autoImplicit false
/-! Dq: t[::-1] of a tuple; t * k; max and min of tuples. -/
namespace Dl
open PySem PySem.Spec PyProof.Rows L2 Gd RZ HT
section
variable {prog : Program} {w : World} {A : Around} {E : Value → Shared → Prop} {s : Shared}
theorem adjust_rev (n : Nat) : Builtin.Slice.sliceAdjust none none (-1) (n : Int) = ((n : Int) - 1, -1) := by
  unfold Builtin.Slice.sliceAdjust
  simp
theorem places_rev (n : Nat) : Builtin.Slice.slicePlaces ((n : Int) - 1) (-1) (-1) = n := by
  unfold Builtin.Slice.slicePlaces
  by_cases h : n = 0
  · subst h; simp
  · simp
    omega
theorem sliceApplied_rev {sl : Addr} {t : Tok} {n : Nat} {Q : Int × Int × Nat → Shared → Prop} (hs : s.heap.IsSliceOf sl .none .none (.int (-1) t))
    (h : Q ((n : Int) - 1, -1, n) s) : wpAny (model prog w) A (Builtin.Slice.sliceApplied (.ref sl) (pure (n : Int))) Q E s := by
  obtain ⟨os, hos, hcs, hds⟩ := id hs
  unfold Builtin.Slice.sliceApplied Builtin.Slice.sliceFields
  refine wpAny_bind (wpAny_bind (wpAny_field hos hds (x := .none) rfl (wpAny_bind (wpAny_field hos hds (x := .none) rfl (wpAny_bind (wpAny_field hos hds (x := .int (-1) t) rfl (wpAny_pure ?_)))))))
  refine wpAny_bind (slicePart_int ?_)
  show wpAny _ _ (if ((-1 : Int) == 0) = true then _ else _) _ _ s
  rw [if_neg (by decide)]
  refine wpAny_bind (slicePart_none (wpAny_bind (slicePart_none (wpAny_bind (wpAny_pure ?_)))))
  show wpAny _ _ (match Builtin.Slice.sliceAdjust none none (-1) (n : Int) with | (lo, hi) => pure (lo, (-1 : Int), Builtin.Slice.slicePlaces lo hi (-1))) _ _ s
  rw [adjust_rev n]
  show wpAny _ _ (pure ((n : Int) - 1, (-1 : Int), Builtin.Slice.slicePlaces ((n : Int) - 1) (-1) (-1))) _ _ s
  rw [places_rev]
  exact wpAny_pure h
theorem fm_congr {α β : Type} {f g : α → Option β} : ∀ {l : List α}, (∀ a ∈ l, f a = g a) → l.filterMap f = l.filterMap g
  | [], _ => rfl
  | a :: l, h => by
    rw [List.filterMap_cons, List.filterMap_cons, h a (List.mem_cons_self ..), fm_congr fun b m => h b (List.mem_cons_of_mem _ m)]
theorem pick_rev (xs : Array Value) : ((List.range xs.size).filterMap fun (m : Nat) => xs[(((xs.size : Int) - 1) + (m : Int) * (-1)).toNat]?).toArray = xs.toList.reverse.toArray := by
  have e : ((List.range xs.size).filterMap fun (m : Nat) => xs[(((xs.size : Int) - 1) + (m : Int) * (-1)).toNat]?) = ((List.range xs.size).map fun k => xs.size - 1 - k).filterMap (xs[·]?) := by
    rw [List.filterMap_map]
    refine fm_congr fun m hm => ?_
    have := List.mem_range.mp hm
    show xs[(((xs.size : Int) - 1) + (m : Int) * (-1)).toNat]? = xs[xs.size - 1 - m]?
    rw [show (((xs.size : Int) - 1) + (m : Int) * (-1)).toNat = xs.size - 1 - m by omega]
  rw [e, PySem.W.krv_range, List.filterMap_reverse, PySem.W.krv_all]
theorem getItem_tuple_rev {t sl : Addr} {items : Array Value} {u : Tok} {Q : Value → Shared → Prop} (ht : IsTup s.heap t items) (hs : s.heap.IsSliceOf sl .none .none (.int (-1) u))
    (h : Q (.ref s.heap.objs.size) { s with heap := s.heap.push { cls := .type "tuple", data := .seq items.toList.reverse.toArray } }) (hsz : items.size ≤ sizeLine) : wpAny (model prog w) A (getItem (.ref t) (.ref sl)) Q E s := by
  have htake : sizeOk (.seq items.toList.reverse.toArray) := by
    show items.toList.reverse.toArray.size ≤ sizeLine
    rw [List.size_toArray, List.length_reverse, Array.length_toList]
    exact hsz
  obtain ⟨os, hos, hcs, hds⟩ := id hs
  have hTs : s.TypeIs (.ref sl) "slice" := ⟨os, hos, hcs⟩
  unfold getItem
  try with_reducible refine wpAny_holding ?_
  first | refine wpAny_bind (wpAny_pure ?_) | skip
  refine wpAny_bind (wpAny_sequenceKey ht.typeIs (by decide) ?_)
  refine wpAny_bind (wpAny_callSpecial?_slot (name := Str.ofString "__getitem__") ht.typeIs PyProof.Rows.slot_tuple_getitem
    (wpAny_call_entry PyProof.Rows.slot_tuple_getitem ht.typeIs entry_tuple_getitem ?_ (args_tuple_getitem _ _)))
  show wpAny _ _ (Builtin.Tuple.tupleItemsOf (.ref t) >>= _) _ _ s
  refine wpAny_bind (tupleItemsOf_ ht ?_)
  refine wpAny_bind (wpAny_typeOf hTs ?_)
  rw [if_pos (by decide)]
  refine wpAny_bind (sliceApplied_rev hs ?_)
  show wpAny _ _ (if (((items.size : Int) - 1) == 0 && (-1 : Int) == 1 && items.size == items.size) = true then _ else _) _ _ s
  rw [if_neg (by simp), pick_rev]
  first
    | exact wpAny_bind (m := Builtin.Tuple.tupleExact _) (wpAny_newObj_type (wpAny_pure ⟨_, rfl, wpAny_pure h⟩) htake)
    | exact wpAny_bind (m := Builtin.Tuple.tupleExact _) (wpAny_newObj_type (wpAny_bind (wpAny_pure (wpAny_pure ⟨_, rfl, wpAny_pure h⟩))) htake)
    | exact wpAny_bind (wpAny_bind (m := Builtin.Tuple.tupleExact _) (wpAny_newObj_type (wpAny_pure (wpAny_pure ⟨_, rfl, wpAny_pure h⟩)) htake))
    | exact wpAny_bind (wpAny_bind (m := Builtin.Tuple.tupleExact _) (wpAny_newObj_type (wpAny_pure ⟨_, rfl, wpAny_pure h⟩) htake))
end
section
/-! ### t * k, k up to 1 -/
theorem tuple_mul1 (l : Addr) (items : Array Value) (n : Nat) (dd : Option Addr) (sl : Array (Option Value)) (x : Int) (u : Tok) (c0 : (decide (x < -(2 ^ 63)) || decide (x ≥ 2 ^ 63)) = false) (c1 : (items.isEmpty || x == 1) = true) :
    Meets (Builtin.«tuple.__mul__» ⟨[.ref l, .int x u], []⟩) (fun _ R s => s.heap.get? l = some { cls := .type "tuple", dict := dd, data := .seq items n, slots := sl } ∧ R (.ok (.ret (Value.ref l))) s) :=
  .of_wp fun prog w A R s h => by
    obtain ⟨hp, g, d, tk, os⟩ := s
    obtain ⟨hl, h⟩ := h
    have f1 := AutoSeq1.idx_int
    wp_walk using wpAny_loadPart' hl
    repeat (first
      | (refine wpAny_ite_false (decide_eq_false (by rw [c0]; exact Bool.false_ne_true)) ?_; wp_walk using wpAny_loadPart' hl)
      | (refine wpAny_ite_true (decide_eq_true c1) ?_; wp_walk using wpAny_loadPart' hl))
    exact ⟨_, rfl, h⟩
theorem tuple_mul0 (l : Addr) (items : Array Value) (n : Nat) (dd : Option Addr) (sl : Array (Option Value)) (x : Int) (u : Tok) (c0 : (decide (x < -(2 ^ 63)) || decide (x ≥ 2 ^ 63)) = false) (c1 : (items.isEmpty || x == 1) = false) (c2 : (decide (x ≤ 0) || items.isEmpty) = true) :
    Meets (Builtin.«tuple.__mul__» ⟨[.ref l, .int x u], []⟩) (fun _ R s => s.heap.get? l = some { cls := .type "tuple", dict := dd, data := .seq items n, slots := sl } ∧ R (.ok (.ret (Value.ref s.heap.objs.size))) { s with heap := s.heap.push { cls := Value.type "tuple", data := Data.seq #[] }, toks := s.toks }) :=
  .of_wp fun prog w A R s h => by
    obtain ⟨hp, g, d, tk, os⟩ := s
    obtain ⟨hl, h⟩ := h
    have f1 := AutoSeq1.idx_int
    wp_walk using wpAny_loadPart' hl
    repeat (first
      | (refine wpAny_ite_false (decide_eq_false (by rw [c0]; exact Bool.false_ne_true)) ?_; wp_walk using wpAny_loadPart' hl)
      | (refine wpAny_ite_false (decide_eq_false (by rw [c1]; exact Bool.false_ne_true)) ?_; wp_walk using wpAny_loadPart' hl)
      | (refine wpAny_ite_true (decide_eq_true c2) ?_; wp_walk using wpAny_loadPart' hl))
    exact ⟨_, rfl, h⟩
end
/-! ### xs[::-1], of either kind -/
def tRevA (K : PySem.W.Frag) (te : TE) : TE := fun σ H Q => te σ H fun x H1 => ∃ a xs, x = .ref a ∧ ((SqL K H1 a xs ∧ ∀ p, H1 p = none → Q (.ref p) (upd H1 p (.lst xs.reverse))) ∨ (SqT K H1 a xs ∧ ∀ p, H1 p = none → Q (.ref p) (upd H1 p (.tup xs.reverse))))
section
variable {X : Cx} {c : Fc}
theorem pe_revA {e : Expr} {te : TE} {k : Nat} {p1 p2 p3 pos : Pos} (he : PE X e te) : PE X (.Subscript e (.Slice none none (some (.UnaryOp .USub (.Constant (.int 1) k p1) p2)) p3) pos) (tRevA X.K te) := by
  refine ⟨fun pins s σ H Q I h => ?_⟩
  refine Subscript_ (thn (he.run pins s σ H _ I h) fun v s1 ⟨x, H1, I1, r1, q1⟩ => ?_)
  obtain ⟨a, xs, ex, hq⟩ := q1
  subst ex
  cases r1
  have hst : PO X (some (.UnaryOp .USub (.Constant (.int 1) k p1) p2)) (tPart (tUn (rU fun i => .int (-i)) (tC (.int 1)))) := po_some (pe_un un_neg pe_int)
  refine wpAny_Slice (thn (po_none.run pins s1 σ H1 (fun o H2 => o = none ∧ H2 = H1) I1 ⟨rfl, rfl⟩) fun vl s2 ⟨l, H2, I2, pl, el, e2⟩ => ?_)
  subst el e2
  refine thn (po_none.run pins s2 σ H2 (fun o H3 => o = none ∧ H3 = H2) I2 ⟨rfl, rfl⟩) fun vu s3 ⟨u, H3, I3, pu, eu, e3⟩ => ?_
  subst eu e3
  refine thn (hst.run pins s3 σ H3 (fun o H4 => o = some (-1) ∧ H4 = H3) I3 ⟨1, rfl, -1, rfl, rfl, rfl⟩) fun vs s4 ⟨o, H4, I4, ps, eo, e4⟩ => ?_
  subst eo e4
  have I5 : Inv X pins σ H4 { s4 with heap := s4.heap.push { cls := .type "slice", data := .fields #[vl, vu, vs] } } := I4.kept (t' := s4.toks) fun b ob q => Heap.get?_push_of_some _ q
  show wpAny (model X.prog X.w) X.A (subscriptTail e (.Slice none none (some (.UnaryOp .USub (.Constant (.int 1) k p1) p2)) p3) (.ref a) (.ref s4.heap.objs.size)) (EP X pins σ Q) X.xe { s4 with heap := s4.heap.push { cls := .type "slice", data := .fields #[vl, vu, vs] } }
  rcases hq with ⟨hx, q⟩ | ⟨hx, q⟩
  · obtain ⟨its, r, ht, hz⟩ := I5.list hx
    have hlen := r.length
    refine tail_any (ops := [.ref a, .ref s4.heap.objs.size]) ht.isList.typeIs (PySem.slot_list_getitem.lookup) ?_ (by with_unfolding_all rfl)
    refine wpAny_getItem_list_slice ht.isList (Heap.IsSliceOf.new _ vl vu vs) pl pu ps (by decide) ?_ (by rw [List.size_toArray]; omega)
    rw [PySem.W.krv_pick]
    refine ⟨.ref _, _, I5.laid (t' := s4.toks) (o := .lst xs.reverse) (fun b ob q => Heap.get?_push_of_some _ q) (Nat.le_refl _) ?_, rfl, q _ (I5.hok.fresh (Nat.le_refl _))⟩
    exact ⟨by rw [List.length_reverse]; exact hz, _, 0, r.reverse, Heap.get?_push_size _ rfl⟩
  · obtain ⟨its, r, ht, hz⟩ := I5.tuple hx
    have hlen := r.length
    refine tail_any (ops := [.ref a, .ref s4.heap.objs.size]) ht.typeIs (PyProof.Rows.slot_tuple_getitem.lookup) ?_ (by with_unfolding_all rfl)
    cases pl
    cases pu
    cases ps with
    | int i t =>
      refine getItem_tuple_rev ht (Heap.IsSliceOf.new _ .none .none _) ?_ (by rw [List.size_toArray]; omega)
      refine ⟨.ref _, _, I5.laid (t' := s4.toks) (o := .tup xs.reverse) (fun b ob q => Heap.get?_push_of_some _ q) (Nat.le_refl _) ?_, rfl, q _ (I5.hok.fresh (Nat.le_refl _))⟩
      exact ⟨by rw [List.length_reverse]; exact hz, _, r.reverse, IsTup.new _ _⟩
theorem pf_rev {e : Expr} {f : List Cell → M PyData} {k : Nat} {p1 p2 p3 pos : Pos} (eK : X.K = c.K) (he : PE X e (tG c f)) : PE X (.Subscript e (.Slice none none (some (.UnaryOp .USub (.Constant (.int 1) k p1) p2)) p3) pos) (tF c (mUn o_rev f)) :=
  pe_weak (pe_revA he) fun σ H Q ⟨W, Γ, S, q⟩ => by
    rw [eK]
    refine ⟨W, Γ, S, (f Γ).mono (fun d q H1 x k da => ?_) q⟩
    have S1 := S.ch k
    unfold o_rev at q
    split at q
    · obtain ⟨p, xs, rfl, h1, r1⟩ := pk_tup da
      exact ⟨p, xs, rfl, .inr ⟨h1, fun p hp => q _ _ (k.trans (S1.new1 hp)) (.tup (SqT.of upd_same) (r1.rev.same (same_new hp)))⟩⟩
    · obtain ⟨p, xs, rfl, h1, r1⟩ := pk_lst da
      exact ⟨p, xs, rfl, .inl ⟨SqL.of h1, fun p hp => q _ _ (k.trans (S1.new1 hp)) (.lst (S1.lw.dom hp) upd_same (r1.rev.same (same_new hp)))⟩⟩
    · exact q.elim
/-! ### t * k for all k -/
def rRepX (K : PySem.W.Frag) : R2 := fun x y H Q => ∃ l k xs, x = .ref l ∧ y = .int k ∧ SqT K H l xs ∧ -1000 ≤ k ∧ k ≤ 1000 ∧ xs.length ≤ 1000 ∧ (xs = [] ∨ k = 1 → Q (.ref l) H) ∧ (xs ≠ [] → k ≤ 0 → ∀ p, H p = none → Q (.ref p) (upd H p (.tup []))) ∧
  (xs ≠ [] → 2 ≤ k → ∀ p, H p = none → Q (.ref p) (upd H p (.tup (List.replicate k.toNat xs).flatten)))
theorem op_repX : OpR X (binaryOp .Mult) (rRepX X.K) := by
  intro pins s σ H x y v u Q I rx ry h
  obtain ⟨l, k, xs, rfl, rfl, hT, h0, h2, hz, q1, q0, q2⟩ := h
  have c0 : (decide (k < -(2 ^ 63)) || decide (k ≥ 2 ^ 63)) = false := by
    rw [decide_eq_false (by omega), decide_eq_false (by omega)] <;> rfl
  by_cases hk : 2 ≤ k ∧ xs ≠ []
  · exact op_repT pins s σ H _ _ v u Q I rx ry ⟨l, k, xs, rfl, rfl, hT, hk.2, hk.1, h2, hz, q2 hk.2 hk.1⟩
  · cases rx
    obtain ⟨t, rfl⟩ := ry
    obtain ⟨its, r, ⟨⟨cls, dd, data, sl⟩, ho, hc, n, hd⟩, hs⟩ := I.tuple hT
    simp only at hc hd
    subst hc hd
    have hle : its.length = xs.length := r.length.symm
    by_cases h1 : xs = [] ∨ k = 1
    · have c1 : (its.toArray.isEmpty || k == 1) = true := by
        rcases h1 with h1 | h1
        · have : its = [] := List.eq_nil_of_length_eq_zero (by rw [hle, h1]; rfl)
          rw [this]
          rfl
        · rw [h1]
          simp
      refine wpAny_binaryOp_repeat_ref (T := "tuple") (U := "int") (by decide) ⟨_, ho, rfl⟩ (fun s' => typeIs_int s' k t) noFill_tuple_mul F.fills_int_mul F.slot_int_rmul repeat_tuple F.slot_int_index.lookup
        (call_meets F.slot_int_rmul (typeIs_int s k t) F.entry_int_rmul (F.args_int_rmul_2 _ _) (int_rmul_tuple k t l its.toArray n dd sl)
          ⟨ho, rfl, ⟨_, ho, rfl⟩, call_meets F.slot_tuple_mul ⟨_, ho, rfl⟩ F.entry_tuple_mul (F.args_tuple_mul_2 _ _) (tuple_mul1 l its.toArray n dd sl k t c0 c1) ⟨ho, ?_⟩⟩)
      exact ⟨.ref l, H, I, rfl, q1 h1⟩
    · have hx : xs ≠ [] := fun z => h1 (.inl z)
      have hk0 : k ≤ 0 := by
        by_cases z : 2 ≤ k
        · exact absurd ⟨z, hx⟩ hk
        · have : k ≠ 1 := fun z => h1 (.inr z)
          omega
      have c1 : (its.toArray.isEmpty || k == 1) = false := by
        have hi : its.toArray.isEmpty = false := by
          cases its with
          | nil => exact absurd (List.eq_nil_of_length_eq_zero hle.symm) hx
          | cons a b => rfl
        rw [hi, Bool.false_or]
        exact beq_eq_false_iff_ne.mpr (fun z => h1 (.inr z))
      have c2 : (decide (k ≤ 0) || its.toArray.isEmpty) = true := by
        rw [decide_eq_true hk0]
        rfl
      refine wpAny_binaryOp_repeat_ref (T := "tuple") (U := "int") (by decide) ⟨_, ho, rfl⟩ (fun s' => typeIs_int s' k t) noFill_tuple_mul F.fills_int_mul F.slot_int_rmul repeat_tuple F.slot_int_index.lookup
        (call_meets F.slot_int_rmul (typeIs_int s k t) F.entry_int_rmul (F.args_int_rmul_2 _ _) (int_rmul_tuple k t l its.toArray n dd sl)
          ⟨ho, rfl, ⟨_, ho, rfl⟩, call_meets F.slot_tuple_mul ⟨_, ho, rfl⟩ F.entry_tuple_mul (F.args_tuple_mul_2 _ _) (tuple_mul0 l its.toArray n dd sl k t c0 c1 c2) ⟨ho, ?_⟩⟩)
      refine ⟨.ref s.heap.objs.size, _, I.laid (t' := s.toks) (o := .tup []) (fun b ob q => Heap.get?_push_of_some _ q) (Nat.le_refl _) ?_, rfl, q0 hx hk0 _ (I.hok.fresh (Nat.le_refl _))⟩
      exact ⟨Nat.zero_le _, [], .nil, IsTup.new _ _⟩
def rMulX (K : PySem.W.Frag) : R2 := fun x y H Q => rI CMulA (fun i j => .int (i * j)) x y H Q ∨ rRepX K x y H Q ∨ rRep x y H Q
theorem k_mulX {K : PySem.W.Frag} (e : X.K = K) : OpR X (binaryOp .Mult) (rMulX K) := e ▸ op_mulI.or (op_repX.or op_rep)
def o_mulX : PyData → PyData → M PyData
  | .int i, .int j => (M.gd (CMulA i j)).bind fun _ => .ret (.int (i * j))
  | .tuple a, .int k => (M.gd (-1000 ≤ k ∧ k ≤ 1000 ∧ a.length ≤ 1000)).bind fun _ => .ret (.tuple (List.replicate k.toNat a).flatten)
  | .list a, .int k => (M.gd (0 ≤ k ∧ k ≤ 1000 ∧ a.length ≤ 1000)).bind fun _ => .ret (.list (List.replicate k.toNat a).flatten)
  | _, _ => .fail
theorem op2_mulX : Op2 c (rMulX c.K) o_mulX := by
  intro W H x y a b Q lw hx hy q
  unfold o_mulX at q
  split at q
  · rw [pk_int hx, pk_int hy]
    exact .inl ⟨_, _, rfl, rfl, q.1, q.2 H _ (Same.refl H) (.int _)⟩
  · rename_i a k
    obtain ⟨p, xs, rfl, h1, r1⟩ := pk_tup hx
    rw [pk_int hy]
    obtain ⟨⟨z1, z2, z3⟩, q⟩ := q
    have l1 := r1.length
    refine .inr (.inl ⟨p, k, xs, rfl, rfl, h1, z1, z2, by omega, fun z => ?_, fun z0 z p hp => ?_, fun z0 z p hp => q _ _ (same_new hp) (.tup (SqT.of upd_same) ((r1.reps _).same (same_new hp)))⟩)
    · refine q H _ (Same.refl H) (.tup h1 ?_)
      rcases z with z | z
      · subst z
        cases r1
        have : (List.replicate k.toNat ([] : List PyData)).flatten = [] := by simp
        rw [this]
        exact .nil
      · subst z
        have : (List.replicate (1 : Int).toNat a).flatten = a := by simp
        rw [this]
        exact r1
    · refine q _ _ (same_new hp) (.tup (SqT.of upd_same) ?_)
      have : k.toNat = 0 := by omega
      rw [this]
      exact .nil
  · rename_i a k
    obtain ⟨p, xs, rfl, h1, r1⟩ := pk_lst hx
    rw [pk_int hy]
    obtain ⟨⟨z1, z2, z3⟩, q⟩ := q
    have l1 := r1.length
    refine .inr (.inr ⟨p, k, xs, rfl, rfl, h1, by omega, by omega, ?_, fun p hp => q _ _ (same_new hp) (.lst (lw.dom hp) upd_same ((r1.reps _).same (same_new hp)))⟩)
    have : xs.length * k.toNat ≤ 1000 * 1000 := Nat.mul_le_mul (by omega) (by omega)
    rw [sizeLine_eq]
    omega
  · exact q.elim
/-! ### max, min of a tuple of ints -/
theorem alike_ints : ∀ {ns : List Int}, PySem.W.AlikeAll (ns.map PyData.int) := by
  intro ns
  refine ⟨fun x hx y hy => ?_, fun x hx => ?_⟩
  · obtain ⟨i, _, rfl⟩ := List.mem_map.mp hx
    obtain ⟨j, _, rfl⟩ := List.mem_map.mp hy
    rfl
  · obtain ⟨i, _, rfl⟩ := List.mem_map.mp hx
    exact fun z => by cases z
theorem depth_ints : ∀ ns : List Int, PyData.depthAll (ns.map PyData.int) = 0
  | [] => rfl
  | i :: ns => by
    simp only [List.map_cons, PyData.depthAll, PyData.depth, depth_ints ns]
    rfl
theorem ints_reads {h : Heap} : ∀ {ns : List Int} {us : List Value}, Vals (ns.map V.int) us → ∃ as, ReadsAll h us (ns.map PyData.int) as
  | [], _, r => by cases r; exact ⟨_, .nil⟩
  | i :: ns, _, r => by
    cases r with
    | cons r1 r2 =>
      obtain ⟨t, rfl⟩ := r1
      obtain ⟨as, q⟩ := ints_reads r2
      exact ⟨_, .cons (.int i t) q⟩
def rMaxT (K : PySem.W.Frag) : List V → Hp → VK → Prop := fun vs H Q => ∃ (a : Addr) (n : Int) (ns : List Int), vs = [V.ref a] ∧ SqT K H a ((n :: ns).map V.int) ∧ Q (.int (ns.foldl max n)) H
theorem reads_int {h : Heap} {u : Value} {i : Int} {as : List Addr} (r : Reads h u (.int i) as) : RelV (.int i) u := by
  cases r with
  | int _ t => exact ⟨t, rfl⟩
theorem call_maxT (hc : X.calm = true) (hu : X.A.units + 64 < cLine) : CallR X (.builtin "max") (rMaxT X.K) := by
  intro pins s σ H vs us Q I r h
  obtain ⟨a, n, ns, rfl, hs, q⟩ := h
  obtain ⟨its, rv, hl, _⟩ := I.tuple hs
  rw [Vals.ref1 r]
  obtain ⟨as, hr⟩ := ints_reads (h := s.heap) rv
  refine PySem.W.max_tuple_data (x := .int n) (xs := ns.map .int) (I.ok.hd hc) (show s.heap.IsTuple a its.toArray from hl) hr (alike_ints (ns := n :: ns)) (by rw [show PyData.int n :: ns.map PyData.int = (n :: ns).map PyData.int from rfl, depth_ints]; omega) fun i v h' tk bs _ rd hk => ?_
  rw [PySem.W.maxD_ints] at rd
  exact ⟨.int _, H, I.kept (t' := tk) hk, reads_int rd, q⟩
theorem k_maxT {K : PySem.W.Frag} (e : X.K = K) (hc : X.calm = true) (hu : X.A.units + 64 < cLine) : CallR X (.builtin "max") (rMaxT K) := e ▸ call_maxT hc hu
/-- intsO, told by a list of them -/
def intsO : List PyData → Option (List Int)
  | [] => some []
  | .int b :: r => (intsO r).map (b :: ·)
  | _ :: _ => none
theorem ints_da {W : Addr → Prop} {H : Hp} : ∀ {xs : List V} {ds : List PyData} {bs : List Int}, DaL W c.K H xs ds → intsO ds = some bs → xs = bs.map V.int
  | _, _, _, .nil, e => by cases e; rfl
  | _, _, bs, .cons (ds := r') (d := d) h r, e => by
    cases d with
    | int b =>
      simp only [intsO, Option.map_eq_some_iff] at e
      obtain ⟨cs, e1, rfl⟩ := e
      cases h
      rw [ints_da r e1]
      rfl
    | _ => simp [intsO] at e
def o_maxT : PyData → M PyData
  | .tuple a => (M.opt (intsO a)).bind fun bs => match bs with
    | n :: ns => .ret (.int (ns.foldl max n))
    | [] => .fail
  | _ => .fail
theorem fn_maxT : Fn1 c (fun x => rMaxT c.K [x]) o_maxT := by
  intro W H x a Q lw hx q
  unfold o_maxT at q
  split at q
  · rename_i a
    obtain ⟨p, xs, rfl, h1, r1⟩ := pk_tup hx
    cases e : intsO a with
    | none => rw [e] at q; exact q.elim
    | some bs =>
      rw [e] at q
      have e2 := ints_da r1 e
      subst e2
      cases bs with
      | nil => exact q.elim
      | cons n ns => exact ⟨p, n, ns, rfl, h1, q H _ (Same.refl H) (.int _)⟩
  · exact q.elim
/-- max(e, default=d) -/
def o_maxD : PyData → PyData → M PyData
  | .tuple a, .int d => (M.opt (intsO a)).bind fun bs => match bs with
    | n :: ns => .ret (.int (ns.foldl max n))
    | [] => .ret (.int d)
  | _, _ => .fail
theorem pf_maxD {e1 e2 : Expr} {f g : List Cell → M PyData} {p pos kp : Pos} (eK : X.K = c.K) (hc : X.calm = true) (hu : X.A.units + 64 < cLine) (hg : Gl X "max") (hm : X.mg "max" = none) (ha : PE X e1 (tF c f)) (hb : PE X e2 (tF c g))
    (he : starEach [e1] X.env = (false, eval e1 X.env) :: starEach [] X.env := by rfl) :
    PE X (.Call (.Name "max" p) [e1] [⟨some "default", e2, kp⟩] pos) (tF c (mOp o_maxD f g)) := by
  refine ⟨fun pins s σ H Q I h => ?_⟩
  obtain ⟨W, Γ, S, h⟩ := h
  refine wpAny_Call_Name_kw (ld_blt I hg hm (show bootBuiltins "max" = some (.builtin "max") by decide +kernel) ?_ (by decide) (by decide))
  have hk : backTo pos (starEach [e1] X.env) = (false, eval e1 X.env) :: backTo pos (starEach [] X.env) := by
    rw [he]; rfl
  refine PyProof.Rows.callWith_kw ?_ hk (by rw [hk]; rfl)
  refine thn ((pa_cons ha pa_nil he).run pos pins s σ H (fun vs H1 => ∃ v d, vs = [v] ∧ Da W c.K H1 v d ∧ Ch c H H1 ∧ ((g Γ).bind fun b => o_maxD d b).run fun d => ∀ H' v, Ch c H H' → Da W c.K H' v d → Q v H') I ⟨W, Γ, S, (f Γ).mono (fun d q H1 v k da => ⟨v, d, rfl, da, k, q⟩) h⟩) fun us s1 ⟨vs, H1, I1, r1, v, d, e, da, k1, q1⟩ => ?_
  subst e
  obtain ⟨u, rfl, ru⟩ := vals1 r1
  refine thn ((pk_cons (nm := some "default") (kpos := kp) hb pk_nil).run pos pins s1 σ H1 (fun vs H2 => ∃ v2 b, vs = [v2] ∧ Da W c.K H2 v2 b ∧ Ch c H1 H2 ∧ (o_maxD d b).run fun d => ∀ H' v, Ch c H H' → Da W c.K H' v d → Q v H') I1 ⟨W, Γ, S.ch k1, (g Γ).mono (fun b q H2 v k db => ⟨v, b, rfl, db, k, q⟩) q1⟩) fun us2 s2 ⟨vs2, H2, I2, r2, v2, b, e2, db, k2, q2⟩ => ?_
  subst e2
  obtain ⟨u2, rfl, ru2⟩ := vals1 r2
  have da2 := (S.ch k1).da k2 da
  have kk := k1.trans k2
  unfold o_maxD at q2
  split at q2
  · rename_i _ _ dl dd
    cases da2 with
    | @tup ad xs _ h1 r =>
      cases db
      obtain ⟨t2, rfl⟩ := ru2
      cases ru
      cases ei : intsO _ with
      | none => rw [ei] at q2; exact q2.elim
      | some bs =>
        rw [ei] at q2
        have ex := ints_da r ei
        subst ex
        rw [← eK] at h1
        obtain ⟨its, rv, hl, _⟩ := I2.tuple h1
        obtain ⟨as, hr⟩ := ints_reads (h := s2.heap) rv
        refine PySem.W.max_tuple_default (xs := bs.map .int) (I2.ok.hd hc) (show s2.heap.IsTuple ad its.toArray from hl) hr alike_ints (by rw [depth_ints]; omega) (fun e0 h' tk hk => ?_) fun y ys i v h' tk bs' e0 _ rd hk => ?_
        · cases bs with
          | nil => exact ⟨.int dl, H2, I2.kept (t' := tk) hk, ⟨_, rfl⟩, q2 H2 _ kk (.int _)⟩
          | cons n ns => cases e0
        · cases bs with
          | nil => cases e0
          | cons n ns =>
            injection e0 with e1 e2
            subst e1 e2
            rw [PySem.W.maxD_ints] at rd
            exact ⟨.int _, H2, I2.kept (t' := tk) hk, reads_int rd, q2 H2 _ kk (.int _)⟩
  · exact q2.elim
end
end Dl

set_option Elab.async false
set_option linter.all false
set_option maxRecDepth 100000
set_option maxHeartbeats 4000000
set_option autoImplicit false
/-! Dr: sides of generator expressions; the end of a def by data. -/
namespace Dl
open PySem PySem.Spec PyProof.Rows L2 Gd RZ
theorem room_g {k : Nat} {A : Around} (r : Room (k + 1) A) (env : Env) : Room k (A.in1.in1.deeper env) :=
  ⟨r.hd, by have := r.dp; show A.depth + 1 + 3 * k + 5 < _; omega, by have := r.un; show A.units + 1 + 1 + 3 + 16 * k + 200 < _; omega⟩
theorem cl_g {A : Around} (h : Cl A) (env : Env) : Cl (A.in1.in1.deeper env) := cl_deeper (cl_in1 (cl_in1 h)) env
theorem cl_eq {A A2 : Around} {env : Env} (h : A2 = A.in1.in1.deeper env) (c : Cl A) : Cl A2 := by subst h; exact cl_g c env
theorem room_eq {k : Nat} {A A2 : Around} {env : Env} (h : A2 = A.in1.in1.deeper env) (r : Room (k + 1) A) : Room k A2 := by subst h; exact room_g r env
theorem gens_of {env : Env} {scope dsc : Scope} {x : Str} {n : Nat} (h1 : scope.kind = .function) (h2 : scope.isCoroutine = false) (h3 : (scope.names.all fun y => y.2 != .cell) = true) (h4 : scope.names.lookup (".0" : Str) = some NameKind.local) (h5 : scope.names.lookup x = some .local)
    (h6 : (scope.names.all fun y => y.2 != .free || dsc.names.lookup y.1 == some .cell) = true) (hc : env.cells = cellsFrom n dsc.names []) : GxR.GenS env scope x := by
  refine ⟨h1, h2, fun y hy e => ?_, h4, h5, fun y hy e => ?_⟩
  · have := List.all_eq_true.mp h3 y hy
    rw [e] at this
    exact absurd this (by decide)
  · have := List.all_eq_true.mp h6 y hy
    rw [e] at this
    have q : dsc.names.lookup y.1 = some .cell := by
      have z : ((NameKind.free != NameKind.free) = false) := by decide
      rw [z, Bool.false_or] at this
      exact eq_of_beq this
    rw [hc]
    exact Option.isSome_iff_exists.mp (PySem.W.cellsFrom_some _ _ _ (.inl q))
def capB (N : List Str) (dsc scope : Scope) : List Str → List Nat → Bool
  | [], [] => true
  | y :: ys, j :: js => (scope.names.lookup y == some .free) && ((N[j]? == some y) && ((dsc.names.lookup y == some .cell) && capB N dsc scope ys js))
  | _, _ => false
theorem caps_of {X : Cx} {scope : Scope} : ∀ {ys : List Str} {caps : List Nat}, capB X.N X.env.scope scope ys caps = true → Caps X scope ys caps
  | [], [], _ => ⟨rfl, fun i y e => by simp at e⟩
  | y :: ys, j :: js, h => by
    unfold capB at h
    obtain ⟨h1, h⟩ := (Bool.and_eq_true_iff.mp h)
    obtain ⟨h2, h⟩ := (Bool.and_eq_true_iff.mp h)
    obtain ⟨h3, h⟩ := (Bool.and_eq_true_iff.mp h)
    obtain ⟨q1, q2⟩ := caps_of h
    refine ⟨by rw [List.length_cons, List.length_cons, q1], fun i z e => ?_⟩
    cases i with
    | zero =>
      rw [List.getElem?_cons_zero] at e
      cases e
      exact ⟨eq_of_beq h1, j, rfl, eq_of_beq h2, .inl (eq_of_beq h3)⟩
    | succ i =>
      rw [List.getElem?_cons_succ] at e
      obtain ⟨a, j', b, c⟩ := q2 i z e
      exact ⟨a, j', by rw [List.getElem?_cons_succ]; exact b, c⟩
  | [], _ :: _, h => by simp [capB] at h
  | _ :: _, [], h => by simp [capB] at h
section
variable {K : PySem.W.Frag} {T : Addr → Prop}
theorem body_d' {vs : List V} {H : Hp} {Q : VK} {E : XK} {N : List Str} {n k : Nat} {m : Sg} (hN : N.length = n + k) (h : spD K T n (fnD k m) vs H Q E) : ∃ W0 H0, tSF (fc K T none W0 H0) m { nx := fun _ H' => Q .non H', rt := Q } (L2.start N vs) H := by
  obtain ⟨W, ds, h1, lw, l, q⟩ := h
  have q : (m (ds.map .im ++ List.replicate k .un)).run fun o => (outD o).run fun d => ∀ H' v, Ch (fc K T none W H) H H' → Da W K H' v d → Q v H' := q
  refine ⟨W, H, W, ds.map .im ++ List.replicate k .un, ?_, (m _).mono (fun o q => ?_) q⟩
  · unfold L2.start
    rw [show N.length - vs.length = k by rw [h1.length, l]; omega]
    exact sr_start h1 lw
  · cases o with
    | rt d => exact q
    | nx Γ => exact fun W' σ' H' S _ _ => q H' _ S.ret .non
    | bk Γ => exact q.elim
    | ct Γ => exact q.elim
theorem body_w' {vs : List V} {H : Hp} {Q : VK} {E : XK} {N : List Str} {n k : Nat} {m : Sg} (hN : N.length = n + 1 + k) (h : spW K T n (fnW k m) vs H Q E) : ∃ w W0 H0, tSF (fc K T (some w) W0 H0) m { nx := fun _ H' => Q .non H', rt := Q } (L2.start N vs) H := by
  obtain ⟨w, W, ds, us, rfl, hw, wl, h1, lw, l, q⟩ := h
  have q : (m (.well :: ds.map .im ++ List.replicate k .un)).run fun o => (outD o).run fun d => ∀ H' v, Ch (fc K T (some w) W H) H H' → Da W K H' v d → Q v H' := q
  refine ⟨w, W, H, W, .well :: ds.map .im ++ List.replicate k .un, ?_, (m _).mono (fun o q => ?_) q⟩
  · unfold L2.start
    rw [show N.length - (V.ref w :: us).length = k by rw [List.length_cons, h1.length, l]; omega]
    exact sr_startW hw wl h1 lw
  · cases o with
    | rt d => exact q
    | nx Γ => exact fun W' σ' H' S _ _ => q H' _ S.ret .non
    | bk Γ => exact q.elim
    | ct Γ => exact q.elim
end
/-- where a def's code object stands, and its table -/
def CdT (T : Addr → Prop) (base : Heap) (mg : Str → Option Value) (cdv : Value) : Prop := ∃ cd P, T P ∧ cdv = .ref cd ∧ GxR.TabB base mg cd P
/-- a def of the text with its code object's table -/
def DefT (T : Addr → Prop) (base : Heap) (K : PySem.W.Frag) (mg : Str → Option Value) (x : Str) (st : Stmt) : Prop :=
  ∃ f fd, FunD K x x (defArgs st) (defBody st) (defScope st) [] [] f fd ∧ mg x = some (.ref f) ∧ ∀ c fd', K.lookup f = some c → c.data = .func fd' → CdT T base mg fd'.code
theorem FnG.ok2 {P : Program} {w : World} {K : PySem.W.Frag} {mg : Str → Option Value} {base : Heap} {x : Str} {st : Stmt} {N ps : List Str} {k : Nat} {sp : Sp} {T : Addr → Prop} (D : DefT T base K mg x st) (S : FnScope N ps (defScope st)) (len : ∀ vs H Q E, sp vs H Q E → vs.length = ps.length)
    (hbi : ∀ (kV doc pm : Value) (an : Option Addr) (cdv ct : Value) (us : List Value), us.length = ps.length → bindArgs (PySem.W.fnOf x x (defArgs st) (defBody st) (defScope st) .none kV doc pm an cdv ct) ⟨us, []⟩ = pure (ps.zip us))
    (hb : ∀ (f : Addr) (cdv : Value) (A : Around) (outer : List Env) (s : Shared) (H : Hp) (vs : List V) (Q : VK) (E : XK), Cl (A.deeper (envOfC x (defScope st) s.heap.objs.size f cdv)) → Room k (A.deeper (envOfC x (defScope st) s.heap.objs.size f cdv)) → CdT T base mg cdv → sp vs H Q E →
      ∃ t, PSs (cxOf CX0 P w K mg base N x (defScope st) f cdv A outer s H E).nox (defBody st) t ∧ t { nx := fun _ H' => Q .non H', rt := Q } (L2.start N vs) H) :
    Cal P w K mg base x (k + 1) ps sp := by
  obtain ⟨f, fd, F, g, hcd⟩ := D
  refine ⟨f, fd, FnG.ok F S len (fun cdv A outer s H vs Q E hG hr _ hl h => ?_), g, F.kp, F.bindsN hbi⟩
  have cd : CdT T base mg cdv := by
    obtain ⟨oc, od, dV, kV, doc, pm, an, cdv', ct, osl, rfl, lk, _⟩ := F.ex
    obtain ⟨fd', e1, e2⟩ := hl _ lk
    have := hcd _ fd' lk e1
    rw [e2] at this
    exact this
  obtain ⟨t, h1, h2⟩ := hb f cdv A outer s H vs Q E hG hr cd h
  exact ⟨t, h1.nox, h2⟩
end Dl

set_option Elab.async false
set_option linter.all false
set_option maxRecDepth 100000
set_option maxHeartbeats 4000000
set_option autoImplicit false
/-! Dk: small rules for the printed derivations. -/
namespace Dl
open PySem PySem.Spec PyProof.Rows L2 Gd RZ
/-- a def that may be called by keywords alone -/
def CalK (P : Program) (w : World) (K : PySem.W.Frag) (mg : Str → Option Value) (base : Heap) (x : Str) (k : Nat) (ps ks : List Str) (sp : Sp) (G : {α : Type} → List α → List α → List α) : Prop :=
  ∃ f fd, FnG P w K mg base CX0 k f fd ps sp ∧ mg x = some (.ref f) ∧ PySem.W.keepIn K (.ref f) = true ∧ KwB K fd ps ks 0 G
abbrev gId {α : Type} (_ ws : List α) : List α := ws
abbrev gRev {α : Type} (_ ws : List α) : List α := ws.reverse
theorem Def1.calK {P : Program} {w : World} {K : PySem.W.Frag} {mg : Str → Option Value} {base : Heap} {x : Str} {st : Stmt} {N ps ks : List Str} {k : Nat} {sp : Sp} {G : {α : Type} → List α → List α → List α}
    (D : Def1 K mg x st) (S : FnScope N ps (defScope st)) (len : ∀ vs H Q E, sp vs H Q E → vs.length = ps.length)
    (hbi : ∀ (kV doc pm : Value) (an : Option Addr) (cdv ct : Value) (ws : List Value), ws.length = ks.length → bindArgs (PySem.W.fnOf x x (defArgs st) (defBody st) (defScope st) .none kV doc pm an cdv ct) ⟨[], ks.zip ws⟩ = pure (ps.zip (G [] ws)))
    (hrel : ∀ {vs zs : List V} {us ws : List Value}, Vals vs us → Vals zs ws → Vals (G vs zs) (G us ws))
    (hb : ∀ (f : Addr) (cdv : Value) (A : Around) (outer : List Env) (s : Shared) (H : Hp) (vs : List V) (Q : VK) (E : XK), Cl (A.deeper (envOfC x (defScope st) s.heap.objs.size f cdv)) → Room k (A.deeper (envOfC x (defScope st) s.heap.objs.size f cdv)) → sp vs H Q E →
      ∃ t, PSs (cxOf CX0 P w K mg base N x (defScope st) f cdv A outer s H E).nox (defBody st) t ∧ t { nx := fun _ H' => Q .non H', rt := Q } (L2.start N vs) H) :
    CalK P w K mg base x (k + 1) ps ks sp G := by
  obtain ⟨f, fd, F, g⟩ := D
  refine ⟨f, fd, FnG.ok F S len (fun cdv A outer s H vs Q E hG hr _ _ h => ?_), g, F.kp, ⟨fun s us ws h1 h2 => ?_, fun r1 r2 _ _ => hrel r1 r2⟩⟩
  · obtain ⟨t, h1, h2⟩ := hb f cdv A outer s H vs Q E hG hr h
    exact ⟨t, h1.nox, h2⟩
  · have e : us = [] := List.eq_nil_of_length_eq_zero h1
    subst e
    obtain ⟨oc, od, dV, kV, doc, pm, an, cdv, ct, osl, rfl, lk, hcd, hD, hK⟩ := F.ex
    rcases hD with ⟨_, rfl⟩ | ⟨e, _⟩
    · exact .of_eq (hbi kV doc pm an cdv ct ws h2)
    · exact absurd rfl e
section
variable {X : Cx} {c : Fc} {K : PySem.W.Frag} {e : Expr} {f : List Cell → M PyData} {pos : Pos}
theorem op2_lt : Op2 c Gd.rLt (o_cmp fun i j => decide (i < j)) := op2_cmp
theorem op2_le : Op2 c Gd.rLe (o_cmp fun i j => decide (i ≤ j)) := op2_cmp
theorem op2_gt : Op2 c Gd.rGt (o_cmp fun i j => decide (j < i)) := op2_cmp
theorem op2_ge : Op2 c Gd.rGe (o_cmp fun i j => decide (j ≤ i)) := op2_cmp
theorem k_in (e : X.K = K) : OpR X (compareOp .In) (rIn K false) := e ▸ op_in_seq
theorem k_notIn (e : X.K = K) : OpR X (compareOp .NotIn) (rIn K true) := e ▸ op_notIn_seq
theorem ptsf_one {c' : Expr} {t : List Cell → M Bool} (h : PT X c' (tTF c t)) : PTs X [c'] (tTF c t) := pts_one h
theorem pf_pow {i k j j2 p2 p3} (h : CPow i k) : PE X (.BinOp (.Constant (.int i) j p2) .Pow (.Constant (.int k) j2 p3) pos) (tF c (mCon (.int (i ^ k.toNat)))) :=
  pe_weak (pe_op op_pow pe_int pe_int) fun σ H Q ⟨W, Γ, S, q⟩ => ⟨i, k, rfl, rfl, h, q H _ S.refl (.int _)⟩
/-! == and != with the empty tuple -/
def rEqT (K : PySem.W.Frag) : R2 := fun x y H Q => ∃ a b xs, x = .ref a ∧ y = .ref b ∧ SqT K H a xs ∧ SqT K H b [] ∧ Q (.bl (decide (xs = []))) H
def rNeT (K : PySem.W.Frag) : R2 := fun x y H Q => ∃ a b xs, x = .ref a ∧ y = .ref b ∧ SqT K H a xs ∧ SqT K H b [] ∧ Q (.bl (!decide (xs = []))) H
theorem sz_nil {xs : List V} {its : List Value} (r : Vals xs its) : ((List.range (min its.toArray.size ([] : List Value).toArray.size)).all (fun _ => true) && its.toArray.size == ([] : List Value).toArray.size) = decide (xs = []) := by
  have l := r.length
  cases xs with
  | nil => cases r; rfl
  | cons x xs =>
    cases r
    simp
theorem op_eqT (hu : X.A.units + 64 < cLine) : OpR X (compareOp .Eq) (rEqT X.K) := by
  intro pins s σ H x y v u Q I rx ry h
  obtain ⟨a, b, xs, rfl, rfl, ha, hb, q⟩ := h
  cases rx
  cases ry
  obtain ⟨its, r, pa, _⟩ := I.tuple ha
  obtain ⟨its2, r2, pb, _⟩ := I.tuple hb
  cases r2
  refine SeqAt.RcAt.tuples (e := fun _ => true) (show s.heap.IsTuple a its.toArray from pa) (show s.heap.IsTuple b ([] : List Value).toArray from pb) (by omega) (fun j h1 h2 => absurd h2 (by simp)) X.prog X.w _ _ ?_
  rw [sz_nil r]
  exact ⟨.bl _, H, I, rfl, q⟩
theorem op_neT (hu : X.A.units + 64 < cLine) : OpR X (compareOp .NotEq) (rNeT X.K) := by
  intro pins s σ H x y v u Q I rx ry h
  obtain ⟨a, b, xs, rfl, rfl, ha, hb, q⟩ := h
  cases rx
  cases ry
  obtain ⟨its, r, pa, _⟩ := I.tuple ha
  obtain ⟨its2, r2, pb, _⟩ := I.tuple hb
  cases r2
  refine SeqAt.RcNeAt.tuples (e := fun _ => true) (show s.heap.IsTuple a its.toArray from pa) (show s.heap.IsTuple b ([] : List Value).toArray from pb) (by omega) (fun j h1 h2 => absurd h2 (by simp)) X.prog X.w _ _ ?_
  rw [sz_nil r]
  exact ⟨.bl _, H, I, rfl, q⟩
def rEqX (K : PySem.W.Frag) : R2 := fun x y H Q => rEqA K x y H Q ∨ rEqT K x y H Q
def rNeX (K : PySem.W.Frag) : R2 := fun x y H Q => rNeA K x y H Q ∨ rNeT K x y H Q
theorem k_eqX (e : X.K = K) (hu : X.A.units + 64 < cLine) : OpR X (compareOp .Eq) (rEqX K) := e ▸ (op_eqA hu).or (op_eqT hu)
theorem k_neX (e : X.K = K) (hu : X.A.units + 64 < cLine) : OpR X (compareOp .NotEq) (rNeX K) := e ▸ (op_neA hu).or (op_neT hu)
def o_eqX : PyData → PyData → M PyData
  | .str a, .str b => .ret (.bool (decide (a = b)))
  | .tuple ds, .tuple [] => .ret (.bool (decide (ds = [])))
  | a, b => (M.gd (SeqAt.shaped a = true ∧ SeqAt.shaped b = true)).bind fun _ => .ret (.bool (PyData.eqv a b))
def o_neX : PyData → PyData → M PyData
  | .str a, .str b => .ret (.bool (!decide (a = b)))
  | .tuple ds, .tuple [] => .ret (.bool (!decide (ds = [])))
  | a, b => (M.gd (SeqAt.shaped a = true ∧ SeqAt.shaped b = true)).bind fun _ => .ret (.bool (!PyData.eqv a b))
theorem nil_iff {W : Addr → Prop} {H : Hp} {xs : List V} {ds : List PyData} (r : DaL W K H xs ds) : decide (ds = []) = decide (xs = []) := by cases r <;> simp
theorem op2_eqX : Op2 c (rEqX c.K) o_eqX := by
  intro W H x y a b Q lw hx hy q
  unfold o_eqX at q
  split at q
  · rename_i a b
    rw [pk_str hx, pk_str hy]
    refine .inl (.inl ⟨rfl, ?_⟩)
    rw [show decide (V.str a = V.str b) = decide (a = b) by simp]
    exact q H _ (Same.refl H) (.bl _)
  · obtain ⟨p, xs, rfl, h1, r1⟩ := pk_tup hx
    obtain ⟨p2, ys, rfl, h2, r2⟩ := pk_tup hy
    cases r2
    refine .inr ⟨p, p2, xs, rfl, rfl, h1, h2, ?_⟩
    rw [← nil_iff r1]
    exact q H _ (Same.refl H) (.bl _)
  · exact .inl (op2_eq W H x y _ _ Q lw hx hy q)
theorem op2_neX : Op2 c (rNeX c.K) o_neX := by
  intro W H x y a b Q lw hx hy q
  unfold o_neX at q
  split at q
  · rename_i a b
    rw [pk_str hx, pk_str hy]
    refine .inl (.inl ⟨rfl, ?_⟩)
    rw [show decide (V.str a = V.str b) = decide (a = b) by simp]
    exact q H _ (Same.refl H) (.bl _)
  · obtain ⟨p, xs, rfl, h1, r1⟩ := pk_tup hx
    obtain ⟨p2, ys, rfl, h2, r2⟩ := pk_tup hy
    cases r2
    refine .inr ⟨p, p2, xs, rfl, rfl, h1, h2, ?_⟩
    rw [← nil_iff r1]
    exact q H _ (Same.refl H) (.bl _)
  · exact .inl (op2_ne W H x y _ _ Q lw hx hy q)
/-- keywords alone -/
theorem pe_calK {k : Nat} {ps ks : List Str} {sp : Sp} {x : Str} {p : Pos} {kws : List Keyword} {tk : TA} {G : {α : Type} → List α → List α → List α} (C : CalK X.prog X.w X.K X.mg X.base x k ps ks sp G) (hG : Cl X.A) (hr : Room k X.A) (hg : Gl X x) (hkw : PK X kws tk)
    (hall : (backToKw pos (keywordEach kws X.env)).all (·.1.isSome) = true := by rfl) (hks : (backToKw pos (keywordEach kws X.env)).filterMap (·.1) = ks := by rfl) (hdb : (x == ("__debug__" : Str)) = false := by decide)
    (hpl : ((backTo pos (starEach [] X.env)).any (·.1) || (backToKw pos (keywordEach kws X.env)).any (·.1.isNone)) = false := by rfl) : PE X (.Call (.Name x p) [] kws pos) (tCK sp 0 ks.length G E0 tNil tk) := by
  obtain ⟨f, fd, F, hm, hk, hb⟩ := C
  exact pe_ck0 F hG hr hg hm hk hb pass0 hkw hall hks hdb hpl
/-- one(well, e) -/
def g_one : PyData → M PyData
  | .tuple ds => (M.gd (ds ≠ [] ∧ ds.length ≤ 1000000)).bind fun _ => M.any (· ∈ ds)
  | .list ds => (M.gd (ds ≠ [] ∧ ds.length ≤ 1000000)).bind fun _ => M.any (· ∈ ds)
  | _ => .fail
def mOne (i : Nat) (f : List Cell → M PyData) : List Cell → M PyData := fun Γ => match Γ[i]? with
  | some .well => (f Γ).bind g_one
  | _ => .fail
theorem DaL.mem {W : Addr → Prop} {H : Hp} : ∀ {vs : List V} {ds : List PyData}, DaL W K H vs ds → ∀ {v : V}, v ∈ vs → ∃ d ∈ ds, Da W K H v d
  | _, _, .nil, _, e => by cases e
  | _, _, .cons h r, v, e => by
    rcases List.mem_cons.mp e with rfl | e
    · exact ⟨_, List.mem_cons_self .., h⟩
    · obtain ⟨d, m, q⟩ := DaL.mem r e
      exact ⟨d, List.mem_cons_of_mem _ m, q⟩
theorem Sr.chw {W : Addr → Prop} {H H' : Hp} {σ : L2.St} {Γ : List Cell} (S : Sr c W H σ Γ) {w : Addr} (ow : c.ow = some w) (k : Kp w H H') (wl : Wl H' w) : Ch c H H' :=
  ⟨fun b o n t h => k b o (fun z => n (by rw [z, ow])) h, fun a t => (by
    obtain ⟨ps, e, r⟩ := S.lw.t a t
    refine ⟨ps, k a _ ?_ e, r⟩
    rintro rfl
    obtain ⟨_, _, _, q, _⟩ := S.wl a ow
    rw [e] at q
    cases q), fun v e => (by rw [ow] at e; cases e; exact wl)⟩
theorem pf_one1 {E : XK} {i : Nat} (h : PE X e (tCall (spOne c.K) [] E (tCons (tVar i) (tCons (tG c f) tNil)))) : PE X e (tF c (mOne i f)) := pe_weak h fun σ H Q ⟨W, Γ, S, q⟩ => by
  unfold mOne at q
  split at q
  · rename_i e1
    obtain ⟨w, ow, e2⟩ := S.at' i _ e1
    refine ⟨_, e2, W, Γ, S, (f Γ).mono (fun d q H1 v k da => ?_) q⟩
    have S1 := S.ch k
    unfold g_one at q
    split at q
    · obtain ⟨p, xs, rfl, h1, r1⟩ := pk_tup da
      refine ⟨w, p, xs, rfl, .inl h1, fun z => ?_, by have := q.1.2; rw [r1.length]; omega, S1.wl w ow, fun v hv H2 k2 w2 => ?_⟩
      · subst z; cases r1; exact q.1.1 rfl
      · obtain ⟨d, hd, dd⟩ := r1.mem hv
        have c2 := S1.chw ow k2 w2
        exact q.2 d hd H2 v (k.trans c2) (S1.da c2 dd)
    · obtain ⟨p, xs, rfl, h1, r1⟩ := pk_lst da
      refine ⟨w, p, xs, rfl, .inr ⟨SqL.of h1, ?_⟩, fun z => ?_, by have := q.1.2; rw [r1.length]; omega, S1.wl w ow, fun v hv H2 k2 w2 => ?_⟩
      · rintro rfl
        rcases da with da | ⟨a, ys, es, e3, _, n, _⟩
        · cases da with | lst n h r => exact n (S1.ww p ow)
        · cases e3; exact n ow.symm
      · subst z; cases r1; exact q.1.1 rfl
      · obtain ⟨d, hd, dd⟩ := r1.mem hv
        have c2 := S1.chw ow k2 w2
        exact q.2 d hd H2 v (k.trans c2) (S1.da c2 dd)
    · exact q.elim
  · exact q.elim
end
end Dl

set_option Elab.async false
set_option linter.all false
set_option maxRecDepth 100000
set_option maxHeartbeats 2000000
set_option autoImplicit false
/-! En: enumerate over a tuple. -/
namespace Gd
open PySem PySem.Spec PyProof.Rows L2
open Sem (wp)
theorem meets_enum1 {v : Value} {ob : Obj} {Hq : Heap → Prop} (B : Begins v ob Hq) :
    Meets (Builtin.«enumerate.__new__» ⟨[.type "enumerate", v], []⟩) (fun _ Rr z => Hq z.heap ∧ Rr (.ok (.ret (.ref (z.heap.push ob).objs.size)))
        { z with heap := (z.heap.push ob).push { cls := .type "enumerate", data := .fields #[.none, .bool false, .ref z.heap.objs.size, rawInt 0, .none, .none] } }) :=
  .of_wp fun prog w A Rr z hz => by
    obtain ⟨hh, gg, dd, tt, oo⟩ := z
    obtain ⟨a1, a2⟩ := hz
    have sb := sub_enumerate
    have it1 : ∀ {A2 : Around} {E2 Q2 : Value → Shared → Prop}, Q2 (.ref hh.objs.size) ⟨hh.push ob, gg, dd, tt, oo⟩ → wpAny (model prog w) A2 (pyIter v) Q2 E2 ⟨hh, gg, dd, tt, oo⟩ :=
      fun x => B.iter prog w _ _ ⟨hh, gg, dd, tt, oo⟩ _ a1 x
    wp_walk using it1
    refine wpAny_stack_any fun _ => wpAny_pure ?_
    split
    · rename_i k _ _ _ _ _
      cases (k == Value.type "enumerate") <;> (wp_walk using it1; exact ⟨_, rfl, a2⟩)
    · wp_walk using it1
      exact ⟨_, rfl, a2⟩
section
variable {prog : Program} {w : World} {A : Around} {E : Value → Shared → Prop} {s : Shared}
theorem enum1_begins {v : Value} {ob : Obj} {Hq : Heap → Prop} {Q : Value → Shared → Prop} (B : Begins v ob Hq) (a1 : Hq s.heap)
    (fin : ∀ g, IsEnum g (s.heap.objs.size + 1) s.heap.objs.size 0 .none → g.get? s.heap.objs.size = some ob → (∀ b o, s.heap.get? b = some o → g.get? b = some o) → Q (.ref (s.heap.objs.size + 1)) { s with heap := g }) :
    wpAny (model prog w) A (call (.type "enumerate") [v]) Q E s := by
  have sz : (s.heap.push ob).objs.size = s.heap.objs.size + 1 := Heap.size_push ..
  refine callType_new F.called_enumerate (by decide) (F.typeCall_enumerate_1 _) (F.newCall_enumerate_1 _)
    (fun obj => F.args_object_init_2 obj _) F.entry_enumerate_new (meets_enum1 B) ⟨a1, ?_⟩
  show _ ∧ _
  rw [sz]
  have new := Heap.get?_push_size (s.heap.push ob) (o := { cls := .type "enumerate", data := .fields #[.none, .bool false, .ref s.heap.objs.size, rawInt 0, .none, .none] }) rfl
  rw [sz] at new
  exact ⟨⟨_, new, rfl⟩, fin _ new (Heap.get?_push_of_some _ (Heap.get?_push_size _ B.free)) fun b o z => Heap.get?_push_of_some _ (Heap.get?_push_of_some _ z)⟩
end
theorem draws_end {prog : Program} {w : World} {A : Around} (hh : A.handled = none) (it t : Addr) {items : Array Value} {n : Nat} (z : items[n]? = none) :
    Draws prog w A it [it, t] n (fun _ _ => False) (fun j h => j = n ∧ h.IsTupleIter it t j ∧ h.IsTuple t items) where
  live := fun _ _ st => ⟨_, st.2.1.choose_spec.1⟩
  frame := fun _ _ _ st k => ⟨st.1, st.2.1.at fun o e => k it (by simp) o e, st.2.2.at fun o e => k t (by simp) o e⟩
  item := fun j _ _ _ lt st _ => absurd st.1 (Nat.ne_of_lt lt)
  done := fun _ _ _ st hE => wpAny_nextOf_tuple_end hh st.2.1 st.2.2 z hE
/-- the tuple at a as it stands, each item in a new pair -/
def ItT (K : PySem.W.Frag) (a : Addr) : It :=
  ⟨fun i H => ∃ (xs : List V) (x : V), SqT K H a xs ∧ xs[i]? = some x,
   fun i H v G => ∃ T x, v = .ref T ∧ H T = none ∧ G = upd H T (.tup [.int (i : Nat), x]) ∧ ∀ xs, SqT K H a xs → xs[i]? = some x,
   fun i H => ∃ xs : List V, SqT K H a xs ∧ xs.length ≤ i⟩
theorem turn_enT {P : Program} {w : World} {K : PySem.W.Frag} {elts : List Expr} {kk : Nat} {tpos : Pos} (a e it : Addr) (na : a ≠ it) (ne : a ≠ e) :
    Turn P w K (.Tuple elts kk tpos) (ItT K a) [e, it] e (fun i h => (∃ old, IsEnum h e it ((i : Nat) : Int) old) ∧ h.IsTupleIter it a i ∧ e ≠ it) where
  mem := List.mem_cons_self
  obj := fun i h st b hb => by
    obtain ⟨⟨old, c1⟩, ⟨o, c2, _, c3⟩, _⟩ := st
    rcases (by simpa using hb : b = e ∨ b = it) with rfl | rfl
    · exact ⟨_, c1, fun v q => nomatch q⟩
    · exact ⟨o, c2, fun v q => by rw [c3] at q; cases q⟩
  keep := fun i h g st k => ⟨let ⟨old, c1⟩ := st.1; ⟨old, k e (by simp) _ c1⟩, st.2.1.at fun o q => k it (by simp) o q, st.2.2⟩
  item := by
    intro X hP hw hK hc i pins s σ H E I hf st hg
    subst hP hw hK
    obtain ⟨⟨old, c1⟩, c2, c3⟩ := st
    obtain ⟨xs, x, hq, hx⟩ := hg
    obtain ⟨its, rv, p, hz⟩ := I.tuple hq
    obtain ⟨u, hu, ru⟩ := rv.get hx
    have lte : e < s.heap.objs.size := Heap.lt_size c1
    have ltit : it < s.heap.objs.size := by
      obtain ⟨_, q, _⟩ := c2
      exact Heap.lt_size q
    have le : i < its.toArray.size := by
      have := (List.getElem?_eq_some_iff.mp hu).1
      simpa using this
    refine wpAny_pyNext_enum_itemD (Draws.tuple (A := X.A.in1) (I.ok.hd hc) it a na its.toArray) c1 (i := i) ⟨c2, p⟩ le c3 (by simp [c3, Ne.symm ne]) fun y g tk hy ho hst hT hsz hk => ?_
    obtain rfl : y = u := by
      have : its[i]? = some y := by simpa using hy
      rw [hu] at this
      exact (Option.some.inj this).symm
    refine ⟨_, rfl, wpAny_letOwnedTupleGo_enum (s := { s with heap := g, toks := tk + 1 }) ho fun g2 he2 sb => ?_⟩
    have T2 : g2.get? s.heap.objs.size = some { cls := .type "tuple", data := .seq #[.int i tk, y] } := (sb.2 _ (Nat.ne_of_gt lte)).trans hT
    have new : ObjOk X.prog X.w (upd H s.heap.objs.size (.tup [.int (i : Nat), x])) g2 s.heap.objs.size (.tup [.int (i : Nat), x]) :=
      ⟨(by decide : 2 ≤ sizeLine), [.int i tk, y], .cons ⟨_, rfl⟩ (.cons ru .nil), ⟨_, T2, rfl, _, rfl⟩⟩
    have I1 : Inv X pins σ (upd H s.heap.objs.size (.tup [.int (i : Nat), x])) { s with heap := g2, toks := tk + 1 } :=
      I.turnedNew (ch := [e, it]) (fun b o hb q => (sb.2 b fun z => hb (by simp [z])).trans (hk b o (fun z => hb (by simp [z])) (fun z => hb (by simp [z])) q)) hf (Nat.le_refl _) new
    refine ⟨.ref s.heap.objs.size, _, I1, rfl, ⟨_, x, rfl, I.hok.fresh (Nat.le_refl _), rfl, fun ys hy => by rw [I.tuple_inj hy hq]; exact hx⟩, ⟨⟨y, ?_⟩, hst.1.at fun o q => (sb.2 it (Ne.symm c3)).trans q, c3⟩, fun b hb => ?_⟩
    · rw [show ((i + 1 : Nat) : Int) = (i : Int) + 1 by omega]
      exact he2
    · have lb : b < s.heap.objs.size := by
        rcases (by simpa using hb : b = e ∨ b = it) with rfl | rfl <;> assumption
      rw [upd_ne (Nat.ne_of_lt lb)]
      exact (hf b hb).1
  done := by
    intro X hP hw hK hc i pins s σ H E I hf st hg
    subst hP hw hK
    obtain ⟨⟨old, c1⟩, c2, c3⟩ := st
    obtain ⟨xs, hq, hx⟩ := hg
    obtain ⟨its, rv, p, hz⟩ := I.tuple hq
    obtain ⟨f0, f1, f2, f3, f4, f5⟩ := hf it (by simp)
    have ll := rv.length
    have over : its.toArray[i]? = none := by
      simp
      omega
    exact wpAny_pyNext_enum_endD (draws_end (A := X.A.in1) (I.ok.hd hc) it a over) c1 ⟨rfl, c2, p⟩ fun g eb => ⟨rfl, I.turned (t' := s.toks) (fun b o hb q => eb b o hb q) f0 f1 f3 f4 f5⟩
  self := fun A i s Q E st h => let ⟨⟨_, c1⟩, _⟩ := st; wpAny_pyIter_enum c1 h
def iEnT (K : PySem.W.Frag) (ta : TA) : L2.TI := fun σ H R => ta σ H fun vs H1 => ∃ a xs, vs = [.ref a] ∧ SqT K H1 a xs ∧ R (ItT K a) H1
theorem pi_enT {X : Cx} {e : Expr} {ta : TA} {p pos tpos : Pos} {elts : List Expr} {kk : Nat} (hg : Gl X "enumerate") (hm : X.mg "enumerate" = none) (ha : PA X [e] ta) (hs : starEach [e] X.env = [(false, eval e X.env)] := by rfl) :
    PI X (.Tuple elts kk tpos) (.Call (.Name "enumerate" p) [e] [] pos) (iEnT X.K ta) := by
  refine ⟨fun pins s σ H R I h => Call_ (ld_blt I hg hm boot_enumerate (PyProof.Rows.callWith_type1 (thn (ha.run pos pins s σ H _ I h) fun us z ⟨vs, G, J, r1, a, xs, ex, hq, q⟩ => ?_) hs rfl))⟩
  subst ex
  obtain _ | ⟨r, rr⟩ := r1
  cases rr
  cases r
  obtain ⟨its, rv, tp, _⟩ := J.tuple hq
  have la : a < z.heap.objs.size := by
    obtain ⟨_, q1, _⟩ := tp
    exact Heap.lt_size q1
  refine enum1_begins (begins_tuple a its.toArray) tp fun g c1 c2 k => wpAny_pyIter_enum c1 ?_
  have J2 : Inv X pins σ G { z with heap := g } := J.kept (t' := z.toks) k
  refine ⟨z.heap.objs.size + 1, [z.heap.objs.size + 1, z.heap.objs.size], _, _, G, rfl, J2, turn_enT a (z.heap.objs.size + 1) z.heap.objs.size (Nat.ne_of_lt la) (Nat.ne_of_lt (Nat.lt_succ_of_lt la)), ⟨⟨.none, c1⟩, ⟨_, c2, rfl, rfl⟩, Nat.succ_ne_self _⟩, fun b hb => ?_, q⟩
  have lb : z.heap.objs.size ≤ b := by
    rcases (by simpa using hb : b = z.heap.objs.size + 1 ∨ b = z.heap.objs.size) with rfl | rfl
    · exact Nat.le_succ _
    · exact Nat.le_refl _
  exact J.fpOk lb (J.hok.fresh lb)
end Gd

set_option Elab.async false
set_option linter.all false
set_option maxRecDepth 100000
set_option maxHeartbeats 4000000
set_option autoImplicit false
/-! Dt2: reckoning with bodies. -/
namespace Dl
open PySem PySem.Spec PyProof.Rows L2 Gd RZ
def intish : PyData → Bool
  | .int _ => true
  | .bool _ => true
  | _ => false
def boolish : PyData → Bool
  | .bool _ => true
  | _ => false
def tupB : PyData → Bool
  | .tuple _ => true
  | _ => false
@[simp] theorem isi_int (d : PyData) : o_isi "int" d = .ret (.bool (intish d)) := by
  have : kitB (tyOf d) "int" = some (intish d) := by cases d <;> (simp only [tyOf, intish, boolish, tupB]; decide +kernel)
  unfold o_isi
  rw [this]
  rfl
@[simp] theorem isi_bool (d : PyData) : o_isi "bool" d = .ret (.bool (boolish d)) := by
  have : kitB (tyOf d) "bool" = some (boolish d) := by cases d <;> (simp only [tyOf, intish, boolish, tupB]; decide +kernel)
  unfold o_isi
  rw [this]
  rfl
@[simp] theorem isi_tup (d : PyData) : o_isi "tuple" d = .ret (.bool (tupB d)) := by
  have : kitB (tyOf d) "tuple" = some (tupB d) := by cases d <;> (simp only [tyOf, intish, boolish, tupB]; decide +kernel)
  unfold o_isi
  rw [this]
  rfl
@[simp] theorem asB_bool (b : Bool) : asB (.bool b) = .ret b := rfl
theorem len1 {α : Type} {l : List α} (h : l.length = 1) : ∃ a, l = [a] := by
  cases l with
  | nil => cases h
  | cons a l => cases l with
    | nil => exact ⟨a, rfl⟩
    | cons b l => simp at h
theorem len2 {α : Type} {l : List α} (h : l.length = 2) : ∃ a b, l = [a, b] := by
  cases l with
  | nil => cases h
  | cons a l =>
    obtain ⟨b, rfl⟩ := len1 (show l.length = 1 by simpa using h)
    exact ⟨a, b, rfl⟩
theorem len3 {α : Type} {l : List α} (h : l.length = 3) : ∃ a b c, l = [a, b, c] := by
  cases l with
  | nil => cases h
  | cons a l =>
    obtain ⟨b, c, rfl⟩ := len2 (show l.length = 2 by simpa using h)
    exact ⟨a, b, c, rfl⟩
/-- all of a generator over data whose element is told by a Bool -/
theorem agL_all {elt : List Cell → M PyData} {Γ : List Cell} {b : PyData → Bool} : ∀ {ds : List PyData}, (∀ d ∈ ds, elt (.im d :: Γ) = .ret (.bool (b d))) → agL true elt Γ ds = .ret (.bool (ds.all b))
  | [], _ => rfl
  | d :: ds, h => by
    have e : agL true elt Γ (d :: ds) = (elt (.im d :: Γ)).bind fun y => (asB y).bind fun k => if k = true then agL true elt Γ ds else .ret (.bool (!true)) := rfl
    rw [e, h d (List.mem_cons_self ..)]
    simp only [M.ret_bind, asB_bool]
    rw [List.all_cons]
    cases b d with
    | true => simp only [if_pos, Bool.true_and]; exact agL_all fun x m => h x (List.mem_cons_of_mem _ m)
    | false => simp
end Dl
namespace Dl
open PySem PySem.Spec PyProof.Rows L2 Gd RZ
@[simp] theorem sh_int (i : Int) : SeqAt.shaped (.int i) = true := by simp [SeqAt.shaped, PyData.canLay0, PyData.depth]
@[simp] theorem sh_bool (i : Bool) : SeqAt.shaped (.bool i) = true := by simp [SeqAt.shaped, PyData.canLay0, PyData.depth]
@[simp] theorem sh_none : SeqAt.shaped .none = true := by simp [SeqAt.shaped, PyData.canLay0, PyData.depth]
@[simp] theorem sh_tup0 : SeqAt.shaped (.tuple []) = true := by simp [SeqAt.shaped, PyData.canLay0, PyData.canLayAll0, PyData.depth, PyData.depthAll]
@[simp] theorem sh_lst0 : SeqAt.shaped (.list []) = true := by simp [SeqAt.shaped, PyData.canLay0, PyData.canLayAll0, PyData.depth, PyData.depthAll]
@[simp] theorem eqv_ii (a b : Int) : (PyData.int a).eqv (.int b) = decide (a = b) := by
  simp only [PyData.eqv]
  by_cases h : a = b
  · subst h; simp
  · simp [h]
@[simp] theorem eqv_t0 (ds : List PyData) : PyData.eqv (.tuple ds) (.tuple []) = decide (ds = []) := by
  cases ds <;> simp [PyData.eqv, PyData.eqvAll]
@[simp] theorem gd_true' {β : Type} (k : Unit → M β) : (M.gd True).bind k = k () := M.gd_true trivial k
theorem run_if {α : Type} {b : Bool} {x y : M α} {p : α → Prop} : (if b = true then x else y).run p = if b = true then x.run p else y.run p := by cases b <;> rfl
end Dl
namespace Dl
open PySem PySem.Spec PyProof.Rows L2 Gd RZ
theorem lcL_map {b : Bg} {f : List Cell → M PyData} {Γ : List Cell} {e : PyData → PyData} : ∀ {ds : List PyData}, (∀ d ∈ ds, ((b d Γ).bind fun Γ1 => f Γ1) = .ret (e d)) → lcL b tYesM f Γ ds = .ret (ds.map e)
  | [], _ => rfl
  | d :: ds, h => by
    have q : lcL b tYesM f Γ (d :: ds) = ((b d Γ).bind fun Γ1 => f Γ1).bind fun x => (lcL b tYesM f Γ ds).bind fun r => .ret (x :: r) := rfl
    rw [q, h d (List.mem_cons_self ..), lcL_map fun x m => h x (List.mem_cons_of_mem _ m)]
    rfl
@[simp] theorem bools_map (g : PyData → Bool) : ∀ ds : List PyData, bools (ds.map fun d => .bool (g d)) = some (ds.map g)
  | [] => rfl
  | d :: ds => by
    have e : bools (.bool (g d) :: ds.map fun d => .bool (g d)) = (bools (ds.map fun d => .bool (g d))).map (g d :: ·) := rfl
    rw [List.map_cons, e, bools_map g ds]
    rfl
theorem all_map_id (g : PyData → Bool) (ds : List PyData) : (ds.map g).all id = ds.all g := by simp [List.all_map]
theorem any_map_id (g : PyData → Bool) (ds : List PyData) : (ds.map g).any id = ds.any g := by simp [List.any_map]
end Dl
namespace Dl
open PySem PySem.Spec PyProof.Rows L2 Gd RZ
/-- what a loop's turn leaves -/
def TurnO (I : List Cell → Prop) (J : List Cell → Prop) (R : PyData → Prop) : Out → Prop
  | .nx Γ => I Γ
  | .ct Γ => I Γ
  | .bk Γ => J Γ
  | .rt d => R d
def LoopO (I : List Cell → Prop) (R : PyData → Prop) : Out → Prop
  | .nx Γ => I Γ
  | .rt d => R d
  | _ => False
theorem forL_inv {b : Bg} {g : Sg} (J : List Cell → Prop) (R : PyData → Prop) : ∀ {ds : List PyData} (I : Nat → List Cell → Prop),
    (∀ i d Γ, ds[i]? = some d → I i Γ → (b d Γ).run fun Γ1 => (g Γ1).run (TurnO (I (i + 1)) J R)) → ∀ Γ, I 0 Γ → (forL b g ds Γ).run (LoopO (fun Γ' => I ds.length Γ' ∨ J Γ') R)
  | [], I, h, Γ, h0 => Or.inl h0
  | d :: ds, I, h, Γ, h0 => by
    refine (b d Γ).mono (fun Γ1 q => (g Γ1).mono (fun o q => ?_) q) (h 0 d Γ rfl h0)
    have ih := fun Γ' (h1 : I 1 Γ') => forL_inv J R (fun i => I (i + 1)) (fun i d Γ e hi => h (i + 1) d Γ (by simpa using e) hi) Γ' h1
    cases o with
    | nx Γ' => exact ih Γ' q
    | ct Γ' => exact ih Γ' q
    | bk Γ' => exact Or.inr q
    | rt d => exact q
end Dl
namespace Dl
open PySem PySem.Spec PyProof.Rows L2 Gd RZ
theorem seq_run {g1 g2 : Sg} {Γ : List Cell} {P : Out → Prop} (Q : List Cell → Prop) (h1 : (g1 Γ).run (LoopO Q fun d => P (.rt d))) (h2 : ∀ Γ', Q Γ' → (g2 Γ').run P) : (sSeq g1 g2 Γ).run P :=
  (g1 Γ).mono (fun o q => by
    cases o with
    | nx Γ' => exact h2 Γ' q
    | rt d => exact q
    | bk Γ' => exact q.elim
    | ct Γ' => exact q.elim) h1
theorem for_run {src : List Cell → M (List PyData)} {b : Bg} {g : Sg} {Γ : List Cell} {P : Out → Prop} (h : (src Γ).run fun ds => (forL b g ds Γ).run P) : (sFor src b g Γ).run P := h
theorem mem_cut {ds : List PyData} {lo hi : Option Int} {d : PyData} (h : d ∈ cutD ds lo hi) : d ∈ ds := List.mem_of_mem_drop (List.mem_of_mem_take h)
theorem len_cut (ds : List PyData) (lo hi : Option Int) : (cutD ds lo hi).length ≤ ds.length := by
  unfold cutD
  rw [List.length_take, List.length_drop]
  omega
theorem lt5 {k : Int} (h0 : 0 ≤ k) (h : k < 5) : k = 0 ∨ k = 1 ∨ k = 2 ∨ k = 3 ∨ k = 4 := by omega
end Dl

set_option Elab.async false
set_option linter.all false
set_option maxRecDepth 100000
set_option maxHeartbeats 2000000
set_option autoImplicit false
/-! Dn: lcm, enumerate over tuples, item assignment, own lists made by *. -/
namespace Gd
open PySem PySem.Spec PyProof.Rows L2
theorem log_le9 {n k : Nat} (h : n < 2 ^ (k + 1)) : n.log2 ≤ k := by
  by_cases z : n = 0
  · subst z
    exact Nat.zero_le _
  · have := (Nat.log2_lt z).mpr h
    omega
def rLcm : List V → Hp → VK → Prop := fun vs H Q => ∃ a b : Int, vs = [.int a, .int b] ∧ a.natAbs < 2 ^ 9000 ∧ b.natAbs < 2 ^ 9000 ∧ Q (.int ((Nat.lcm a.natAbs b.natAbs : Nat) : Int)) H
theorem cr_lcm {X : Cx} : CallR X (.builtin "math.lcm") rLcm := by
  intro pins s σ H vs us Q I r h
  obtain ⟨a, b, rfl, la, lb, q⟩ := h
  obtain ⟨t, u, rfl⟩ := Vals.int2 r
  have one : Nat.lcm 1 a.natAbs = a.natAbs := by simp [Nat.lcm]
  have big : (1 : Nat) < 2 ^ 9000 := Nat.one_lt_two_pow (by decide)
  have l1 : (max 1 a.natAbs).log2 ≤ 8999 := log_le9 (by rw [show 8999 + 1 = 9000 from rfl]; exact Nat.max_lt.mpr ⟨big, la⟩)
  have l2 : (max a.natAbs b.natAbs).log2 ≤ 8999 := log_le9 (by rw [show 8999 + 1 = 9000 from rfl]; exact Nat.max_lt.mpr ⟨la, lb⟩)
  have sz : ((((Nat.lcm 1 a.natAbs).lcm b.natAbs : Nat) : Int)).natAbs.log2 < bitsLine := by
    rw [one, Int.natAbs_natCast]
    refine Nat.lt_of_le_of_lt (log_le9 (k := 17999) ?_) (by decide)
    rw [show 17999 + 1 = 9000 + 9000 from rfl, Nat.pow_add]
    refine Nat.lt_of_le_of_lt (PySem.W.mc_lcm_le _ _) (Nat.mul_lt_mul'' la lb)
  have g := PySem.W.mg_run_lcm a t b u (by omega) (by omega) sz
  rw [one] at g
  exact call_function_meets PySem.W.MGF.kind_lcm PySem.W.MGF.plain_lcm PySem.W.MGF.entry_lcm (PySem.W.MGF.args_lcm _ _) g.meets ⟨.int _, H, I.tok _, ⟨_, rfl⟩, q⟩
theorem k_enT {X : Cx} {K : PySem.W.Frag} {e' : Expr} {ta : TA} {p pos tpos : Pos} {elts : List Expr} {kk : Nat} (e : X.K = K) (hg : Gl X "enumerate") (hm : X.mg "enumerate" = none) (ha : PA X [e'] ta) (hs : starEach [e'] X.env = [(false, eval e' X.env)] := by rfl) :
    PI X (.Tuple elts kk tpos) (.Call (.Name "enumerate" p) [e'] [] pos) (iEnT K ta) := e ▸ pi_enT hg hm ha hs
end Gd
namespace Dl
open PySem PySem.Spec PyProof.Rows L2 Gd RZ
section
variable {X : Cx} {c : Fc} {e e1 e2 : Expr} {st : Stmt} {f g fi : List Cell → M PyData} {F : List Cell → M (List PyData)} {tg : Expr} {pos : Pos} {W : Addr → Prop} {H H1 : Hp} {σ : L2.St} {Γ : List Cell}
def o_lcm : List PyData → M PyData
  | [.int i, .int j] => (M.gd (i.natAbs < 2 ^ 9000 ∧ j.natAbs < 2 ^ 9000)).bind fun _ => .ret (.int (Nat.lcm i.natAbs j.natAbs : Nat))
  | _ => .fail
theorem fn_lcm : FnA c rLcm o_lcm := by
  intro W H xs ds Q lw hd q
  unfold o_lcm at q
  split at q
  · cases hd with | cons h1 r => cases r with | cons h2 r => cases r; cases h1; cases h2; exact ⟨_, _, rfl, q.1.1, q.1.2, q.2 H _ (Same.refl H) (.int _)⟩
  · exact q.elim
def sEnT (f : List Cell → M PyData) : List Cell → M (List PyData) := fun Γ => (f Γ).bind fun d => match d with
  | .tuple a => .ret (enuD 0 a)
  | _ => .fail
theorem itok_enT (lw : LW c.T W H1) {a : Addr} {xs : List V} {ds : List PyData} (h : SqT c.K H1 a xs) (r : DaL W c.K H1 xs ds) : ItOk c W (ItT c.K a) H1 (enuD 0 ds) where
  step := fun i Wc H d e x k => by
    obtain ⟨p, e1, rfl⟩ := enuD_get e
    obtain ⟨v, hv, da⟩ := r.get' e1
    have h2 := sqT_kw lw.v k h
    refine ⟨⟨xs, v, h2, hv⟩, ?_⟩
    rintro _ _ ⟨T, y, rfl, hT, rfl, q⟩
    have e2 := q xs h2
    rw [hv] at e2
    cases e2
    rw [Nat.zero_add]
    exact ⟨same_new hT, da_pair hT (.int _) (da.move lw x k)⟩
  stop := fun H k => ⟨xs, sqT_kw lw.v k h, by rw [enuD_len, r.length]; exact Nat.le_refl _⟩
theorem pif_enT (h : PI X tg e (iEnT c.K (fun σ H R => tF c f σ H fun x H1 => R [x] H1))) : PI X tg e (tIF c (sEnT f)) := pi_weak h fun σ H R ⟨W, Γ, S, q⟩ => ⟨W, Γ, S, (f Γ).mono (fun d q H1 v k a => by
  cases a with
  | tup h r => exact ⟨_, _, rfl, h, q _ H1 k (itok_enT (S.lwC k) h r)⟩
  | _ => exact q.elim) q⟩
/-- x[k] = e, x a list of the frame's own -/
def sPut (i : Nat) (fi f : List Cell → M PyData) : Sg := fun Γ => match Γ[i]? with
  | some (.ow ds) => (f Γ).bind fun d => (fi Γ).bind fun k => match k with
    | .int k => (M.opt (ixN ds.length k)).bind fun j => .ret (.nx (Γ.set i (.ow (ds.set j d))))
    | _ => .fail
  | _ => .fail
theorem DaL.set' {K : PySem.W.Frag} : ∀ {xs : List V} {ds : List PyData} (j : Nat) {v : V} {d : PyData}, DaL W K H xs ds → Da W K H v d → DaL W K H (xs.set j v) (ds.set j d)
  | _, _, _, _, _, .nil, _ => .nil
  | _, _, 0, _, _, .cons _ r, a => .cons a r
  | _, _, j + 1, _, _, .cons h r, a => .cons h (r.set' j a)
theorem sf_put {i : Nat} (h : PS X st (tAsg (tF c f) (gSub (tVar i) (tF c fi) rSetL))) : PS X st (tSF c (sPut i fi f)) := ps_weak h fun D σ H ⟨W, Γ, S, q⟩ => by
  unfold sPut at q
  split at q
  · rename_i ds e1
    obtain ⟨a, xs, e2, w, w0, m, h1, h2⟩ := S.at' i _ e1
    refine ⟨W, Γ, S, (f Γ).mono (fun d q H1 v k da => ?_) q⟩
    have S1 := S.ch k
    refine ⟨_, e2, W, Γ, S1, (fi Γ).mono (fun kd q H2 kv k2 dk => ?_) q⟩
    have S2 := S1.ch k2
    have h1' : H1 a = some (.lst xs) := k.kp _ _ m (S.lw.noT h1 fun _ z => by cases z) h1
    have h1'' : H2 a = some (.lst xs) := k2.kp _ _ m (S1.lw.noT h1' fun _ z => by cases z) h1'
    have r2 := S1.dal k2 (S.dal k h2)
    cases kd with
    | int kk =>
      cases dk
      dsimp only at q
      have ll := h2.length
      cases hj : ixN ds.length kk with
      | none =>
        rw [hj] at q
        exact q.elim
      | some j =>
        rw [hj] at q
        obtain ⟨S3, k3⟩ := S2.put e1 e2 (r2.set' j (S1.da k2 da))
        exact ⟨a, xs, kk, j, rfl, rfl, h1'', by rw [ll]; exact hj, q W σ _ S3 (Kw.trans S.lw (S.kwC (k.trans k2)) k3 Ex.refl) Ex.refl⟩
    | _ => exact q.elim
  · exact q.elim
/-- a new list, by * -/
def nMul (F : List Cell → M (List PyData)) (f : List Cell → M PyData) : List Cell → M (List PyData) := fun Γ => (F Γ).bind fun ds => (f Γ).bind fun k => match k with
  | .int k => (M.gd (ds.length * k.toNat ≤ 1000 ∧ -(2 ^ 62) ≤ k ∧ k < 2 ^ 62)).bind fun _ => .ret (List.replicate k.toNat ds).flatten
  | _ => .fail
/-- x, y = e, [..] -/
def sParP (i j : Nat) (f : List Cell → M PyData) (F : List Cell → M (List PyData)) : Sg := fun Γ => (f Γ).bind fun d => (F Γ).bind fun ds => .ret (.nx ((Γ.set i (.im d)).set j (.ow ds)))
theorem DaL.rep' {K : PySem.W.Frag} {xs : List V} {ds : List PyData} (r : DaL W K H xs ds) : ∀ n : Nat, DaL W K H (List.replicate n xs).flatten (List.replicate n ds).flatten
  | 0 => .nil
  | n + 1 => by
    rw [List.replicate_succ, List.replicate_succ, List.flatten_cons, List.flatten_cons]
    exact r.append (r.rep' n)
theorem pn_mul {op : Operator} {l r : Expr} (he : PE X (.BinOp l op r pos) (tOp (rMulA c.K) (tN c F) (tF c f))) : PE X (.BinOp l op r pos) (tN c (nMul F f)) := pe_weak he fun σ H Q ⟨W, Γ, S, q⟩ => ⟨W, Γ, S, (F Γ).mono (fun ds q H1 p xs k hp e dd => by
  have S1 := S.more k hp e
  refine ⟨_, Γ, S1, (f Γ).mono (fun kd q H2 v k2 da => ?_) q⟩
  cases kd with
  | int n =>
    cases da
    obtain ⟨⟨z1, z2, z3⟩, q⟩ := q
    have e2 : H2 p = some (.lst xs) := k2.kp _ _ (S.noow hp) (S1.lw.noT e fun _ z => by cases z) e
    have d2 : DaL W c.K H2 xs ds := (S1.dal k2 dd).less fun a z => .inl z
    refine .inr (.inr ⟨p, n, xs, rfl, rfl, e2, by omega, by omega, ?_, fun p2 hp2 => ?_⟩)
    · rw [dd.length]
      exact Nat.le_trans z1 (by decide)
    · exact q _ p2 _ ((k.trans k2).trans ((S.ch (k.trans k2)).new1 hp2)) (Ch.free S (k.trans k2) hp2) upd_same (dal_new hp2 (d2.rep' n.toNat))
  | _ => exact q.elim) q⟩
theorem sf_parP {i j : Nat} (h : PS X st (tPar i j (tCons (tF c f) (tCons (tN c F) tNil)))) (n : i ≠ j) : PS X st (tSF c (sParP i j f F)) := ps_weak h fun D σ H ⟨W, Γ, S, q⟩ => ⟨W, Γ, S, (f Γ).mono (fun d q H1 v k da => by
  have S1 := S.ch k
  refine ⟨W, Γ, S1, (F Γ).mono (fun ds q H2 p xs k2 hp e r => ?_) q⟩
  have hp0 : H p = none := Ch.free S k hp
  have S3 := (S1.set (i := i) da)
  have S4 := S3.own (i := j) k2 hp e r
  exact ⟨_, _, rfl, q _ _ H2 S4 (S.kwC (k.trans k2)) fun a z => z.imp id fun w => by rw [w]; exact hp0⟩) q⟩
/-- a value's truth -/
def asT : PyData → M Bool
  | .bool b => .ret b
  | .int i => .ret (i != 0)
  | .tuple ds => .ret (!ds.isEmpty)
  | .list ds => .ret (!ds.isEmpty)
  | _ => .fail
def tTru (f : List Cell → M PyData) : List Cell → M Bool := fun Γ => (f Γ).bind asT
theorem DaL.empty {K : PySem.W.Frag} {xs : List V} {ds : List PyData} (r : DaL W K H xs ds) : xs.isEmpty = ds.isEmpty := by
  cases r <;> rfl
theorem ptf_tru (eK : X.K = c.K) (ha : PE X e1 (tF c f)) (he : ∀ whole, isTrue e1 X.env whole = (do let v ← whole; standAt e1.pos; holding [v] (truthy v)) := by intro _; rfl) : PT X e1 (tTF c (tTru f)) :=
  pt_weak (pt_truth ha he) fun σ H Q ⟨W, Γ, S, q⟩ => ⟨W, Γ, S, (f Γ).mono (fun a q H1 x k da => by
    cases da with
    | bl b => exact ⟨b, rfl, q H1 k⟩
    | int i => exact ⟨_, rfl, q H1 k⟩
    | lst n h r => exact ⟨_, .inl ⟨_, SqL.of h, rfl⟩, by rw [r.empty]; exact q H1 k⟩
    | tup h r => exact ⟨_, .inr (.inl ⟨_, by rw [eK]; exact h, rfl⟩), by rw [r.empty]; exact q H1 k⟩
    | _ => exact q.elim) q⟩
end
end Dl

set_option Elab.async false
set_option linter.all false
set_option maxRecDepth 100000
set_option maxHeartbeats 2000000
set_option autoImplicit false
/-! Dj: is None, is not None, by data. -/
namespace Dl
open PySem PySem.Spec PyProof.Rows L2 Gd RZ
theorem for_src {src : List Cell → M (List PyData)} {b : Bg} {g : Sg} {Γ : List Cell} {P : Out → Prop} (S : List PyData → Prop) (h1 : (src Γ).run S) (h2 : ∀ ds, S ds → (forL b g ds Γ).run P) : (sFor src b g Γ).run P := (src Γ).mono (fun ds q => h2 ds q) h1
def noneB : PyData → Bool
  | .none => true
  | _ => false
def o_isN (neg : Bool) : PyData → PyData → M PyData
  | a, .none => .ret (.bool (if neg then !noneB a else noneB a))
  | _, _ => .fail
section
variable {c : Fc} {W : Addr → Prop} {H : Hp} {v : V}
theorem pk_noneB {d : PyData} (h : Pk c W H v d) : decide (v = .non) = noneB d := by
  rcases h with h | ⟨a, xs, ds, rfl, rfl, _⟩
  · cases h <;> simp [noneB]
  · simp [noneB]
theorem op2_isN : Op2 c (fun x y H Q => y = .non ∧ Q (.bl (decide (x = .non))) H) (o_isN false) := by
  intro W H x y a b Q lw hx hy q
  unfold o_isN at q
  split at q
  · refine ⟨pk_non hy, ?_⟩
    rw [pk_noneB hx]
    exact q H _ (Same.refl H) (.bl _)
  · exact q.elim
theorem op2_notN : Op2 c (fun x y H Q => y = .non ∧ Q (.bl (!decide (x = .non))) H) (o_isN true) := by
  intro W H x y a b Q lw hx hy q
  unfold o_isN at q
  split at q
  · refine ⟨pk_non hy, ?_⟩
    rw [pk_noneB hx]
    exact q H _ (Same.refl H) (.bl _)
  · exact q.elim
end
end Dl

set_option Elab.async false
set_option linter.all false
set_option maxRecDepth 100000
set_option maxHeartbeats 2000000
set_option autoImplicit false
/-! Dc: comprehensions with two fors, by data. -/
namespace Dl
open PySem PySem.Spec PyProof.Rows L2 Gd RZ
/-- what both fors gather -/
def lc2L (b : Bg) (t : List Cell → M Bool) (src1 : List Cell → M (List PyData)) (b1 : Bg) (t1 : List Cell → M Bool) (f : List Cell → M PyData) (vs1 : List Nat) (Γ : List Cell) : List PyData → M (List PyData)
  | [] => .ret []
  | d :: ds => (b d Γ).bind fun Γ1 => (t Γ1).bind fun k => if k then (src1 Γ1).bind fun es => (M.gd (es.length ≤ 1000)).bind fun _ => (lcL b1 t1 f (wipC Γ1 vs1) es).bind fun r => (lc2L b t src1 b1 t1 f vs1 Γ ds).bind fun rs => .ret (r ++ rs)
    else lc2L b t src1 b1 t1 f vs1 Γ ds
def mLc2 (vs vs1 : List Nat) (src : List Cell → M (List PyData)) (b : Bg) (t : List Cell → M Bool) (src1 : List Cell → M (List PyData)) (b1 : Bg) (t1 : List Cell → M Bool) (f : List Cell → M PyData) : List Cell → M (List PyData) :=
  fun Γ => (src Γ).bind fun ds => (M.gd (ds.length ≤ 1000)).bind fun _ => lc2L b t src1 b1 t1 f vs1 (wipC Γ vs) ds
section
variable {c : Fc} {src src1 : List Cell → M (List PyData)} {b b1 : Bg} {t t1 : List Cell → M Bool} {f : List Cell → M PyData} {is is1 vs vs1 : List Nat}
theorem w_lc2F {i0 : Nat} {σ : L2.St} {H : Hp} {Q : VK} (sub : i0 ∈ vs) (sub1 : ∀ i ∈ is1, i ∈ vs1) (q : tN c (mLc2 vs vs1 src (bNm i0) t src1 b1 t1 f) σ H Q) : tLc2 (tIF c src) (tGF c [i0] (bNm i0)) (tTF c t) (tIF c src1) (tGF c is1 b1) (tTF c t1) (tF c f) vs vs1 σ H Q := by
  obtain ⟨W, Γ, S, q⟩ := q
  refine ⟨W, Γ, S, (src Γ).mono (fun ds q J H1 k it => ?_) q⟩
  obtain ⟨hz, q⟩ := q
  intro D hD
  have S1 := S.ch k
  have hD0 := Ch.free S k hD
  have cD : Ch c H (upd H1 D (.lst [])) := k.trans (S1.new1 hD)
  have Sd : Sr c (W1 W D) (upd H1 D (.lst [])) σ Γ := S.more cD hD0 upd_same
  have Sw := Sd.wipe vs
  have nD0 : ∀ (j : Nat) (es : List PyData), (wipC Γ vs)[j]? = some (.ow es) → (L2.wipe σ vs)[j]? = some (some (.ref D)) → False := fun j es e1 e2 => by
    obtain ⟨g1, g2⟩ := wipC_some e1
    obtain ⟨a', xs', p1, p2, p3, p4, p5, p6⟩ := S.at' j _ g1
    have : (L2.wipe σ vs)[j]? = σ[j]? := by rw [wipe_get, if_neg fun z => g2 z.1]
    rw [this, p1] at e2
    cases e2
    rw [hD0] at p5
    cases p5
  have kpD : ∀ {Hx : Hp} {ac : List V}, Kw c.T (W1 W D) Hx (upd Hx D (.lst ac)) := fun b o n t h => by
    rw [upd_ne (fun z => n (.inr z))]
    exact h
  have w0D : ¬ c.W0 D := fun z => S.lw.dom hD0 (S.sub D z)
  let F : List PyData → Prop := fun r => ∀ H' p xs, Ch c H H' → H p = none → H' p = some (.lst xs) → DaL (W1 W p) c.K H' xs r → Q (.ref p) H'
  let Kp0 : Hp → Prop := fun H2 => ∀ b o, some b ≠ c.ow → ¬ c.T b → H b = some o → H2 b = some o
  let rest : Nat → List PyData → Prop := fun i accd => (lc2L (bNm i0) t src1 b1 t1 f vs1 (wipC Γ vs) (ds.drop i)).run fun r => F (accd ++ r)
  refine ⟨fun i m H2 => m = ds.length - i ∧ i ≤ ds.length ∧ ∃ acc accd, Sr c (W1 W D) H2 (wipe σ vs) (wipC Γ vs) ∧ H2 D = some (.lst acc) ∧ DaL (W1 W D) c.K H2 acc accd ∧ acc.length ≤ 1000 * i ∧ Kw c.T (W1 W D) (upd H1 D (.lst [])) H2 ∧ Kp0 H2 ∧ rest i accd,
    ⟨_, rfl, Nat.zero_le _, [], [], Sw, upd_same, .nil, Nat.zero_le _, Kw.refl, cD.kp, q⟩, ?_⟩
  rintro i m H2 ⟨rfl, hi, acc, accd, S2, e2, r2, l2, k2, kp2, q2⟩
  have kw1 : Kw c.T W H1 H2 := fun b o n t h => by
    have nb : b ≠ D := by
      rintro rfl
      rw [hD] at h
      cases h
    exact k2 b o (fun z => z.elim n nb) t (by rw [upd_ne nb]; exact h)
  have ex : Ex W H1 (W1 W D) := fun a z => z.imp id fun z => by rw [z]; exact hD
  by_cases hlt : i < ds.length
  · have e : ds[i]? = some ds[i] := List.getElem?_eq_getElem hlt
    have q2 : (lc2L (bNm i0) t src1 b1 t1 f vs1 (wipC Γ vs) (ds.drop i)).run fun r => F (accd ++ r) := q2
    rw [List.drop_eq_getElem_cons hlt] at q2
    obtain ⟨h1, h2⟩ := it.step i (W1 W D) H2 _ e ex kw1
    let Nx : Hp → Prop := fun H3 => ∃ acc accd, Sr c (W1 W D) H3 (wipe σ vs) (wipC Γ vs) ∧ H3 D = some (.lst acc) ∧ DaL (W1 W D) c.K H3 acc accd ∧ acc.length ≤ 1000 * (i + 1) ∧ Kw c.T (W1 W D) (upd H1 D (.lst [])) H3 ∧ Kp0 H3 ∧ rest (i + 1) accd
    refine .inr ⟨h1, Nx, fun H3 ⟨acc, accd, x⟩ => ⟨ds.length - (i + 1), by omega, rfl, hlt, acc, accd, x⟩, fun x H3 y => ?_⟩
    obtain ⟨sm, da⟩ := h2 x H3 y
    have S3 := S2.same sm
    have c3 : Ch c H2 H3 := S2.cs sm
    have q3 : (t ((wipC Γ vs).set i0 (.im ds[i]))).run fun k => (if k then (src1 ((wipC Γ vs).set i0 (.im ds[i]))).bind fun es => (M.gd (es.length ≤ 1000)).bind fun _ => (lcL b1 t1 f (wipC ((wipC Γ vs).set i0 (.im ds[i])) vs1) es).bind fun r => (lc2L (bNm i0) t src1 b1 t1 f vs1 (wipC Γ vs) (ds.drop (i + 1))).bind fun rs => .ret (r ++ rs)
      else lc2L (bNm i0) t src1 b1 t1 f vs1 (wipC Γ vs) (ds.drop (i + 1))).run fun r => F (accd ++ r) := q2
    refine ⟨W1 W D, _, _, S3, da, fun σ2 S4 hs => ?_⟩
    have S4 : Sr c (W1 W D) H3 σ2 ((wipC Γ vs).set i0 (.im ds[i])) := S4
    generalize hΓ : (wipC Γ vs).set i0 (.im ds[i]) = Γ1 at *
    have nD1 : ∀ (j : Nat) (es : List PyData), Γ1[j]? = some (.ow es) → σ2[j]? = some (some (.ref D)) → False := fun j es e1 e2' => by
      rw [← hΓ] at e1
      rcases set_at e1 with ⟨_, z, _⟩ | ⟨n, e1⟩
      · cases z
      · refine nD0 j es e1 ?_
        rw [← hs.2 j (by simpa using fun z => n z.symm)]
        exact e2'
    have nD2 : ∀ (j : Nat) (es : List PyData), (wipC Γ1 vs1)[j]? = some (.ow es) → (L2.wipe σ2 vs1)[j]? = some (some (.ref D)) → False := fun j es e1 e2' => by
      obtain ⟨g1, g2⟩ := wipC_some e1
      refine nD1 j es g1 ?_
      rw [wipe_get, if_neg fun z => g2 z.1] at e2'
      exact e2'
    refine ⟨(wipe_same (is := [i0]) (fun i m => by rw [List.mem_singleton.mp m]; exact sub) hs).trans (wipe_wipe σ vs), W1 W D, Γ1, S4, (t Γ1).mono (fun kk q H4 c4 => ?_) q3⟩
    have e3 : H4 D = some (.lst acc) := c4.kp _ _ (S.noow hD0) (S3.lw.noT (sm _ _ e2) fun _ z => by cases z) (sm _ _ e2)
    have c24 : Ch c H2 H4 := c3.trans c4
    have S5 := S2.ch c24
    have r4 := S2.dal c24 r2
    have kp4 : Kp0 H4 := fun b o n t h => c24.kp b o n t (kp2 b o n t h)
    have kw4 : Kw c.T (W1 W D) (upd H1 D (.lst [])) H4 := Kw.trans Sd.lw k2 (S2.kwC c24) Ex.refl
    cases kk with
    | false => exact ⟨acc, accd, S5, e3, r4, by omega, kw4, kp4, q⟩
    | true =>
      have q : (src1 Γ1).run fun es => es.length ≤ 1000 ∧ (lcL b1 t1 f (wipC Γ1 vs1) es).run fun r => (lc2L (bNm i0) t src1 b1 t1 f vs1 (wipC Γ vs) (ds.drop (i + 1))).run fun rs => F (accd ++ (r ++ rs)) := q
      refine ⟨W1 W D, Γ1, S4.ch c4, (src1 Γ1).mono (fun es q J1 H5 c5 it1 => ?_) q⟩
      obtain ⟨les, q⟩ := q
      have S6 := S5.ch c5
      have S6i := ((S4.ch c4).ch c5).wipe vs1
      have e5 : H5 D = some (.lst acc) := c5.kp _ _ (S.noow hD0) (S5.lw.noT e3 fun _ z => by cases z) e3
      refine ⟨fun j k H6 => k = es.length - j ∧ j ≤ es.length ∧ ∃ acc accd, Sr c (W1 W D) H6 (wipe σ vs) (wipC Γ vs) ∧ Sr c (W1 W D) H6 (wipe σ2 vs1) (wipC Γ1 vs1) ∧ H6 D = some (.lst acc) ∧ DaL (W1 W D) c.K H6 acc accd ∧ acc.length ≤ 1000 * i + j ∧ Kw c.T (W1 W D) (upd H1 D (.lst [])) H6 ∧ Kw c.T (W1 W D) H5 H6 ∧ Kp0 H6 ∧
        (lcL b1 t1 f (wipC Γ1 vs1) (es.drop j)).run fun r => (lc2L (bNm i0) t src1 b1 t1 f vs1 (wipC Γ vs) (ds.drop (i + 1))).run fun rs => F (accd ++ (r ++ rs)),
        ⟨_, rfl, Nat.zero_le _, acc, accd, S6, S6i, e5, S5.dal c5 r4, l2, Kw.trans Sd.lw kw4 (S5.kwC c5) Ex.refl, Kw.refl, fun b o n t h => c5.kp b o n t (kp4 b o n t h), q⟩, ?_⟩
      rintro j k6 H6 ⟨rfl, hj, acc, accd, S7, S7i, e6, r6, l6, kw6, kx6, kp6, q6⟩
      by_cases hjt : j < es.length
      · have e' : es[j]? = some es[j] := List.getElem?_eq_getElem hjt
        rw [List.drop_eq_getElem_cons hjt] at q6
        obtain ⟨g1, g2⟩ := it1.step j (W1 W D) H6 _ e' Ex.refl kx6
        let Nx1 : Hp → Prop := fun H7 => ∃ acc accd, Sr c (W1 W D) H7 (wipe σ vs) (wipC Γ vs) ∧ Sr c (W1 W D) H7 (wipe σ2 vs1) (wipC Γ1 vs1) ∧ H7 D = some (.lst acc) ∧ DaL (W1 W D) c.K H7 acc accd ∧ acc.length ≤ 1000 * i + (j + 1) ∧ Kw c.T (W1 W D) (upd H1 D (.lst [])) H7 ∧ Kw c.T (W1 W D) H5 H7 ∧ Kp0 H7 ∧
          (lcL b1 t1 f (wipC Γ1 vs1) (es.drop (j + 1))).run fun r => (lc2L (bNm i0) t src1 b1 t1 f vs1 (wipC Γ vs) (ds.drop (i + 1))).run fun rs => F (accd ++ (r ++ rs))
        refine .inr ⟨g1, Nx1, fun H7 ⟨acc, accd, x⟩ => ⟨es.length - (j + 1), by omega, rfl, hjt, acc, accd, x⟩, fun x H7 y => ?_⟩
        obtain ⟨sm7, da7⟩ := g2 x H7 y
        have c7 : Ch c H6 H7 := S7.cs sm7
        refine ⟨W1 W D, _, _, S7i.same sm7, da7, (b1 _ _).mono (fun Γ3 q σ3 S8 hs1 => ⟨(wipe_same sub1 hs1).trans (wipe_wipe σ2 vs1), W1 W D, Γ3, S8, (t1 Γ3).mono (fun kk q H8 c8 => ?_) q⟩) q6⟩
        have c68 : Ch c H6 H8 := c7.trans c8
        have e8 : H8 D = some (.lst acc) := c68.kp _ _ (S.noow hD0) (S7.lw.noT e6 fun _ z => by cases z) e6
        have S9 := S7.ch c68
        have S9i := S7i.ch c68
        have r8 := S7.dal c68 r6
        have kw8 : Kw c.T (W1 W D) (upd H1 D (.lst [])) H8 := Kw.trans Sd.lw kw6 (S7.kwC c68) Ex.refl
        have kx8 : Kw c.T (W1 W D) H5 H8 := Kw.trans S6.lw kx6 (S7.kwC c68) Ex.refl
        have kp8 : Kp0 H8 := fun b o n t h => c68.kp b o n t (kp6 b o n t h)
        cases kk with
        | false => exact ⟨acc, accd, S9, S9i, e8, r8, by omega, kw8, kx8, kp8, q⟩
        | true =>
          refine ⟨W1 W D, Γ3, S8.ch c8, (f Γ3).mono (fun ed q H9 y c9 dy => ?_) q⟩
          have e9 : H9 D = some (.lst acc) := c9.kp _ _ (S.noow hD0) (S9.lw.noT e8 fun _ z => by cases z) e8
          have T1 := S9.ch c9
          have T2 := S9i.ch c9
          have r9 := S9.dal c9 r8
          have hl : acc.length < sizeLine := by rw [sizeLine_eq]; omega
          have P1 : Sr c (W1 W D) (upd H9 D (.lst (acc ++ [y]))) (L2.wipe σ vs) (wipC Γ vs) := T1.putX (.inr rfl) w0D (S.noow hD0) e9 nD0
          have P2 : Sr c (W1 W D) (upd H9 D (.lst (acc ++ [y]))) (L2.wipe σ2 vs1) (wipC Γ1 vs1) := T2.putX (.inr rfl) w0D (S.noow hD0) e9 nD2
          refine ⟨acc, e9, hl, acc ++ [y], accd ++ [ed], P1, P2, upd_same, (r9.append (.cons dy .nil)).kw T1.lw.v kpD, by rw [List.length_append]; simp; omega, Kw.trans Sd.lw (Kw.trans Sd.lw kw8 (S9.kwC c9) Ex.refl) kpD Ex.refl, Kw.trans S6.lw (Kw.trans S6.lw kx8 (S9.kwC c9) Ex.refl) kpD Ex.refl, fun b o n t h => ?_, ?_⟩
          · rw [upd_ne (ne_of_none h hD0)]
            exact c9.kp b o n t (kp8 b o n t h)
          · have q : (lcL b1 t1 f (wipC Γ1 vs1) (es.drop (j + 1))).run fun r => (lc2L (bNm i0) t src1 b1 t1 f vs1 (wipC Γ vs) (ds.drop (i + 1))).run fun rs => F (accd ++ (ed :: r ++ rs)) := q
            refine (lcL b1 t1 f (wipC Γ1 vs1) (es.drop (j + 1))).mono (fun r z => (lc2L (bNm i0) t src1 b1 t1 f vs1 (wipC Γ vs) (ds.drop (i + 1))).mono (fun rs z => ?_) z) q
            have : accd ++ (ed :: r ++ rs) = accd ++ [ed] ++ (r ++ rs) := by simp
            rw [← this]
            exact z
      · obtain rfl : j = es.length := by omega
        rw [List.drop_length] at q6
        have q6 : (lc2L (bNm i0) t src1 b1 t1 f vs1 (wipC Γ vs) (ds.drop (i + 1))).run fun rs => F (accd ++ ([] ++ rs)) := q6
        exact .inl ⟨it1.stop H6 kx6, acc, accd, S7, e6, r6, by omega, kw6, kp6, q6⟩
  · obtain rfl : i = ds.length := by omega
    have q2 : (lc2L (bNm i0) t src1 b1 t1 f vs1 (wipC Γ vs) (ds.drop ds.length)).run fun r => F (accd ++ r) := q2
    rw [List.drop_length] at q2
    have q3 := q2 H2 D acc ⟨kp2, S2.lw.t, S2.wl⟩ hD0 e2 (by rw [List.append_nil]; exact r2)
    exact .inl ⟨it.stop H2 kw1, q3⟩
end
end Dl

set_option Elab.async false
set_option linter.all false
set_option maxRecDepth 100000
set_option maxHeartbeats 2000000
set_option autoImplicit false
/-! Do: sorted of alike data, in and not in of data in a list. -/
namespace Gd
open PySem PySem.Spec PyProof.Rows L2 PySem.W
/-- the values of a list, put in order by their data -/
def srtV (xs : List V) (ds : List PyData) : List V := ((xs.zip ds).mergeSort (dataLe false fun b : V × PyData => b.2)).map (·.1)
def rSortedD (K : PySem.W.Frag) : List V → Hp → VK → Prop := fun vs H Q => ∃ (a : Addr) (xs : List V) (ds : List PyData), vs = [.ref a] ∧ SqL K H a xs ∧ DpAll K H xs ds ∧ AllAlike ds ∧ Sortable ds ∧ (∀ d ∈ ds, d.depth ≤ 60) ∧
  ∀ p, H p = none → Q (.ref p) (upd H p (.lst (srtV xs ds)))
section
variable {X : Cx} {pins : List (Addr × Obj)} {σ : L2.St} {H : Hp} {s : Shared}
theorem zip_snd : ∀ {xs : List V} {ds : List PyData}, DpAll X.K H xs ds → (xs.zip ds).map (·.2) = ds
  | _, _, .nil => rfl
  | _, _, .cons h r => by
    rw [List.zip_cons_cons, List.map_cons, zip_snd r]
theorem each_zip (I : Inv X pins σ H s) : ∀ {xs : List V} {its : List Value} {ds : List PyData}, Vals xs its → DpAll X.K H xs ds →
    EachIs (fun v (b : V × PyData) => RelV b.1 v) its (xs.zip ds) ∧ EachIs (fun v (b : V × PyData) => ∃ as, Reads s.heap v b.2 as) its (xs.zip ds)
  | _, _, _, .nil, .nil => ⟨.nil, .nil⟩
  | _, _, _, .cons r rs, .cons h hs => by
    obtain ⟨z1, z2⟩ := each_zip I rs hs
    exact ⟨.cons r z1, .cons (Dp.reads I _ _ _ h r) z2⟩
theorem vals_each : ∀ {out : List Value} {bs : List (V × PyData)}, EachIs (fun v (b : V × PyData) => RelV b.1 v) out bs → Vals (bs.map (·.1)) out
  | _, _, .nil => .nil
  | _, _, .cons h r => .cons h (vals_each r)
theorem cr_sortedD (hu : X.A.units + 64 < cLine) : CallR X (.builtin "sorted") (rSortedD X.K) := by
  intro pins s σ H vs us Q I r h
  obtain ⟨a, xs, ds, rfl, hs, hd, hal, hso, hdp, q⟩ := h
  obtain ⟨its, rv, hl, hz⟩ := I.list hs
  rw [Vals.ref1 r]
  obtain ⟨e1, e2⟩ := each_zip I rv hd
  have es := zip_snd hd
  have hlen : (srtV xs ds).length ≤ sizeLine := by
    unfold srtV
    rw [List.length_map, List.length_mergeSort, List.length_zip]
    omega
  refine sorted_data (enc := fun b : V × PyData => b.2) hl.isList e1 e2 (by rw [es]; exact hal) (by rw [es]; exact hso) (by rw [List.length_zip]; omega) (fun b hb => ?_) fun out ho eo => ?_
  · have : b.2 ∈ ds := by
      rw [← es]
      exact List.mem_map.mpr ⟨b, hb, rfl⟩
    have := hdp _ this
    show X.A.units + 2 + b.2.depth < cLine
    omega
  · obtain ⟨ep, he'⟩ := PyProof.Rows.sortedAll_at s.heap its out.toArray
    exact ⟨.ref _, upd H (s.heap.objs.size + 1) (.lst (srtV xs ds)), I.laid (t' := s.toks) (fun _ _ => PyProof.Rows.sortedAll_old) (Nat.le_succ _) ⟨hlen, out, ep, vals_each eo, he'⟩, rfl, q _ (I.hok.fresh (Nat.le_succ _))⟩
end
end Gd
namespace Dl
open PySem PySem.Spec PyProof.Rows L2 Gd RZ PySem.W
section
variable {X : Cx} {c : Fc} {K : PySem.W.Frag}
theorem k_sortedD (e : X.K = K) (hu : X.A.units + 64 < cLine) : CallR X (.builtin "sorted") (rSortedD K) := e ▸ cr_sortedD hu
theorem k_inD (e : X.K = K) (hu : X.A.units + 65 < cLine) : OpR X (compareOp .In) (rInD K) := e ▸ op_inD hu
theorem k_notInD (e : X.K = K) (hu : X.A.units + 65 < cLine) : OpR X (compareOp .NotIn) (rNotInD K) := e ▸ op_notInD hu
/-- data that can be put in order -/
structure SrtOk (ds : List PyData) : Prop where
  al : AllAlike ds
  so : Sortable ds
  dp : ∀ d ∈ ds, d.depth ≤ 60
  ly : PyData.canLayAll0 ds = true
def srtD (ds : List PyData) : List PyData := ds.mergeSort (dataLe false fun d => d)
def o_sorted : PyData → M PyData
  | .list ds => (M.gd (SrtOk ds)).bind fun _ => .ret (.list (srtD ds))
  | _ => .fail
theorem dal_zip {W : Addr → Prop} {H : Hp} : ∀ {xs : List V} {ds : List PyData}, DaL W K H xs ds → (∀ b ∈ xs.zip ds, Da W K H b.1 b.2) ∧ (xs.zip ds).map (·.2) = ds
  | _, _, .nil => ⟨fun _ h => (nomatch h), rfl⟩
  | _, _, .cons h r => by
    obtain ⟨z1, z2⟩ := dal_zip r
    refine ⟨fun b m => ?_, by rw [List.zip_cons_cons, List.map_cons, z2]⟩
    rw [List.zip_cons_cons] at m
    rcases List.mem_cons.mp m with rfl | m
    · exact h
    · exact z1 b m
theorem zip_dal {W : Addr → Prop} {H : Hp} : ∀ {bs : List (V × PyData)}, (∀ b ∈ bs, Da W K H b.1 b.2) → DaL W K H (bs.map (·.1)) (bs.map (·.2))
  | [], _ => .nil
  | b :: bs, h => .cons (h b (List.mem_cons_self ..)) (zip_dal fun x m => h x (List.mem_cons_of_mem _ m))
theorem dal_srt {W : Addr → Prop} {H : Hp} {xs : List V} {ds : List PyData} (r : DaL W K H xs ds) : DaL W K H (srtV xs ds) (srtD ds) := by
  obtain ⟨z1, z2⟩ := dal_zip r
  have e : srtD ds = ((xs.zip ds).mergeSort (dataLe false fun b : V × PyData => b.2)).map (·.2) := by
    rw [List.map_mergeSort (r := dataLe false fun b : V × PyData => b.2) (s := dataLe false fun d => d) (f := fun b : V × PyData => b.2) (fun a _ b _ => rfl), z2]
    rfl
  rw [e]
  exact zip_dal fun b m => z1 b ((List.mergeSort_perm _ _).mem_iff.mp m)
theorem fn_sorted : Fn1 c (fun x => rSortedD c.K [x]) o_sorted := by
  intro W H x a Q lw hx q
  unfold o_sorted at q
  split at q
  · obtain ⟨p, xs, rfl, h1, r1⟩ := pk_lst hx
    obtain ⟨g, q⟩ := q
    have q : ∀ H' v, Same H H' → Da W c.K H' v (.list (srtD _)) → Q v H' := q
    exact ⟨p, xs, _, rfl, SqL.of h1, r1.dp g.ly, g.al, g.so, g.dp, fun l hl => q _ _ (same_new hl) (.lst (lw.dom hl) upd_same ((dal_srt r1).same (same_new hl)))⟩
  · exact q.elim
def o_inL (neg : Bool) : PyData → PyData → M PyData
  | d, .list ds => (M.gd (SeqAt.shaped d = true ∧ SeqAt.shaped (.list ds) = true)).bind fun _ => .ret (.bool (neg ^^ ds.any fun z => PyData.eqv z d))
  | _, _ => .fail
theorem op2_inL : Op2 c (rInD c.K) (o_inL false) := by
  intro W H x y a b Q lw hx hy q
  unfold o_inL at q
  split at q
  · obtain ⟨⟨g1, g2⟩, q⟩ := q
    refine ⟨_, _, hx.dp g1, hy.dp g2, g1, g2, ?_⟩
    have := q H _ (Same.refl H) (.bl _)
    simpa using this
  · exact q.elim
theorem op2_ninL : Op2 c (rNotInD c.K) (o_inL true) := by
  intro W H x y a b Q lw hx hy q
  unfold o_inL at q
  split at q
  · obtain ⟨⟨g1, g2⟩, q⟩ := q
    refine ⟨_, _, hx.dp g1, hy.dp g2, g1, g2, ?_⟩
    have := q H _ (Same.refl H) (.bl _)
    simpa using this
  · exact q.elim
theorem sf_setLc {st : Stmt} {i : Nat} {src : List Cell → M (List PyData)} {b : Bg} {t : List Cell → M Bool} {f : List Cell → M PyData} {is vs : List Nat} (h : PS X st (tAsg (tLc (tIF c src) (tGF c is b) (tTF c t) (tF c f) vs) (gName i))) (sub : ∀ i ∈ is, i ∈ vs := by decide) : PS X st (tSF c (sSet i (mOfN (mLc vs src b t f)))) :=
  sf_set h fun _ _ _ q => w_lcF sub (tN_of q)
theorem sf_ownLc {st : Stmt} {i : Nat} {src : List Cell → M (List PyData)} {b : Bg} {t : List Cell → M Bool} {f : List Cell → M PyData} {is vs : List Nat} (h : PS X st (tAsg (tLc (tIF c src) (tGF c is b) (tTF c t) (tF c f) vs) (gName i))) (sub : ∀ i ∈ is, i ∈ vs := by decide) : PS X st (tSF c (sOwn i (mLc vs src b t f))) :=
  sf_ownW h fun _ _ _ q => w_lcF sub q
theorem sf_setLc2 {st : Stmt} {i i0 : Nat} {src src1 : List Cell → M (List PyData)} {b1 : Bg} {t t1 : List Cell → M Bool} {f : List Cell → M PyData} {is1 vs vs1 : List Nat} (h : PS X st (tAsg (tLc2 (tIF c src) (tGF c [i0] (bNm i0)) (tTF c t) (tIF c src1) (tGF c is1 b1) (tTF c t1) (tF c f) vs vs1) (gName i))) (sub : i0 ∈ vs := by decide) (sub1 : ∀ i ∈ is1, i ∈ vs1 := by decide) : PS X st (tSF c (sSet i (mOfN (mLc2 vs vs1 src (bNm i0) t src1 b1 t1 f)))) :=
  sf_set h fun _ _ _ q => w_lc2F sub sub1 (tN_of q)
end
end Dl

set_option Elab.async false
set_option linter.all false
set_option maxRecDepth 100000
set_option maxHeartbeats 2000000
namespace Sx
open PySem PySem.Spec PyProof.Rows L2
theorem entry_set_xor : entryFor table "set.__xor__" = some Builtin.«frozenset.__xor__» :=
  entryFor_alias (id' := "frozenset.__xor__") (by kernel_rfl) rfl (by decide +kernel) (by kernel_rfl)
theorem fills_set_xor : fillsNumberSlot (.type "set") "xor" = pure true := by
  first
    | exact F.fills_set_xor
    | exact fillsNumberSlot_of F.slot_set_xor.lookup (by decide +kernel) F.slot_set_rxor.lookup
theorem toList_eraseAt {α : Type} (xs : Array α) (p : Nat) : (SetTable.eraseAt xs p).toList = xs.toList.take p ++ xs.toList.drop (p + 1) := by
  simp [SetTable.eraseAt, List.extract_eq_take_drop, List.take_of_length_le]
theorem size_eraseAt {α : Type} (xs : Array α) (p : Nat) (h : p < xs.size) : (SetTable.eraseAt xs p).size = xs.size - 1 := by
  rw [← Array.length_toList, toList_eraseAt, List.length_append, List.length_take, List.length_drop, Array.length_toList]
  omega
theorem size_insertAt {α : Type} (xs : Array α) (p : Nat) (x : α) (h : p ≤ xs.size) : (SetTable.insertAt xs p x).size = xs.size + 1 := by
  rw [← Array.length_toList, SetTable.toList_insertAt, List.length_append, List.length_cons, List.length_take, List.length_drop, Array.length_toList]
  omega
theorem below_le (xs : Array Nat) (j : Nat) : SetTable.below xs j ≤ xs.size := by
  have key : ∀ f lo hi, lo ≤ hi → hi ≤ xs.size → SetTable.below.go xs j f lo hi ≤ xs.size := by
    intro f
    induction f with
    | zero => intro lo hi h1 h2; show lo ≤ _; omega
    | succ f ih =>
      intro lo hi h1 h2
      rw [SetTable.below.go]
      split
      · dsimp only
        split
        · exact ih _ _ (by omega) h2
        · exact ih _ _ (by omega) (by omega)
      · omega
  exact key _ _ _ (Nat.zero_le _) (Nat.le_refl _)
theorem drop_fits {t : SetTable} {n j : Nat} (h : t.fits n = true) (hj : j < n) : (t.drop j).fits (n - 1) = true ∧ (t.drop j).led = t.led ∧ (Ris t.place.toList → Ris (t.drop j).place.toList) := by
  obtain ⟨h1, h2⟩ := Bool.and_eq_true_iff.mp h
  have h1 : t.place.size = n := eq_of_beq h1
  have h2 : t.place.size + t.dummies.size ≤ t.mask := of_decide_eq_true h2
  have hp : j < t.place.size := by omega
  have e : t.place[j]? = some t.place[j] := Array.getElem?_eq_getElem hp
  unfold SetTable.drop
  rw [e]
  dsimp only
  refine ⟨?_, rfl, fun r => ?_⟩
  · have s1 := size_eraseAt t.place j hp
    have s2 := size_insertAt t.dummies (SetTable.below t.dummies t.place[j]) t.place[j] (below_le _ _)
    refine Bool.and_eq_true_iff.mpr ⟨beq_iff_eq.mpr ?_, decide_eq_true ?_⟩
    · show (SetTable.eraseAt t.place j).size = n - 1
      omega
    · show (SetTable.eraseAt t.place j).size + (SetTable.insertAt t.dummies (SetTable.below t.dummies t.place[j]) t.place[j]).size ≤ t.mask
      omega
  · rw [toList_eraseAt]
    unfold Ris at r ⊢
    have : (t.place.toList.take j ++ t.place.toList.drop (j + 1)).Sublist t.place.toList := by
      rw [← List.eraseIdx_eq_take_drop_succ]
      exact List.eraseIdx_sublist _ _
    exact List.Pairwise.sublist this r
section
variable {P : Program} {w : World} {A : Around} {E : Value → Shared → Prop} {s : Shared} {a b : Addr} {S S' : Int → Bool} {n m : Nat}
theorem any_set {v : Value} {Q : Bool → Shared → Prop} (hT : s.TypeIs v "set") (h : Q true s) : wpAny (model P w) A (Builtin.Frozenset.isAnySet v) Q E s := by
  unfold Builtin.Frozenset.isAnySet
  refine wpAny_bind (wpAny_isInstance hT sub_set_self ?_)
  exact wpAny_pure h
/-- k goes -/
theorem setR_discard {k : Int} {tk : Tok} {Q : Bool → Shared → Prop} (R : SetR w s.heap a S n)
    (hQ : ∀ h', Heap.SameBut a s.heap h' → SetR w h' a (fun j => S j && !decide (j = k)) (if S k = true then n - 1 else n) → Q (S k) { s with heap := h' }) :
    wpAny (model P w) A (setDiscardHashed a (.int k tk) ((intKind P w).hash k)) Q E s := by
  obtain ⟨o, es, ep, t, ho, hex, hd, g, nd, hm, hb, hf, hn, hr, hl⟩ := R
  have hkey : (intKind P w).is k (.int k tk) = true := intKind_is P w k tk
  have hsc : (Value.int k tk).scannable = true := rfl
  have hel : ElemsOf (intKind P w) es.toList := good_elems g
  unfold setDiscardHashed setFind setFindIn
  refine wpAny_bind (wpAny_bind (wpAny_setState_of ho hd hf ?_))
  dsimp only
  rw [byScan_of hsc hb hel]
  simp only [↓reduceIte]
  refine wpAny_bind (wpAny_rule ?_)
  refine wpAny_bind (wpAny_setScan_of hkey ho hd hf hel ?_)
  cases hfi : List.findIdx? (fun e => (intKind P w).is k e.2) es.toList with
  | none =>
    dsimp only
    have hnk : k ∉ es.toList.map keyOf := fun z => by
      obtain ⟨e, he, q⟩ := (good_mem (P := P) (w := w) g k).1 z
      have c := List.findIdx?_eq_none_iff.mp hfi e he
      rw [q] at c
      cases c
    have hSk : S k = false := by
      cases q : S k with
      | false => rfl
      | true => exact absurd ((hm k).1 q) hnk
    refine wpAny_pure (wpAny_pure ?_)
    have q := hQ s.heap (Heap.SameBut.refl a s.heap) ⟨o, es, ep, t, ho, hex, hd, g, nd, fun i => by
      rw [Bool.and_eq_true, Bool.not_eq_true', decide_eq_false_iff_not, hm i]
      exact ⟨fun z => z.1, fun z => ⟨z, fun e => hnk (e ▸ z)⟩⟩, hb, hf, by rw [hSk]; exact hn, hr, hl⟩
    rw [hSk] at q
    exact q
  | some j =>
    dsimp only
    obtain ⟨hj, pj, _⟩ := List.findIdx?_eq_some_iff_getElem.mp hfi
    have hkj : keyOf es.toList[j] = k := (good_is (g _ (List.getElem_mem hj)) k).1 pj
    have hSk : S k = true := (hm k).2 (List.mem_map.mpr ⟨_, List.getElem_mem hj, hkj⟩)
    have hjs : j < es.size := by rw [← Array.length_toList]; exact hj
    refine wpAny_pure ?_
    dsimp only
    rw [Nat.zero_add]
    refine wpAny_bind (wpAny_setState_of ho hd hf ?_)
    dsimp only
    have el := toList_eraseAt es j
    have e2 : es.toList.take j ++ es.toList.drop (j + 1) = es.toList.eraseIdx j := (List.eraseIdx_eq_take_drop_succ ..).symm
    rw [e2] at el
    have sz := size_eraseAt es j hjs
    have hb2 : (SetTable.eraseAt es j).size < scanBound := by omega
    obtain ⟨f1, f2, f3⟩ := drop_fits hf hjs
    refine wpAny_bind (wpAny_storeSet_of ho hd ?_ (fits_of_scanBound hb2))
    refine wpAny_bind (wpAny_point ?_)
    have sub : (es.toList.eraseIdx j).Sublist es.toList := List.eraseIdx_sublist _ _
    have pm : (es.toList[j] :: es.toList.eraseIdx j).Perm es.toList := erase_perm _ _ _ (List.getElem?_eq_getElem hj)
    have pk := pm.map keyOf
    rw [List.map_cons, hkj] at pk
    have nd2 := pk.nodup_iff.mpr nd
    rw [List.nodup_cons] at nd2
    have q := hQ _ (Heap.SameBut.update s.heap a (Obj.putSet (SetTable.eraseAt es j) (t.drop j))) ⟨_, _, _, _, store_at ho hd, hex, rfl, fun e he => g e (sub.subset (by rw [el] at he; exact he)), by rw [el]; exact nd2.2, fun i => by
      rw [el, Bool.and_eq_true, Bool.not_eq_true', decide_eq_false_iff_not, hm i, ← pk.mem_iff, List.mem_cons]
      constructor
      · rintro ⟨z | z, y⟩
        · exact absurd z y
        · exact z
      · intro z
        exact ⟨.inr z, fun e => nd2.1 (e ▸ z)⟩, hb2, by rw [sz]; exact f1, by rw [sz, if_pos hSk, hn], f3 hr, hl.imp id fun z => by rw [f2]; exact z⟩
    rw [hSk] at q
    exact wpAny_pure q
end
end Sx

set_option Elab.async false
set_option linter.all false
set_option maxRecDepth 100000
set_option maxHeartbeats 2000000
namespace Sx
open PySem PySem.Spec PyProof.Rows L2
section
variable {P : Program} {w : World} {A : Around} {E : Value → Shared → Prop} {s : Shared} {a b : Addr} {S S' : Int → Bool} {n m : Nat}
theorem walk_of {o : Obj} {es : Array (Int × Value)} {ep : Nat} {t : SetTable} {Q : Array (Int × Value) → Shared → Prop} (ho : s.heap.get? a = some o) (hd : o.data = .set es ep t) (hf : t.fits es.size = true) (hl : w.params.followText "set-order" = true ∨ t.led = true)
    (hQ : ∀ es' d, es'.toList.Perm es.toList → Q es' { s with drawn := d }) : wpAny (model P w) A (setWalk a) Q E s := by
  unfold setWalk
  refine wpAny_bind (wpAny_setState_of ho hd hf ?_)
  dsimp only
  refine wpAny_bind (wpAny_byText ?_)
  by_cases hb : w.params.followText "set-order" = true
  · refine wp_if_pos hb ?_
    refine wpAny_bind (wpAny_askSetting ?_)
    exact wpAny_pure (hQ _ s.drawn (pick_perm _ _))
  · have hl := hl.resolve_left hb
    refine wp_if_neg hb ?_
    split
    · refine wpAny_bind (drawOrder_at es.size es.toList s _ (Nat.le_of_eq Array.length_toList) fun ys d p => ?_)
      exact wpAny_pure (hQ _ d p)
    · refine wpAny_bind ?_
      wp_delta
      rw [hl]
      exact wpAny_pure (wpAny_pure (hQ _ s.drawn (List.Perm.refl _)))
theorem quiet_of {l : List Addr} {Q : Bool → Shared → Prop} (hl : ∀ a ∈ l, ∃ (o : Obj) (es : Array (Int × Value)) (ep : Nat) (t : SetTable), s.heap.get? a = some o ∧ o.data = .set es ep t ∧ t.fits es.size = true ∧ ∀ e ∈ es.toList, GoodE e) (h : Q true s) : wpAny (model P w) A (setsQuiet l) Q E s := by
  unfold setsQuiet
  refine wpAny_bind (wpAny_forIn_list _ (fun l' b s' => b = (none, ()) ∧ s' = s ∧ ∀ a ∈ l', ∃ (o : Obj) (es : Array (Int × Value)) (ep : Nat) (t : SetTable), s.heap.get? a = some o ∧ o.data = .set es ep t ∧ t.fits es.size = true ∧ ∀ e ∈ es.toList, GoodE e) _ ?_ ?_ l _ ⟨rfl, rfl, hl⟩)
  · rintro x rest _ s1 ⟨rfl, rfl, hx⟩
    obtain ⟨o, es, ep, t, ho, hd, hf, g⟩ := hx x (List.mem_cons_self ..)
    dsimp only
    refine wpAny_bind (wpAny_bind (wpAny_setState_of ho hd hf (wpAny_pure ?_)))
    refine wpAny_bind (wpAny_forIn_array' _ (fun l' b s' => b = (none, ()) ∧ s' = s1 ∧ ∀ e ∈ l', GoodE e) _ ?_ ?_ es _ ⟨rfl, rfl, g⟩)
    · rintro ⟨h1, v⟩ rest2 _ _ ⟨rfl, rfl, hg⟩
      obtain ⟨k, tk, e1, _⟩ := hg _ (List.mem_cons_self ..)
      simp only at e1
      subst e1
      dsimp only
      exact wpAny_pure ⟨rfl, rfl, fun e m => hg e (List.mem_cons_of_mem _ m)⟩
    · rintro _ _ ⟨rfl, rfl, _⟩
      dsimp only
      exact wpAny_pure ⟨rfl, rfl, fun a m => hx a (List.mem_cons_of_mem _ m)⟩
  · rintro _ _ ⟨rfl, rfl, _⟩
    exact wpAny_pure h
theorem raw_of (R : SetR w s.heap a S n) : ∃ o es ep t, s.heap.get? a = some o ∧ o.data = .set es ep t ∧ t.fits es.size = true ∧ ∀ e ∈ es.toList, GoodE e := by
  obtain ⟨o, es, ep, t, ho, hex, hd, g, nd, hm, hb, hf, hn, hr, hl⟩ := R
  exact ⟨o, es, ep, t, ho, hd, hf, g⟩
/-- a's elements, while f is filled -/
theorem walk_unseen {o : Obj} {es : Array (Int × Value)} {ep : Nat} {t : SetTable} {f : Addr} {Sf : Int → Bool} {nf : Nat} {Q : Array (Int × Value) → Shared → Prop} (ho : s.heap.get? a = some o) (hd : o.data = .set es ep t) (hf : t.fits es.size = true) (g : ∀ e ∈ es.toList, GoodE e)
    (hl : w.params.followText "set-order" = true ∨ t.led = true) (Rf : SetR w s.heap f Sf nf)
    (hQ : ∀ es' d h', es'.toList.Perm es.toList → Heap.SameBut f s.heap h' → SetR w h' f Sf nf → Q es' { s with heap := h', drawn := d }) : wpAny (model P w) A (setWalkUnseen a [f] (some f)) Q E s := by
  have whole : wpAny (model P w) A (setWalk a) Q E s := walk_of ho hd hf hl fun es' d p => hQ es' d s.heap p (Heap.SameBut.refl f s.heap) Rf
  unfold setWalkUnseen
  refine wpAny_bind (wpAny_setState_of ho hd hf ?_)
  dsimp only
  refine wpAny_bind (wpAny_byText ?_)
  split
  · first
      | exact whole
      | exact wpAny_bind (m := setWalk a) (wpAny_mono whole (fun _ _ q => wpAny_pure q) fun _ _ q => q)
  · rename_i c
    have c1 : w.params.followText "set-order" = false := by
      cases q : w.params.followText "set-order" with
      | false => rfl
      | true => rw [q] at c; simp at c
    have led := hl.resolve_left (by rw [c1]; decide)
    refine wpAny_bind (quiet_of (fun x m => ?_) ?_)
    · rcases List.mem_cons.mp m with rfl | m
      · exact ⟨o, es, ep, t, ho, hd, hf, g⟩
      · rw [List.mem_singleton.mp m]
        exact raw_of Rf
    · simp only [Bool.not_true, Bool.false_eq_true, if_false]
      refine wpAny_bind (wpAny_rule ?_)
      obtain ⟨of, ef, pf, tf, hof, hexf, hdf, gf, ndf, hmf, hbf, hff, hnf, hrf, hlf⟩ := Rf
      refine wpAny_bind (wpAny_setState_of hof hdf hff ?_)
      dsimp only
      split
      · refine wpAny_bind (wpAny_storeSet_of hof hdf ?_ (fits_of_scanBound hbf))
        refine wpAny_pure ?_
        exact hQ es s.drawn _ (List.Perm.refl _) (Heap.SameBut.update s.heap f _) ⟨_, _, _, _, store_at hof hdf, hexf, rfl, gf, ndf, hmf, hbf, hff, hnf, hrf, hlf.imp id fun z => by show (tf.led && t.led) = true; rw [z, led]; rfl⟩
      · exact wpAny_pure (hQ es s.drawn s.heap (List.Perm.refl _) (Heap.SameBut.refl f s.heap) ⟨of, ef, pf, tf, hof, hexf, hdf, gf, ndf, hmf, hbf, hff, hnf, hrf, hlf⟩)
end
end Sx

set_option Elab.async false
set_option linter.all false
set_option maxRecDepth 100000
set_option maxHeartbeats 2000000
namespace Sx
open PySem PySem.Spec PyProof.Rows L2
def layLive (mask : Nat) (owner : Array (Option Nat)) : List (Nat × Nat) := (List.range (mask + 1)).filterMap fun j => (owner.getD j none).map (j, ·)
/-- small hashes find their places -/
def layOk (mask : Nat) (hs : List Int) : Bool := match SetTable.layClean mask hs.toArray with
  | some owner => decide (((layLive mask owner).map (·.1)).Pairwise (· < ·)) && (((layLive mask owner).map (·.2)).isPerm (List.range hs.length))
  | none => false
def sm6 : List Int := [0, 1, 2, 3, 4, 5]
def allLay (ok : List Int → Bool) : Nat → List Int → Bool
  | 0, acc => ok acc
  | n + 1, acc => sm6.all fun k => acc.contains k || allLay ok n (k :: acc)
theorem lay1 : allLay (layOk 7) 1 [] = true := by decide +kernel
theorem lay2 : allLay (layOk 7) 2 [] = true := by decide +kernel
theorem lay3 : allLay (layOk 7) 3 [] = true := by decide +kernel
theorem lay4 : allLay (layOk 7) 4 [] = true := by decide +kernel
theorem lay5 : allLay (layOk 15) 5 [] = true := by decide +kernel
theorem lay6 : allLay (layOk 15) 6 [] = true := by decide +kernel
theorem allLay_ok {ok : List Int → Bool} : ∀ (n : Nat) (l acc : List Int), allLay ok n acc = true → l.length = n → (∀ k ∈ l, 0 ≤ k ∧ k < 6) → (l.reverse ++ acc).Nodup → ok (l.reverse ++ acc) = true
  | 0, l, acc, h, e, _, _ => by
    obtain rfl : l = [] := List.eq_nil_of_length_eq_zero e
    exact h
  | n + 1, [], acc, h, e, hk, nd => by cases e
  | n + 1, k :: l, acc, h, e, hk, nd => by
    rw [allLay, List.all_eq_true] at h
    have k6 := hk k (List.mem_cons_self ..)
    have mk : k ∈ sm6 := by
      have : k = 0 ∨ k = 1 ∨ k = 2 ∨ k = 3 ∨ k = 4 ∨ k = 5 := by omega
      rcases this with rfl | rfl | rfl | rfl | rfl | rfl <;> simp [sm6]
    have h1 := h k mk
    rw [List.reverse_cons, List.append_assoc, List.singleton_append] at nd ⊢
    have nk : k ∉ acc := by
      have := (List.nodup_append.mp nd).2.1
      exact (List.nodup_cons.mp this).1
    have c : acc.contains k = false := by simpa using nk
    rw [c, Bool.false_or] at h1
    exact allLay_ok n l (k :: acc) h1 (by simpa using e) (fun j m => hk j (List.mem_cons_of_mem _ m)) nd
/-- the table that a fresh set has by then -/
def maskFor (n : Nat) : Nat := if n ≤ 4 then 7 else 15
theorem lay_small {hs : List Int} (h : ∀ k ∈ hs, 0 ≤ k ∧ k < 6) (nd : hs.Nodup) (l1 : 1 ≤ hs.length) (l6 : hs.length ≤ 6) : layOk (maskFor hs.length) hs = true := by
  have e : hs.reverse.reverse ++ [] = hs := by simp
  have nd' : (hs.reverse.reverse ++ []).Nodup := by rw [e]; exact nd
  have h' : ∀ k ∈ hs.reverse, 0 ≤ k ∧ k < 6 := fun k m => h k (by simpa using m)
  have l : hs.length = 1 ∨ hs.length = 2 ∨ hs.length = 3 ∨ hs.length = 4 ∨ hs.length = 5 ∨ hs.length = 6 := by omega
  rcases l with l | l | l | l | l | l
  · have := allLay_ok 1 hs.reverse [] lay1 (by simpa using l) h' nd'
    rw [e] at this; rw [l]; exact this
  · have := allLay_ok 2 hs.reverse [] lay2 (by simpa using l) h' nd'
    rw [e] at this; rw [l]; exact this
  · have := allLay_ok 3 hs.reverse [] lay3 (by simpa using l) h' nd'
    rw [e] at this; rw [l]; exact this
  · have := allLay_ok 4 hs.reverse [] lay4 (by simpa using l) h' nd'
    rw [e] at this; rw [l]; exact this
  · have := allLay_ok 5 hs.reverse [] lay5 (by simpa using l) h' nd'
    rw [e] at this; rw [l]; exact this
  · have := allLay_ok 6 hs.reverse [] lay6 (by simpa using l) h' nd'
    rw [e] at this; rw [l]; exact this
end Sx

set_option Elab.async false
set_option linter.all false
set_option maxRecDepth 100000
set_option maxHeartbeats 2000000
namespace Sx
open PySem PySem.Spec PyProof.Rows L2
theorem hashInt_small {k : Int} (h : 0 ≤ k ∧ k < 6) : hashInt k = k := by
  have : k = 0 ∨ k = 1 ∨ k = 2 ∨ k = 3 ∨ k = 4 ∨ k = 5 := by omega
  rcases this with rfl | rfl | rfl | rfl | rfl | rfl <;> rfl
theorem keys_hash {l : List (Int × Value)} (g : ∀ e ∈ l, GoodE e) (h : ∀ k ∈ l.map keyOf, 0 ≤ k ∧ k < 6) : l.map (·.1) = l.map keyOf := List.map_congr_left fun e m => by
  obtain ⟨k, tk, h1, h2⟩ := g e m
  have hk : keyOf e = k := by unfold keyOf; rw [h1]
  rw [h2, hk]
  exact hashInt_small (by rw [← hk]; exact h _ (List.mem_map.mpr ⟨e, m, rfl⟩))
theorem pick_range {α : Type} (xs : Array α) {order : List Nat} (p : order.Perm (List.range xs.size)) : (order.toArray.filterMap (xs[·]?)).toList.Perm xs.toList := by
  rw [Array.toList_filterMap]
  have e : (List.range xs.size).filterMap (xs[·]?) = xs.toList := PySem.W.krv_all xs
  have := p.filterMap (xs[·]?)
  rw [e] at this
  exact this
section
variable {P : Program} {w : World} {A : Around} {E : Value → Shared → Prop} {s : Shared} {a b p : Addr} {S S' : Int → Bool} {n m : Nat}
/-- an empty set at p, with room for m -/
def Empt (w : World) (h : Heap) (p : Addr) (m : Nat) : Prop := ∃ o ep ts, h.get? p = some o ∧ o.ExactSet ∧ o.data = .set #[] ep ts ∧ ts.fits 0 = true ∧ ts.fill = 0 ∧ ts.mask = maskFor m ∧ (w.params.followText "set-order" = true ∨ ts.led = true)
theorem room_fresh {led : Bool} {Q : Unit → Shared → Prop} (hp : s.heap.get? p = some { cls := .type "set", dict := none, data := .set #[] 0 (.fresh 0 0 led) }) (hl : w.params.followText "set-order" = true ∨ led = true) (hm6 : m ≤ 6)
    (hQ : ∀ h', Heap.SameBut p s.heap h' → Empt w h' p m → Q () { s with heap := h' }) : wpAny (model P w) A (setRoomFor p m) Q E s := by
  have hpf : (SetTable.fresh 0 0 led).fits (#[] : Array (Int × Value)).size = true := rfl
  unfold setRoomFor
  refine wpAny_bind (wpAny_setState_of hp rfl hpf ?_)
  dsimp only
  have small : m ≤ 4 → (SetTable.fresh 0 0 led).roomFor m = none := fun h => by
    have : m = 0 ∨ m = 1 ∨ m = 2 ∨ m = 3 ∨ m = 4 := by omega
    rcases this with rfl | rfl | rfl | rfl | rfl <;> rfl
  by_cases h4 : m ≤ 4
  · rw [small h4]
    exact wpAny_pure (hQ s.heap (Heap.SameBut.refl p s.heap) ⟨_, _, _, hp, ⟨rfl, rfl, rfl⟩, rfl, rfl, rfl, by unfold maskFor; rw [if_pos h4]; rfl, hl⟩)
  · have key : ∀ wanted, SetTable.sizeAbove wanted = 16 → wpAny (model P w) A (setRelay p wanted) Q E s := fun wanted hw => by
      unfold setRelay
      refine wpAny_bind (wpAny_setState_of hp rfl hpf ?_)
      dsimp only
      rw [hw]
      refine wp_if_neg (by rw [sizeLine_eq]; decide) ?_
      have hr : (SetTable.fresh 0 0 led).relaid (Array.map (fun x => x.1) (#[] : Array (Int × Value))) wanted = some ({ mask := 15, place := #[], dummies := #[], finger := 0, led := led, moves := 1, plain := true }, #[]) := by
        unfold SetTable.relaid
        rw [hw]
        cases led <;> decide +kernel
      rw [hr]
      refine wpAny_bind ?_
      wp_delta
      dsimp only
      refine wp_if_neg (by simp) (wpAny_pure ?_)
      dsimp only
      refine wpAny_storeSet_of hp rfl ?_ (by simp)
      exact hQ _ (Heap.SameBut.update s.heap p _) ⟨_, _, _, store_at hp rfl, ⟨rfl, rfl, rfl⟩, rfl, rfl, rfl, by unfold maskFor; rw [if_neg h4], hl⟩
    have : m = 5 ∨ m = 6 := by omega
    rcases this with rfl | rfl
    · exact key 10 (by decide +kernel)
    · exact key 12 (by decide +kernel)
theorem merge_fresh {each : Sem Unit} {Q : Unit → Shared → Prop} (hp : s.heap.get? p = some { cls := .type "set", dict := none, data := .set #[] 0 (.fresh 0 0 (!w.params.followText "set-order")) }) (R : SetR w s.heap b S m) (hne : p ≠ b) (hm6 : m ≤ 6) (h6 : ∀ k, S k = true → 0 ≤ k ∧ k < 6)
    (hQ : ∀ h', Heap.SameBut p s.heap h' → SetR w h' p S m → Q () { s with heap := h' }) : wpAny (model P w) A (setMerge p b each) Q E s := by
  obtain ⟨o, es, ep, t, ho, hex, hd, g, nd, hm, hb, hf, hn, hr, hl⟩ := R
  unfold setMerge
  have pb : (p == b) = false := beq_eq_false_iff_ne.mpr hne
  rw [pb]
  simp only [Bool.false_eq_true, if_false]
  refine wpAny_bind (wpAny_setState_of ho hd hf ?_)
  dsimp only
  have hnl : es.toList.length = m := by rw [Array.length_toList]; exact hn
  have led0 : w.params.followText "set-order" = true ∨ (!w.params.followText "set-order") = true := by cases w.params.followText "set-order" <;> simp
  by_cases m0 : m = 0
  · have e0 : es = #[] := Array.eq_empty_of_size_eq_zero (by omega)
    subst e0
    refine wp_if_pos (by rfl) (wpAny_pure ?_)
    refine hQ s.heap (Heap.SameBut.refl p s.heap) ⟨_, _, _, _, hp, ⟨rfl, rfl, rfl⟩, rfl, (fun e he => by simp at he), (by simp), hm, by decide, rfl, m0.symm ▸ rfl, List.Pairwise.nil, led0⟩
  · have ne : ¬ es.isEmpty = true := by
      rw [Array.isEmpty_iff]
      intro z
      rw [z] at hn
      exact m0 hn.symm
    refine wp_if_neg ne ?_
    rw [hn]
    refine wpAny_bind (room_fresh hp led0 hm6 fun h1 sb1 ⟨o1, ep1, ts, ho1, hex1, hd1, hf1, fl, mk, hl1⟩ => ?_)
    refine wpAny_bind (wpAny_setState_of ho1 hd1 hf1 ?_)
    dsimp only
    have keep : w.params.followText "set-order" = true ∨ (ts.led && t.led) = true := by
      rcases hl with z | z
      · exact .inl z
      · exact hl1.imp id fun y => by rw [y, z]; rfl
    unfold SetTable.road
    rw [if_neg (by rw [fl]; decide)]
    by_cases c : (ts.mask == t.mask && t.dummies.isEmpty) = true
    · rw [if_pos c]
      dsimp only
      refine wpAny_storeSet_of ho1 hd1 ?_ (fits_of_scanBound hb)
      exact hQ _ (sb1.trans (Heap.SameBut.update h1 p _)) ⟨_, _, _, _, store_at ho1 hd1, hex1, rfl, g, nd, hm, hb, hf, hn, hr, keep⟩
    · rw [if_neg c]
      dsimp only
      have k6 : ∀ k ∈ es.toList.map keyOf, 0 ≤ k ∧ k < 6 := fun k z => h6 k ((hm k).2 z)
      have hh := keys_hash g k6
      have lay := lay_small (hs := es.toList.map keyOf) k6 nd (by rw [List.length_map, hnl]; omega) (by rw [List.length_map, hnl]; exact hm6)
      rw [List.length_map, hnl, ← mk, ← hh] at lay
      unfold layOk at lay
      have ea : (es.toList.map fun x : Int × Value => x.1).toArray = es.map fun x => x.1 := by
        apply Array.toList_inj.mp
        rw [Array.toList_map]
      rw [ea] at lay
      unfold SetTable.laid
      cases hc : SetTable.layClean ts.mask (es.map fun x => x.1) with
      | none => rw [hc] at lay; cases lay
      | some owner =>
        rw [hc] at lay
        obtain ⟨l1, l2⟩ := Bool.and_eq_true_iff.mp lay
        have l1 := of_decide_eq_true l1
        have l2 : ((layLive ts.mask owner).map (·.2)).Perm (List.range es.size) := by
          have := List.isPerm_iff.mp l2
          rw [List.length_map, hnl, ← hn] at this
          exact this
        refine wpAny_bind ?_
        wp_delta
        simp only [Option.bind_eq_bind, Option.bind_some]
        have pm := pick_range es l2
        have len : (layLive ts.mask owner).length = m := by
          have := l2.length_eq
          rw [List.length_map, List.length_range] at this
          omega
        have sz : ((List.map (fun x => x.2) (layLive ts.mask owner)).toArray.filterMap fun x => es[x]?).size = es.size := by
          have := pm.length_eq
          rw [Array.length_toList, Array.length_toList] at this
          exact this
        unfold layLive at l1 l2 pm len sz
        refine wp_if_neg (by rw [sz]; simp) (wpAny_pure ?_)
        dsimp only
        refine wpAny_storeSet_of ho1 hd1 ?_ (fits_of_scanBound (by rw [sz]; exact hb))
        have pk := pm.map keyOf
        refine hQ _ (sb1.trans (Heap.SameBut.update h1 p _)) ⟨_, _, _, _, store_at ho1 hd1, hex1, rfl, fun e he => g e (pm.mem_iff.mp he), pk.nodup_iff.mpr nd, fun k => by rw [hm k, pk.mem_iff], by rw [sz]; exact hb, ?_, by rw [sz, hn], ?_, keep⟩
        · rw [sz]
          refine Bool.and_eq_true_iff.mpr ⟨beq_iff_eq.mpr ?_, decide_eq_true ?_⟩
          · show (List.map (fun x : Nat × Nat => x.1) _).toArray.size = es.size
            rw [List.size_toArray, List.length_map, len, hn]
          · show (List.map (fun x : Nat × Nat => x.1) _).toArray.size + (#[] : Array Nat).size ≤ ts.mask
            rw [List.size_toArray, List.length_map, len, mk]
            unfold maskFor
            split <;> simp <;> omega
        · show Ris (List.map (fun x : Nat × Nat => x.1) _).toArray.toList
          unfold Ris
          exact l1
end
end Sx

set_option Elab.async false
set_option linter.all false
set_option maxRecDepth 100000
set_option maxHeartbeats 2000000
set_option autoImplicit false
namespace Sx
open PySem PySem.Spec PyProof.Rows L2
section
variable {P : Program} {w : World} {A : Around} {E : Value → Shared → Prop} {s : Shared} {a b p : Addr} {S S' : Int → Bool} {n m : Nat}
theorem new_set {Q : Value → Shared → Prop} (h : Q (.ref s.heap.objs.size) { s with heap := s.heap.push { cls := .type "set", dict := none, data := .set #[] 0 (.fresh 0 0 (!w.params.followText "set-order")) } }) : wpAny (model P w) A (newSet (.type "set")) Q E s := by
  unfold newSet
  refine wpAny_bind (wpAny_byText ?_)
  dsimp only
  exact wpAny_newObj_type h
theorem set_type {v : Addr} {o : Obj} (ho : s.heap.get? v = some o) (hex : o.ExactSet) : s.TypeIs (.ref v) "set" := ⟨o, ho, hex.1⟩
/-- the members of a, one by one -/
theorem flip_all {id : String} {Q : Unit → Shared → Prop} (Ra : SetR w s.heap a S n) (Rp : SetR w s.heap p S' m) (hne : a ≠ p) (hn : n ≤ 64) (hm : m ≤ 64)
    (hQ : ∀ h' d c, Heap.SameBut p s.heap h' → SetR w h' p (fun k => S' k != S k) c → c ≤ n + m → Q () { s with heap := h', drawn := d }) : wpAny (model P w) A (Builtin.Frozenset.symmetricDifferenceUpdate id p (.ref a)) Q E s := by
  obtain ⟨oa, ea, pa, ta, hoa, hexa, hda, ga, nda, hma, hba, hfa, hna, hra, hla⟩ := Ra
  unfold Builtin.Frozenset.symmetricDifferenceUpdate
  have e1 : (Value.ref a == Value.ref p) = false := beq_eq_false_iff_ne.mpr fun z => hne (by injection z)
  rw [e1]
  simp only [Bool.false_eq_true, if_false]
  refine wpAny_bind (wpAny_typeOf (set_type hoa hexa) ?_)
  refine wp_if_neg (by decide) ?_
  refine wpAny_bind (any_set (set_type hoa hexa) ?_)
  refine wpAny_bind (wpAny_pure ?_)
  unfold Builtin.Frozenset.addrOf
  refine wpAny_bind (wpAny_pure ?_)
  refine wpAny_bind (wpAny_setEpoch_of hoa hda hfa ?_)
  refine wpAny_holding ?_
  refine wpAny_bind (walk_unseen hoa hda hfa ga hla Rp fun es' d h1 pm sb1 R1 => ?_)
  have pk := pm.map keyOf
  have ho1 : h1.get? a = some oa := by rw [sb1.2 a hne]; exact hoa
  refine wpAny_bind (wpAny_forIn_array' _ (fun rest _ s1 => ∃ h2 c, s1 = { s with heap := h2, drawn := d } ∧ Heap.SameBut p h1 h2 ∧ SetR w h2 p (fun k => if k ∈ rest.map keyOf then S' k else (S' k != S k)) c ∧ c + rest.length ≤ n + m ∧ (∀ e ∈ rest, GoodE e ∧ S (keyOf e) = true) ∧ (rest.map keyOf).Nodup) _ ?_ ?_ es' _ ?_)
  · rintro ⟨hh, x⟩ rest b s1 ⟨h2, c, rfl, sb2, R2, hc, hg, nd⟩
    obtain ⟨⟨k, tk, e2, e3⟩, hS⟩ := hg _ (List.mem_cons_self ..)
    simp only at e2 e3
    subst e2 e3
    have hk : keyOf (hashInt k, Value.int k tk) = k := rfl
    rw [hk] at hS
    rw [List.map_cons, hk, List.nodup_cons] at nd
    rw [List.length_cons] at hc
    have cur : (if k ∈ List.map keyOf ((hashInt k, Value.int k tk) :: rest) then S' k else (S' k != S k)) = S' k := by rw [if_pos (by rw [List.map_cons, hk]; exact List.mem_cons_self ..)]
    dsimp only
    have epo : ∀ (h3 : Heap) (Q' : Unit → Shared → Prop), Heap.SameBut p h2 h3 → Q' () { s with heap := h3, drawn := d } → wpAny (model P w) A (Builtin.Frozenset.unchanged id a pa) Q' E { s with heap := h3, drawn := d } := fun h3 Q' sb3 hq => by
      unfold Builtin.Frozenset.unchanged
      have ho3 : h3.get? a = some oa := by rw [sb3.2 a hne, sb2.2 a hne]; exact ho1
      refine wpAny_bind (wpAny_setEpoch_of (s := { s with heap := h3, drawn := d }) ho3 hda hfa ?_)
      refine wp_if_neg (by simp) (wpAny_pure hq)
    refine wpAny_bind ?_
    refine wpAny_holding ?_
    refine wpAny_bind (setR_discard (k := k) (tk := tk) (s := { s with heap := h2, drawn := d }) R2 fun h3 sb3 R3 => ?_)
    rw [cur]
    rw [cur] at R3
    by_cases c' : S' k = true
    · refine wp_if_neg (by rw [c']; decide) (wpAny_pure ?_)
      refine wpAny_bind (epo h3 _ sb3 ?_)
      refine wpAny_pure ⟨h3, _, rfl, sb2.trans sb3, R3.congr fun j => ?_, by rw [if_pos c']; omega, fun e m => hg e (List.mem_cons_of_mem _ m), nd.2⟩
      by_cases z : j = k
      · subst z
        rw [if_neg nd.1, hS, c']
        simp
      · have zz : decide (j = k) = false := decide_eq_false z
        rw [List.map_cons, hk, zz, Bool.not_false, Bool.and_true]
        by_cases y : j ∈ List.map keyOf rest
        · rw [if_pos y, if_pos (List.mem_cons_of_mem _ y)]
        · rw [if_neg y, if_neg (fun q => (List.mem_cons.mp q).elim z y)]
    · have c'' : S' k = false := by simpa using c'
      refine wp_if_pos (by rw [c'']; rfl) ?_
      rw [if_neg c'] at R3
      refine wpAny_bind (setR_add_hashed (k := k) (tk := tk) (s := { s with heap := h3, drawn := d }) R3 (by unfold scanBound; omega) fun h4 sb4 R4 => ?_)
      have n1 : (((if k ∈ List.map keyOf ((hashInt k, Value.int k tk) :: rest) then S' k else (S' k != S k)) && !decide (k = k)) = true) = False := by simp
      refine wpAny_pure ?_
      refine wpAny_bind (epo h4 _ (sb3.trans sb4) ?_)
      refine wpAny_pure ⟨h4, _, rfl, (sb2.trans sb3).trans sb4, R4.congr fun j => ?_, ?_, fun e m => hg e (List.mem_cons_of_mem _ m), nd.2⟩
      · by_cases z : j = k
        · subst z
          rw [if_neg nd.1, hS, c'']
          simp
        · have zz : decide (j = k) = false := decide_eq_false z
          rw [List.map_cons, hk, zz, Bool.not_false, Bool.and_true, Bool.or_false]
          by_cases y : j ∈ List.map keyOf rest
          · rw [if_pos y, if_pos (List.mem_cons_of_mem _ y)]
          · rw [if_neg y, if_neg (fun q => (List.mem_cons.mp q).elim z y)]
      · have : ∀ q : Bool, (if q = true then c else c + 1) ≤ c + 1 := fun q => by cases q <;> simp
        exact Nat.le_trans (Nat.add_le_add_right (this _) _) (by omega)
  · rintro b s1 ⟨h2, c, rfl, sb2, R2, hc, -, -⟩
    refine wpAny_pure (hQ h2 d c (sb1.trans sb2) (R2.congr fun j => by simp) (by simpa using hc))
  · refine ⟨h1, m, rfl, Heap.SameBut.refl p h1, R1.congr fun k => ?_, ?_, fun e me => ?_, pk.nodup_iff.mpr nda⟩
    · by_cases z : k ∈ es'.toList.map keyOf
      · rw [if_pos z]
      · rw [if_neg z]
        have : S k = false := by
          cases q : S k with
          | false => rfl
          | true => exact absurd (pk.mem_iff.mpr ((hma k).1 q)) z
        rw [this]
        simp
    · rw [pm.length_eq, Array.length_toList, hna]; omega
    · have me' := pm.mem_iff.mp me
      exact ⟨ga e me', (hma _).2 (List.mem_map.mpr ⟨e, me', rfl⟩)⟩
theorem setR_xor {Q : Value → Shared → Prop} (Ra : SetR w s.heap a S n) (Rb : SetR w s.heap b S' m) (hn : n ≤ 64) (hm : m ≤ 6) (h6 : ∀ k, S' k = true → 0 ≤ k ∧ k < 6)
    (hQ : ∀ h' d p c, s.heap.objs.size ≤ p → (∀ b o, s.heap.get? b = some o → h'.get? b = some o) → SetR w h' p (fun k => S' k != S k) c → c ≤ n + m → Q (.ref p) { s with heap := h', drawn := d }) : wpAny (model P w) A (binaryOp .BitXor (.ref a) (.ref b)) Q E s := by
  have ha : s.TypeIs (.ref a) "set" := (Ra.setOf (P := P)).typeIs
  have hb : s.TypeIs (.ref b) "set" := (Rb.setOf (P := P)).typeIs
  have hla := Ra.lt
  have hlb := Rb.lt
  refine wpAny_binaryOp_same (op := .BitXor) ha hb fills_set_xor F.slot_set_xor ?_
  refine wpAny_call_entry F.slot_set_xor ha entry_set_xor ?_ (F.args_set_xor_2 _ _)
  unfold Builtin.«frozenset.__xor__»
  wp_delta
  refine wpAny_bind (m := Builtin.Frozenset.slot1 _ _) ?_
  unfold Builtin.Frozenset.slot1 slotArgs
  refine wpAny_bind (wpAny_pure ?_)
  refine wpAny_pure ?_
  dsimp only
  simp only [Bool.false_eq_true, if_false]
  refine wpAny_bind ?_
  refine wpAny_bind (any_set ha ?_)
  refine any_set hb ?_
  refine wp_if_neg (by decide) ?_
  unfold Builtin.Frozenset.addrOf
  refine wpAny_bind (wpAny_pure ?_)
  refine wpAny_bind ?_
  wp_delta
  unfold Builtin.Frozenset.baseOf
  refine wpAny_bind (wpAny_bind (wpAny_isInstance ha sub_set_self ?_))
  refine wpAny_pure ?_
  simp only [if_true]
  unfold Builtin.Frozenset.newFrom
  refine wpAny_bind (wpAny_bind (new_set ?_))
  have hp0 : (s.heap.push { cls := .type "set", dict := none, data := .set #[] 0 (.fresh 0 0 (!w.params.followText "set-order")) }).get? s.heap.objs.size = some { cls := .type "set", dict := none, data := .set #[] 0 (.fresh 0 0 (!w.params.followText "set-order")) } := Heap.get?_push_size _ rfl
  have k0 : ∀ b o, s.heap.get? b = some o → (s.heap.push { cls := .type "set", dict := none, data := .set #[] 0 (.fresh 0 0 (!w.params.followText "set-order")) }).get? b = some o := fun b o e => Heap.get?_push_of_some _ e
  have Rb1 : SetR w (s.heap.push { cls := .type "set", dict := none, data := .set #[] 0 (.fresh 0 0 (!w.params.followText "set-order")) }) b S' m := Rb.at (k0 b)
  have Ra1 : SetR w (s.heap.push { cls := .type "set", dict := none, data := .set #[] 0 (.fresh 0 0 (!w.params.followText "set-order")) }) a S n := Ra.at (k0 a)
  generalize hH : s.heap.push { cls := .type "set", dict := none, data := .set #[] 0 (.fresh 0 0 (!w.params.followText "set-order")) } = H1 at *
  have nb : s.heap.objs.size ≠ b := Nat.ne_of_gt hlb
  have na : a ≠ s.heap.objs.size := Nat.ne_of_lt hla
  generalize hz : s.heap.objs.size = p at *
  have hb1 : Shared.TypeIs { s with heap := H1 } (.ref b) "set" := (Rb1.setOf (P := P)).typeIs
  unfold Builtin.Frozenset.addrOf Builtin.Frozenset.updateFrom
  refine wpAny_bind (wpAny_pure ?_)
  refine wpAny_bind (wpAny_holding ?_)
  refine wpAny_bind (any_set hb1 ?_)
  refine wp_if_pos rfl ?_
  unfold Builtin.Frozenset.addrOf Builtin.Frozenset.merge
  refine wpAny_bind (wpAny_pure ?_)
  obtain ⟨ob, es, ep, t, ho, hd, hf, g⟩ := raw_of (s := { s with heap := H1 }) Rb1
  refine wpAny_bind (wpAny_setEpoch_of (s := { s with heap := H1 }) ho hd hf ?_)
  refine merge_fresh (s := { s with heap := H1 }) hp0 Rb1 nb hm h6 fun h2 sb2 R2 => ?_

  refine wpAny_pure ?_
  refine wpAny_bind (wpAny_pure ?_)
  refine wpAny_bind (wpAny_holding ?_)
  have Ra2 : SetR w h2 a S n := Ra1.at fun o e => by rw [sb2.2 a na]; exact e
  refine flip_all (s := { s with heap := h2 }) Ra2 R2 na hn (by omega) fun h3 d c sb3 R3 hc => ?_
  refine wpAny_pure (wpAny_pure ?_)
  refine ⟨_, rfl, by simp, hQ h3 d p c (Nat.le_refl _) (fun x o e => ?_) R3 hc⟩
  have hx : x ≠ p := by
    have := Heap.lt_size e
    rw [hz] at this
    exact Nat.ne_of_lt this
  rw [sb3.2 x hx, sb2.2 x hx]
  exact k0 x o e
end
end Sx

set_option Elab.async false
set_option linter.all false
set_option maxRecDepth 100000
set_option maxHeartbeats 2000000
set_option autoImplicit false
/-! Sx6: sorted(set(a) ^ set(b)) of tuples of small ints, by data. -/
namespace Gd
open PySem PySem.Spec PyProof.Rows L2 Sx
section
variable {X : Cx}
def rSetT (w : World) (K : PySem.W.Frag) : List V → Hp → VK → Prop := fun xs H Q => ∃ (l : Addr) (ns : List Int), xs = [.ref l] ∧ SqT K H l (ns.map V.int) ∧ ns.length ≤ 1000 ∧ ∀ p c, H p = none → c ≤ ns.length → Q (.ref p) (upd H p (SetO w p (fun k => decide (k ∈ ns)) c))
theorem cr_setT (hc : X.calm = true) : CallR X (.type "set") (rSetT X.w X.K) := by
  intro pins s σ H xs us Q I r h
  obtain ⟨l, ns, rfl, hq, hl, q⟩ := h
  rw [Vals.ref1 r]
  obtain ⟨its, rv, pt, hz⟩ := I.tuple hq
  have hi : IntsAre its.toArray.toList ns := ints_of_vals rv
  refine call_set_tupI ns (I.ok.hd hc) (show s.heap.IsTuple l its.toArray from pt) hi (by unfold scanBound; omega) fun h' tk c R1 hcn k => ?_
  have hn : H s.heap.objs.size = none := I.hok.fresh (Nat.le_refl _)
  exact ⟨.ref _, _, I.laid (t' := tk) k (Nat.le_refl _) (setO_new R1), rfl, q _ c hn hcn⟩
def rXorS (w : World) : R2 := fun x y H Q => ∃ a b S S' n m, x = .ref a ∧ y = .ref b ∧ H a = some (SetO w a S n) ∧ H b = some (SetO w b S' m) ∧ n ≤ 6 ∧ m ≤ 6 ∧ (∀ k, S' k = true → 0 ≤ k ∧ k < 6) ∧ ∀ p c, H p = none → c ≤ n + m → Q (.ref p) (upd H p (SetO w p (fun k => S' k != S k) c))
theorem op_xorS : OpR X (binaryOp .BitXor) (rXorS X.w) := by
  intro pins s σ H x y v u Q I rx ry h
  obtain ⟨a, b, S, S', n, m, rfl, rfl, ha, hb, hn, hm, h6, q⟩ := h
  cases rx
  cases ry
  refine setR_xor (setO_get I ha) (setO_get I hb) (by omega) hm h6 fun h' d p c hp k R hc => ?_
  have hnp : H p = none := I.hok.fresh hp
  have J : Inv X pins σ (upd H p (SetO X.w p (fun k => S' k != S k) c)) { s with heap := h', gens := s.gens, drawn := d, toks := s.toks } :=
    I.call (ch := []) (Un.laid k hp hnp) (I.hok.laid k hp (setO_new R)) I.bare (fun _ z => nomatch z)
  exact ⟨.ref p, _, J, rfl, q p c hnp hc⟩
end
end Gd
namespace Dl
open PySem PySem.Spec PyProof.Rows L2 Gd RZ Sx
/-- what is in just one of both -/
def xorI (ns ms : List Int) : List Int := ((List.range 6).map fun k : Nat => (k : Int)).filter fun k => decide (k ∈ ms) != decide (k ∈ ns)
theorem asc_uniq : ∀ {l l' : List Int}, l.Pairwise (· < ·) → l'.Pairwise (· < ·) → (∀ k, k ∈ l ↔ k ∈ l') → l = l'
  | [], [], _, _, _ => rfl
  | [], b :: l', _, _, h => absurd ((h b).2 (List.mem_cons_self ..)) (by simp)
  | a :: l, [], _, _, h => absurd ((h a).1 (List.mem_cons_self ..)) (by simp)
  | a :: l, b :: l', p, p', h => by
    obtain ⟨p1, p2⟩ := List.pairwise_cons.mp p
    obtain ⟨q1, q2⟩ := List.pairwise_cons.mp p'
    have e : a = b := by
      rcases List.mem_cons.mp ((h a).1 (List.mem_cons_self ..)) with z | z
      · exact z
      · rcases List.mem_cons.mp ((h b).2 (List.mem_cons_self ..)) with y | y
        · exact y.symm
        · have := q1 a z
          have := p1 b y
          omega
    subst e
    rw [asc_uniq p2 q2 fun k => ?_]
    constructor
    · intro m
      rcases List.mem_cons.mp ((h k).1 (List.mem_cons_of_mem _ m)) with z | z
      · have := p1 k m; omega
      · exact z
    · intro m
      rcases List.mem_cons.mp ((h k).2 (List.mem_cons_of_mem _ m)) with z | z
      · have := q1 k m; omega
      · exact z
theorem range_asc (n : Nat) : ((List.range n).map fun k : Nat => (k : Int)).Pairwise (· < ·) := by
  rw [List.pairwise_map]
  exact (List.pairwise_lt_range).imp fun h => by omega
theorem xorI_asc (ns ms : List Int) : (xorI ns ms).Pairwise (· < ·) := List.Pairwise.sublist List.filter_sublist (range_asc 6)
def small6 (ns : List Int) : Prop := ns.length ≤ 6 ∧ ∀ k ∈ ns, 0 ≤ k ∧ k < 6
theorem xorI_mem {ns ms : List Int} (h1 : small6 ns) (h2 : small6 ms) (k : Int) : k ∈ xorI ns ms ↔ (decide (k ∈ ms) != decide (k ∈ ns)) = true := by
  unfold xorI
  rw [List.mem_filter]
  constructor
  · exact fun h => h.2
  · intro h
    refine ⟨?_, h⟩
    have : 0 ≤ k ∧ k < 6 := by
      by_cases c : k ∈ ms
      · exact h2.2 k c
      · by_cases d : k ∈ ns
        · exact h1.2 k d
        · simp [c, d] at h
    refine List.mem_map.mpr ⟨k.toNat, List.mem_range.mpr (by omega), by omega⟩
/-- the ints of a tuple -/
def tupI : PyData → Option (List Int)
  | .tuple a => intsO a
  | _ => none
theorem tupI_da {c : Fc} {W : Addr → Prop} {H : Hp} {v : V} {d : PyData} {ns : List Int} (h : Da W c.K H v d) (e : tupI d = some ns) : ∃ l, v = .ref l ∧ SqT c.K H l (ns.map V.int) := by
  cases h with
  | tup h r =>
    have e2 := ints_da (c := c) r e
    subst e2
    exact ⟨_, rfl, h⟩
  | _ => cases e
/-- sorted(set(a) ^ set(b)) -/
def mXor (f g : List Cell → M PyData) : List Cell → M PyData := fun Γ => (f Γ).bind fun a => (M.opt (tupI a)).bind fun ns => (M.gd (small6 ns)).bind fun _ => (g Γ).bind fun b => (M.opt (tupI b)).bind fun ms => (M.gd (small6 ms)).bind fun _ => .ret (.list ((xorI ns ms).map .int))
section
variable {X : Cx} {c : Fc} {e1 e2 : Expr} {f g : List Cell → M PyData} {pos p p1 p2 q1 q2 q3 : Pos}
theorem da_ints {W : Addr → Prop} {H : Hp} {K : PySem.W.Frag} : ∀ ns : List Int, DaL W K H (ns.map V.int) (ns.map .int)
  | [] => .nil
  | n :: ns => .cons (.int n) (da_ints ns)
theorem w_xor {σ : L2.St} {H : Hp} {Q : VK} (eK : X.K = c.K) (q : tF c (mXor f g) σ H Q) :
    tCB (rSortedSet X.w) (fun σ H R => tOp (rXorS X.w) (tCB (rSetT X.w X.K) (fun σ H R => tF c f σ H fun x H1 => R [x] H1)) (tCB (rSetT X.w X.K) (fun σ H R => tF c g σ H fun x H1 => R [x] H1)) σ H fun x H1 => R [x] H1) σ H Q := by
  obtain ⟨W, Γ, S, q⟩ := q
  refine ⟨W, Γ, S, (f Γ).mono (fun a q H1 x k1 da => ?_) q⟩
  have S1 := S.ch k1
  dsimp only at q
  cases ha : tupI a with
  | none => rw [ha] at q; exact q.elim
  | some ns =>
    rw [ha] at q
    obtain ⟨hs, q⟩ := q
    obtain ⟨l, rfl, hq⟩ := tupI_da (c := c) da ha
    refine ⟨l, ns, rfl, by rw [eK]; exact hq, by have := hs.1; omega, fun p c1 hp hc1 => ?_⟩
    have cp : Ch c H1 (upd H1 p (SetO X.w p (fun k => decide (k ∈ ns)) c1)) := S1.new1 hp
    have S2 := S1.ch cp
    refine ⟨W, Γ, S2, (g Γ).mono (fun b q H2 y k2 db => ?_) q⟩
    have S3 := S2.ch k2
    have hp2 : H2 p = some (SetO X.w p (fun k => decide (k ∈ ns)) c1) := k2.kp _ _ (S1.noow hp) (S2.lw.noT upd_same fun _ z => by cases z) upd_same
    dsimp only at q
    cases hb : tupI b with
    | none => rw [hb] at q; exact q.elim
    | some ms =>
      rw [hb] at q
      obtain ⟨hms, q⟩ := q
      have q : ∀ H' v, Ch c H H' → Da W c.K H' v (.list ((xorI ns ms).map .int)) → Q v H' := q
      obtain ⟨l2, rfl, h2⟩ := tupI_da (c := c) db hb
      refine ⟨_, ms, rfl, by rw [eK]; exact h2, by have := hms.1; omega, fun p2 c2 hp2' hc2 => ?_⟩
      have np : p ≠ p2 := fun z => by rw [z] at hp2; rw [hp2] at hp2'; cases hp2'
      have S4 := S3.ch (S3.new1 (o := SetO X.w p2 (fun k => decide (k ∈ ms)) c2) hp2')
      refine ⟨p, p2, _, _, c1, c2, rfl, rfl, by rw [upd_ne np]; exact hp2, upd_same, by have := hs.1; omega, by have := hms.1; omega, fun k hk => hms.2 k (of_decide_eq_true hk), fun p3 c3 hp3 hc3 => ?_⟩
      refine ⟨p3, _, c3, rfl, upd_same, by have := hs.1; have := hms.1; omega, fun out p4 ho hm hl hp4 => ?_⟩
      have eo : out = xorI ns ms := asc_uniq ho (xorI_asc ns ms) fun k => by rw [hm k, xorI_mem hs hms]
      have S5 := S4.ch (S4.new1 (o := SetO X.w p3 (fun k => decide (k ∈ ms) != decide (k ∈ ns)) c3) hp3)
      have c5 := S5.new1 (o := .lst (out.map V.int)) hp4
      refine q _ _ ((((((k1.trans cp).trans k2).trans (S3.new1 hp2')).trans (S4.new1 hp3)).trans c5)) ?_
      rw [← eo]
      exact .lst (S5.lw.dom hp4) upd_same (da_ints out)
theorem pf_xor (eK : X.K = c.K) (hc : X.calm = true) (h1 : Gl X "sorted") (h2 : X.mg "sorted" = none) (h3 : Gl X "set") (h4 : X.mg "set" = none) (ha : PE X e1 (tF c f)) (hb : PE X e2 (tF c g))
    (hs1 : starEach [e1] X.env = (false, eval e1 X.env) :: starEach [] X.env := by rfl) (hs2 : starEach [e2] X.env = (false, eval e2 X.env) :: starEach [] X.env := by rfl)
    (hs3 : starEach [.BinOp (.Call (.Name "set" p1) [e1] [] q1) .BitXor (.Call (.Name "set" p2) [e2] [] q2) q3] X.env = (false, eval (.BinOp (.Call (.Name "set" p1) [e1] [] q1) .BitXor (.Call (.Name "set" p2) [e2] [] q2) q3) X.env) :: starEach [] X.env := by rfl) :
    PE X (.Call (.Name "sorted" p) [.BinOp (.Call (.Name "set" p1) [e1] [] q1) .BitXor (.Call (.Name "set" p2) [e2] [] q2) q3] [] pos) (tF c (mXor f g)) :=
  pe_weak (pe_callB (cr_sortedSet hc) h1 h2 (by decide +kernel) (pa_one (pe_op op_xorS (pe_callTy (cr_setT hc) h3 h4 (by decide +kernel) (pa_one ha hs1) (by decide) (by decide) hs1) (pe_callTy (cr_setT hc) h3 h4 (by decide +kernel) (pa_one hb hs2) (by decide) (by decide) hs2)) hs3) (by decide) (by decide) hs3) fun σ H Q q => w_xor eK q
end
end Dl

set_option Elab.async false
set_option linter.all false
set_option maxRecDepth 100000
set_option maxHeartbeats 2000000
set_option autoImplicit false
/-! Fq: fractions of a program (in lowest terms, the base above 0) as numbers of Lean's Rat. -/
namespace Fq
open PySem PySem.Spec PyProof.Rows L2 Gd RZ Dl
/-- a number as the program's pair -/
def qD (q : Rat) : PyData := .tuple [.int q.num, .int (q.den : Nat)]
def qsD (qs : List Rat) : PyData := .tuple (qs.map qD)
theorem qD_inj {p q : Rat} (h : qD p = qD q) : p = q := by
  unfold qD at h
  injection h with h
  injection h with h1 h2
  injection h1 with h1
  injection h2 with h2 _
  injection h2 with h2
  exact Rat.ext h1 (Int.ofNat.inj h2)
theorem den_pos (q : Rat) : (0 : Int) < (q.den : Nat) := Int.natCast_pos.mpr (Nat.pos_of_ne_zero q.den_nz)
/-- a pair in lowest terms is its number's -/
theorem mk_of {n d : Int} (h : 0 < d) : leanF n d = ((mkRat n d.toNat).num, ((mkRat n d.toNat).den : Int)) := by
  obtain ⟨k, rfl⟩ := Int.eq_ofNat_of_zero_le (Int.le_of_lt h)
  have k0 : k ≠ 0 := by omega
  rw [Int.toNat_natCast, Rat.mkRat_def, dif_neg k0, Rat.normalize_eq]
  unfold leanF
  dsimp only
  have e : Int.gcd n (k : Int) = n.natAbs.gcd k := by
    unfold Int.gcd
    rw [Int.natAbs_natCast]
  rw [e, Int.natCast_ediv]
theorem leanD {n d : Int} (h : 0 < d) : frD (leanF n d) = qD (mkRat n d.toNat) := by
  rw [mk_of h]
  rfl
/-- the pair's number -/
def pQ (p : Int × Int) : Rat := mkRat p.1 p.2.toNat
theorem frD_q {p : Int × Int} (h : 0 < p.2) (g : Int.gcd p.1 p.2 = 1) : frD p = qD (pQ p) := by
  unfold pQ
  rw [← leanD h]
  unfold leanF
  rw [g]
  simp
theorem pQ_num {p : Int × Int} (h : 0 < p.2) (g : Int.gcd p.1 p.2 = 1) : (pQ p).num = p.1 ∧ ((pQ p).den : Int) = p.2 := by
  have := mk_of (n := p.1) h
  unfold leanF at this
  rw [g] at this
  simp at this
  exact ⟨this.1.symm, this.2.symm⟩
/-! ### sums and products -/
theorem add_mk (x y : Rat) : mkRat (x.num * y.den + y.num * x.den) (x.den * y.den) = x + y := by
  rw [Rat.add_def, Rat.mkRat_def, dif_neg (Nat.mul_ne_zero x.den_nz y.den_nz)]
theorem sub_mk (x y : Rat) : mkRat (x.num * y.den - y.num * x.den) (x.den * y.den) = x - y := by
  rw [Rat.sub_def, Rat.mkRat_def, dif_neg (Nat.mul_ne_zero x.den_nz y.den_nz)]
theorem mul_mk (x y : Rat) : mkRat (x.num * y.num) (x.den * y.den) = x * y := by
  rw [Rat.mul_def, Rat.mkRat_def, dif_neg (Nat.mul_ne_zero x.den_nz y.den_nz)]
theorem toNat_mul (a b : Nat) : ((a : Int) * (b : Int)).toNat = a * b := by rw [← Int.natCast_mul, Int.toNat_natCast]
theorem lean_add (x y : Rat) : frD (leanF (x.num * (y.den : Int) + y.num * (x.den : Int)) ((x.den : Int) * (y.den : Int))) = qD (x + y) := by
  rw [leanD (Int.mul_pos (den_pos x) (den_pos y)), toNat_mul, add_mk]
theorem lean_sub (x y : Rat) : frD (leanF (x.num * (y.den : Int) - y.num * (x.den : Int)) ((x.den : Int) * (y.den : Int))) = qD (x - y) := by
  rw [leanD (Int.mul_pos (den_pos x) (den_pos y)), toNat_mul, sub_mk]
theorem lean_mul (x y : Rat) : frD (leanF (x.num * y.num) ((x.den : Int) * (y.den : Int))) = qD (x * y) := by
  rw [leanD (Int.mul_pos (den_pos x) (den_pos y)), toNat_mul, mul_mk]
/-! ### bounds: both parts below 2 ^ n -/
structure Bd (n : Nat) (q : Rat) : Prop where
  num : q.num.natAbs < 2 ^ n
  den : q.den < 2 ^ n
theorem Bd.up {m n : Nat} {q : Rat} (h : Bd m q) (l : m ≤ n) : Bd n q := ⟨Nat.lt_of_lt_of_le h.num (Nat.pow_le_pow_right (by decide) l), Nat.lt_of_lt_of_le h.den (Nat.pow_le_pow_right (by decide) l)⟩
theorem mk_le {n : Int} {d : Nat} (h : d ≠ 0) : (mkRat n d).num.natAbs ≤ n.natAbs ∧ (mkRat n d).den ≤ d := by
  rw [Rat.mkRat_def, dif_neg h, Rat.normalize_eq]
  dsimp only
  refine ⟨?_, Nat.div_le_self _ _⟩
  obtain ⟨k, hk⟩ := Nat.gcd_dvd_left n.natAbs d
  have e : n.natAbs.gcd d ≠ 0 := Nat.ne_of_gt (Nat.gcd_pos_of_pos_right _ (Nat.pos_of_ne_zero h))
  generalize n.natAbs.gcd d = g at *
  have dv : (g : Int) ∣ n := Int.ofNat_dvd_left.mpr ⟨k, hk⟩
  obtain ⟨z, rfl⟩ := dv
  rw [Int.mul_ediv_cancel_left _ (by omega), Int.natAbs_mul, Int.natAbs_natCast]
  exact Nat.le_mul_of_pos_left _ (Nat.pos_of_ne_zero e)
theorem mul_bd {a b m n : Nat} (x : a < 2 ^ m) (y : b < 2 ^ n) : a * b < 2 ^ (m + n) := by
  rw [Nat.pow_add]
  exact Nat.mul_lt_mul'' x y
theorem add_bd {a b m n : Nat} (x : a < 2 ^ (m + n)) (y : b < 2 ^ (m + n)) : a + b < 2 ^ (m + n + 1) := by
  rw [Nat.pow_succ]
  omega
theorem Bd.add {m n : Nat} {x y : Rat} (a : Bd m x) (b : Bd n y) : Bd (m + n + 1) (x + y) := by
  rw [← add_mk]
  obtain ⟨l1, l2⟩ := mk_le (n := x.num * y.den + y.num * x.den) (Nat.mul_ne_zero x.den_nz y.den_nz)
  have e1 : (x.num * (y.den : Int)).natAbs < 2 ^ (m + n) := by
    rw [Int.natAbs_mul, Int.natAbs_natCast]
    exact mul_bd a.num b.den
  have e2 : (y.num * (x.den : Int)).natAbs < 2 ^ (m + n) := by
    rw [Int.natAbs_mul, Int.natAbs_natCast, Nat.add_comm]
    exact mul_bd b.num a.den
  refine ⟨Nat.lt_of_le_of_lt l1 (Nat.lt_of_le_of_lt (Int.natAbs_add_le _ _) (add_bd e1 e2)), Nat.lt_of_le_of_lt l2 (Nat.lt_of_lt_of_le (mul_bd a.den b.den) (Nat.pow_le_pow_right (by decide) (by omega)))⟩
theorem Bd.sub {m n : Nat} {x y : Rat} (a : Bd m x) (b : Bd n y) : Bd (m + n + 1) (x - y) := by
  rw [← sub_mk]
  obtain ⟨l1, l2⟩ := mk_le (n := x.num * y.den - y.num * x.den) (Nat.mul_ne_zero x.den_nz y.den_nz)
  have e1 : (x.num * (y.den : Int)).natAbs < 2 ^ (m + n) := by
    rw [Int.natAbs_mul, Int.natAbs_natCast]
    exact mul_bd a.num b.den
  have e2 : (y.num * (x.den : Int)).natAbs < 2 ^ (m + n) := by
    rw [Int.natAbs_mul, Int.natAbs_natCast, Nat.add_comm]
    exact mul_bd b.num a.den
  have e3 : (x.num * (y.den : Int) - y.num * (x.den : Int)).natAbs ≤ (x.num * (y.den : Int)).natAbs + (y.num * (x.den : Int)).natAbs := by omega
  refine ⟨Nat.lt_of_le_of_lt l1 (Nat.lt_of_le_of_lt e3 (add_bd e1 e2)), Nat.lt_of_le_of_lt l2 (Nat.lt_of_lt_of_le (mul_bd a.den b.den) (Nat.pow_le_pow_right (by decide) (by omega)))⟩
theorem Bd.mul {m n : Nat} {x y : Rat} (a : Bd m x) (b : Bd n y) : Bd (m + n) (x * y) := by
  rw [← mul_mk]
  obtain ⟨l1, l2⟩ := mk_le (n := x.num * y.num) (Nat.mul_ne_zero x.den_nz y.den_nz)
  refine ⟨Nat.lt_of_le_of_lt l1 ?_, Nat.lt_of_le_of_lt l2 (mul_bd a.den b.den)⟩
  rw [Int.natAbs_mul]
  exact mul_bd a.num b.num
/-! ### one sum over a common base -/
theorem common_add {a u : Int} {b d : Nat} (hb : b ≠ 0) (hd : d ≠ 0) : mkRat (a * ((Nat.lcm b d / b : Nat) : Int) + u * ((Nat.lcm b d / d : Nat) : Int)) (Nat.lcm b d) = mkRat a b + mkRat u d := by
  have l0 : Nat.lcm b d ≠ 0 := Nat.ne_of_gt (Nat.lcm_pos (Nat.pos_of_ne_zero hb) (Nat.pos_of_ne_zero hd))
  rw [Rat.mkRat_add_mkRat _ _ hb hd, Rat.mkRat_eq_iff l0 (Nat.mul_ne_zero hb hd)]
  have e1 : Nat.lcm b d / b * b = Nat.lcm b d := Nat.div_mul_cancel (Nat.dvd_lcm_left b d)
  have e2 : Nat.lcm b d / d * d = Nat.lcm b d := Nat.div_mul_cancel (Nat.dvd_lcm_right b d)
  generalize Nat.lcm b d / b = v at *
  generalize hw : Nat.lcm b d / d = w at *
  generalize Nat.lcm b d = l at *
  have f1 : (l : Int) = v * b := by rw [← e1, Int.natCast_mul]
  have f2 : (l : Int) = w * d := by rw [← e2, Int.natCast_mul]
  rw [Int.natCast_mul, Int.add_mul, Int.add_mul]
  have g1 : a * (v : Int) * ((b : Int) * d) = a * d * l := by
    rw [f1]
    simp only [Int.mul_comm, Int.mul_left_comm, Int.mul_assoc]
  have g2 : u * (w : Int) * ((b : Int) * d) = u * b * l := by
    rw [f2]
    simp only [Int.mul_comm, Int.mul_left_comm, Int.mul_assoc]
  rw [g1, g2]
/-- the sum of products -/
def dotQ : List Rat → List Rat → Rat → Rat
  | x :: xs, y :: ys, s => dotQ xs ys (s + x * y)
  | _, _, s => s
/-! ### data read back -/
def unq : PyData → Rat
  | .tuple [.int a, .int b] => mkRat a b.toNat
  | _ => 0
theorem unq_q (q : Rat) : unq (qD q) = q := by
  unfold qD unq
  dsimp only
  rw [Int.toNat_natCast, Rat.mkRat_self]
def parts : PyData → List PyData
  | .tuple ds => ds
  | .list ds => ds
  | _ => []
def unqs (d : PyData) : List Rat := (parts d).map unq
theorem map_unq (qs : List Rat) : (qs.map qD).map unq = qs := by
  rw [List.map_map]
  conv => rhs; rw [← List.map_id qs]
  exact List.map_congr_left fun q _ => unq_q q
theorem unqs_qs (qs : List Rat) : unqs (qsD qs) = qs := map_unq qs
def asI : PyData → Int
  | .int i => i
  | _ => 0
/-- a trial, a world -/
structure TQ where
  rows : List (List Rat)
  spreads : List Rat
  blocks : List Int
def TQ.d (t : TQ) : PyData := .tuple [.tuple (t.rows.map qsD), qsD t.spreads, .tuple (t.blocks.map .int)]
def unT : PyData → TQ
  | .tuple [r, s, b] => ⟨(parts r).map unqs, unqs s, (parts b).map asI⟩
  | _ => ⟨[], [], []⟩
theorem unT_d (t : TQ) : unT t.d = t := by
  obtain ⟨r, s, b⟩ := t
  unfold TQ.d unT
  dsimp only
  rw [unqs_qs, show parts (.tuple (r.map qsD)) = r.map qsD from rfl, show parts (.tuple (b.map .int)) = b.map .int from rfl, List.map_map, List.map_map]
  have e1 : r.map (unqs ∘ qsD) = r := by
    conv => rhs; rw [← List.map_id r]
    exact List.map_congr_left fun q _ => unqs_qs q
  have e2 : b.map (asI ∘ PyData.int) = b := by
    conv => rhs; rw [← List.map_id b]
    exact List.map_congr_left fun q _ => rfl
  rw [e1, e2]
structure TQ.Ok (n : Nat) (t : TQ) : Prop where
  n1 : 1 ≤ t.rows.length
  n2 : t.rows.length ≤ 10
  wide : ∃ k, 1 ≤ k ∧ k ≤ 5 ∧ ∀ r ∈ t.rows, r.length = k
  ent : ∀ r ∈ t.rows, ∀ q ∈ r, Bd n q
  spl : t.spreads.length = t.rows.length
  spr : ∀ q ∈ t.spreads, 0 < q.num ∧ Bd n q
  bl : t.blocks = [] ∨ (t.blocks.length = t.rows.length ∧ ∀ b ∈ t.blocks, 0 ≤ b ∧ b ≤ 4)
def TQ.few (t : TQ) : Nat := (t.rows.headD []).length
def TQ.lev (t : TQ) : Nat := (t.blocks.foldl max (-1) + 1).toNat
def marks (b : Int) (m : Nat) : List Rat := (List.range m).map fun (k : Nat) => if (k : Int) = b then 1 else 0
def TQ.wideRows (t : TQ) : List (List Rat) := if t.lev = 0 then t.rows else List.zipWith (fun r b => r ++ marks b t.lev) t.rows t.blocks
def wD (v l : List Rat) : PyData := .tuple [qsD v, qsD l]
def unW : PyData → List Rat × List Rat
  | .tuple [v, l] => (unqs v, unqs l)
  | _ => ([], [])
theorem unW_d (v l : List Rat) : unW (wD v l) = (v, l) := by
  unfold wD unW
  dsimp only
  rw [unqs_qs, unqs_qs]
def TQ.yields (t : TQ) (w : List Rat) : List Rat := t.wideRows.map fun r => dotQ r w 0
end Fq

set_option Elab.async false
set_option linter.all false
set_option maxRecDepth 100000
set_option maxHeartbeats 4000000
set_option autoImplicit false
/-! Sz: data small enough to be printed. -/
namespace Gd
open PySem PySem.Spec PyProof.Rows L2 RZ
open PySem.PyData
/-- data that can be printed: ints of up to 121 bits, at most c cells, at most k deep -/
structure Sm (c k : Nat) (d : PyData) : Prop where
  sh : d.showable = true
  lv : d.leavesShort 130 = true
  bk : d.bulk ≤ c
  dp : d.depth ≤ k
structure SmL (n c k : Nat) (ds : List PyData) : Prop where
  len : ds.length ≤ n
  all : ∀ d ∈ ds, Sm c k d
theorem showAll : ∀ {ds : List PyData}, (∀ d ∈ ds, d.showable = true) → showableAll ds = true
  | [], _ => by simp [showableAll]
  | d :: ds, h => by
    simp only [showableAll, Bool.and_eq_true]
    exact ⟨h d (List.mem_cons_self ..), showAll fun x m => h x (List.mem_cons_of_mem _ m)⟩
theorem leavAll {B : Nat} : ∀ {ds : List PyData}, (∀ d ∈ ds, d.leavesShort B = true) → leavesShortAll B ds = true
  | [], _ => by simp [leavesShortAll]
  | d :: ds, h => by
    simp only [leavesShortAll, Bool.and_eq_true]
    exact ⟨h d (List.mem_cons_self ..), leavAll fun x m => h x (List.mem_cons_of_mem _ m)⟩
theorem bulkAll' {c : Nat} : ∀ {ds : List PyData}, (∀ d ∈ ds, d.bulk ≤ c) → bulkAll ds ≤ ds.length * (c + 1)
  | [], _ => by simp [bulkAll]
  | d :: ds, h => by
    have h1 := h d (List.mem_cons_self ..)
    have h2 := bulkAll' fun x m => h x (List.mem_cons_of_mem _ m)
    simp only [bulkAll, List.length_cons, Nat.succ_mul]
    omega
theorem depAll' {k : Nat} : ∀ {ds : List PyData}, (∀ d ∈ ds, d.depth ≤ k) → depthAll ds ≤ k
  | [], _ => by simp [depthAll]
  | d :: ds, h => by
    have h1 := h d (List.mem_cons_self ..)
    have h2 := depAll' fun x m => h x (List.mem_cons_of_mem _ m)
    simp only [depthAll]
    omega
section
variable {n c k : Nat} {ds : List PyData}
theorem SmL.b (h : SmL n c k ds) : bulkAll ds ≤ n * (c + 1) := Nat.le_trans (bulkAll' fun d m => (h.all d m).bk) (Nat.mul_le_mul_right _ h.len)
theorem SmL.tup (h : SmL n c k ds) : Sm (n * (c + 1)) (k + 1) (.tuple ds) := by
  refine ⟨?_, ?_, ?_, ?_⟩
  · simp only [showable]; exact showAll fun d m => (h.all d m).sh
  · simp only [leavesShort]; exact leavAll fun d m => (h.all d m).lv
  · simp only [bulk]; exact h.b
  · simp only [depth]
    have := depAll' fun d m => (h.all d m).dp
    omega
theorem SmL.lst (h : SmL n c k ds) : Sm (n * (c + 1)) (k + 1) (.list ds) := by
  refine ⟨?_, ?_, ?_, ?_⟩
  · simp only [showable]; exact showAll fun d m => (h.all d m).sh
  · simp only [leavesShort]; exact leavAll fun d m => (h.all d m).lv
  · simp only [bulk]; exact h.b
  · simp only [depth]
    have := depAll' fun d m => (h.all d m).dp
    omega
theorem Sm.up {c' k' : Nat} {d : PyData} (h : Sm c k d) (h1 : c ≤ c') (h2 : k ≤ k') : Sm c' k' d := ⟨h.sh, h.lv, Nat.le_trans h.bk h1, Nat.le_trans h.dp h2⟩
theorem Sm.fits {d : PyData} (h : Sm c k d) (hc : c ≤ 100000) : d.shown.length ≤ sizeLine := by
  have e := shown_le_bulk 130 (by decide) d h.lv
  have e2 : (130 + 2) * d.bulk ≤ 132 * 100000 := Nat.mul_le_mul_left _ (Nat.le_trans h.bk hc)
  rw [sizeLine_eq]
  omega
theorem sm_int {i : Int} (h : i.natAbs < 2 ^ 120) : Sm 0 0 (.int i) := by
  have l : i.natAbs.log2 < 121 := by
    by_cases z : i.natAbs = 0
    · rw [z]; decide
    · exact (Nat.log2_lt z).mpr (Nat.lt_of_lt_of_le h (Nat.pow_le_pow_right (by decide) (by decide)))
  refine ⟨?_, ?_, ?_, ?_⟩
  · simp only [showable, decide_eq_true_eq]
    omega
  · simp only [leavesShort, decide_eq_true_eq]
    have e := int_text_length_le (k := 121) (by decide) l
    rw [shown_int, PySem.ofString_length]
    omega
  · simp [bulk]
  · simp [depth]
/-- n of a small datum in a list -/
theorem Sm.reps {d : PyData} (h : Sm 2000 20 d) {n : Nat} (hn : n ≤ 11) : (PyData.list (List.replicate n d)).showable = true ∧ (PyData.list (List.replicate n d)).depth ≤ 100 ∧ (PyData.list (List.replicate n d)).shown.length ≤ sizeLine := by
  have q : Sm (n * 2001) 21 (.list (List.replicate n d)) := SmL.lst (n := n) (c := 2000) (k := 20) ⟨by rw [List.length_replicate]; exact Nat.le_refl _, fun x m => by rw [(List.mem_replicate.mp m).2]; exact h⟩
  exact ⟨q.sh, Nat.le_trans q.dp (by decide), q.fits (by omega)⟩
theorem sm_fr {q : Int × Int} (h : q.1.natAbs < 2 ^ 120 ∧ q.2.natAbs < 2 ^ 120) : Sm 2 1 (frD q) := by
  refine SmL.tup (n := 2) (c := 0) (k := 0) ⟨by simp, fun d m => ?_⟩
  simp only [List.mem_cons, List.not_mem_nil, or_false] at m
  rcases m with rfl | rfl
  · exact sm_int h.1
  · exact sm_int h.2
theorem sm_row {qs : List (Int × Int)} {n : Nat} (hn : qs.length ≤ n) (h : ∀ q ∈ qs, q.1.natAbs < 2 ^ 120 ∧ q.2.natAbs < 2 ^ 120) : Sm (n * 3) 2 (rowD qs) := by
  refine SmL.tup (n := n) (c := 2) (k := 1) ⟨by rw [List.length_map]; exact hn, fun d m => ?_⟩
  obtain ⟨q, hq, rfl⟩ := List.mem_map.mp m
  exact sm_fr (h q hq)
theorem Trl.Ok.sm {t : Trl} {most : Nat} (h : t.Ok most) (hm : most ≤ 10) : Sm 2000 20 t.d := by
  obtain ⟨k, k1, k5, hk⟩ := h.wide
  have n2 := h.n2
  have r : Sm (10 * 16) 3 (.tuple (t.rows.map rowD)) := by
    refine SmL.tup (n := 10) (c := 15) (k := 2) ⟨by rw [List.length_map]; omega, fun d m => ?_⟩
    obtain ⟨q, hq, rfl⟩ := List.mem_map.mp m
    exact sm_row (n := 5) (by rw [hk q hq]; exact k5) fun x hx => (h.ent q hq x hx).lt (Nat.le_refl _)
  have s : Sm (10 * 3) 2 (rowD t.spreads) := sm_row (by rw [h.spl]; omega) fun x hx => by
    have q := h.spr x hx
    unfold SprOk at q
    simp only [List.mem_cons, List.not_mem_nil, or_false] at q
    rcases q with rfl | rfl | rfl | rfl | rfl <;> constructor <;> decide
  have b : Sm (10 * 1) 1 (.tuple (t.blocks.map .int)) := by
    refine SmL.tup (n := 10) (c := 0) (k := 0) ⟨?_, fun d m => ?_⟩
    · rw [List.length_map]
      rcases h.bl with e | e
      · rw [e]; simp
      · omega
    · obtain ⟨q, hq, rfl⟩ := List.mem_map.mp m
      rcases h.bl with e | e
      · rw [e] at hq; cases hq
      · have := e.2 q hq
        refine sm_int (Nat.lt_of_lt_of_le (show q.natAbs < 5 by omega) ?_)
        decide
  refine (SmL.tup (n := 3) (c := 160) (k := 3) ⟨by simp, fun d m => ?_⟩).up (by decide) (by decide)
  simp only [List.mem_cons, List.not_mem_nil, or_false] at m
  rcases m with rfl | rfl | rfl
  · exact r
  · exact s.up (by decide) (by decide)
  · exact b.up (by decide) (by decide)
end
end Gd

set_option Elab.async false
set_option linter.all false
set_option maxRecDepth 100000
set_option maxHeartbeats 2000000
set_option autoImplicit false
/-! Fd: fractions over a common base, and how great they are; what is printed of them. -/
namespace Fq
open PySem PySem.Spec PyProof.Rows L2 Gd RZ Dl
/-- over the base L, at most b -/
def Dv (L b : Nat) (x : Rat) : Prop := ∃ n : Int, x = mkRat n L ∧ n.natAbs ≤ b * L
theorem mk_same {n m : Int} {L : Nat} (h : L ≠ 0) : mkRat n L + mkRat m L = mkRat (n + m) L := by
  rw [Rat.mkRat_add_mkRat _ _ h h, ← Int.add_mul, Rat.mkRat_mul_right h]
theorem mk_neg (n : Int) (L : Nat) : -mkRat n L = mkRat (-n) L := Rat.neg_mkRat n L
theorem Dv.add {L b c : Nat} {x y : Rat} (h : L ≠ 0) (hx : Dv L b x) (hy : Dv L c y) : Dv L (b + c) (x + y) := by
  obtain ⟨n, rfl, hn⟩ := hx
  obtain ⟨m, rfl, hm⟩ := hy
  refine ⟨n + m, mk_same h, Nat.le_trans (Int.natAbs_add_le _ _) ?_⟩
  rw [Nat.add_mul]
  omega
theorem Dv.neg {L b : Nat} {x : Rat} (hx : Dv L b x) : Dv L b (-x) := by
  obtain ⟨n, rfl, hn⟩ := hx
  exact ⟨-n, mk_neg n L, by rw [Int.natAbs_neg]; exact hn⟩
theorem Dv.sub {L b c : Nat} {x y : Rat} (h : L ≠ 0) (hx : Dv L b x) (hy : Dv L c y) : Dv L (b + c) (x - y) := by
  rw [Rat.sub_eq_add_neg]
  exact hx.add h hy.neg
theorem Dv.mul {L M b c : Nat} {x y : Rat} (hx : Dv L b x) (hy : Dv M c y) : Dv (L * M) (b * c) (x * y) := by
  obtain ⟨n, rfl, hn⟩ := hx
  obtain ⟨m, rfl, hm⟩ := hy
  refine ⟨n * m, Rat.mkRat_mul_mkRat _ _ _ _, ?_⟩
  rw [Int.natAbs_mul]
  refine Nat.le_trans (Nat.mul_le_mul hn hm) (Nat.le_of_eq ?_)
  simp only [Nat.mul_comm, Nat.mul_left_comm, Nat.mul_assoc]
theorem Dv.zero {L b : Nat} : Dv L b 0 := ⟨0, (Rat.zero_mkRat L).symm, Nat.zero_le _⟩
theorem Dv.up {L b c : Nat} {x : Rat} (hx : Dv L b x) (h : b ≤ c) : Dv L c x := by
  obtain ⟨n, rfl, hn⟩ := hx
  exact ⟨n, rfl, Nat.le_trans hn (Nat.mul_le_mul_right _ h)⟩
theorem Dv.wide {L M b : Nat} {x : Rat} (hx : Dv L b x) (h : M ≠ 0) : Dv (L * M) b x := by
  obtain ⟨n, rfl, hn⟩ := hx
  refine ⟨n * M, (Rat.mkRat_mul_right h).symm, ?_⟩
  rw [Int.natAbs_mul, Int.natAbs_natCast, ← Nat.mul_assoc]
  exact Nat.mul_le_mul_right _ hn
theorem Dv.one {L : Nat} (h : L ≠ 0) : Dv L 1 1 := by
  refine ⟨L, ?_, by rw [Int.natAbs_natCast, Nat.one_mul]; exact Nat.le_refl _⟩
  have := Rat.mkRat_mul_right (n := 1) (d := 1) h
  rw [Int.one_mul, Nat.one_mul] at this
  rw [this]
  rfl
theorem Dv.bd {L b n : Nat} {x : Rat} (hx : Dv L b x) (h : L ≠ 0) (h1 : L < 2 ^ n) (h2 : b * L < 2 ^ n) : Bd n x := by
  obtain ⟨k, rfl, hk⟩ := hx
  obtain ⟨l1, l2⟩ := mk_le (n := k) h
  exact ⟨Nat.lt_of_le_of_lt (Nat.le_trans l1 hk) h2, Nat.lt_of_le_of_lt l2 h1⟩
theorem Dv.of {L b : Nat} {n d : Int} (hd : 0 < d) (h : d.natAbs ∣ L) (hL : L ≠ 0) (hn : (n.natAbs : Int) ≤ b * d) : Dv L b (mkRat n d.toNat) := by
  obtain ⟨k, rfl⟩ := h
  have e : d.natAbs = d.toNat := by omega
  have k0 : k ≠ 0 := by rintro rfl; exact hL (Nat.mul_zero _)
  refine ⟨n * k, by rw [e]; exact (Rat.mkRat_mul_right k0).symm, ?_⟩
  rw [Int.natAbs_mul, Int.natAbs_natCast, ← Nat.mul_assoc]
  refine Nat.mul_le_mul_right _ ?_
  have e2 : (d.natAbs : Int) = d := by omega
  exact_mod_cast (e2 ▸ hn : (n.natAbs : Int) ≤ b * (d.natAbs : Int))
theorem dot_dv {L M b c : Nat} (h : L * M ≠ 0) : ∀ {xs ys : List Rat} {s : Rat} {e : Nat}, (∀ x ∈ xs, Dv L b x) → (∀ y ∈ ys, Dv M c y) → Dv (L * M) e s → Dv (L * M) (e + xs.length * (b * c)) (dotQ xs ys s)
  | [], _, s, e, _, _, hs => by simpa [dotQ] using hs
  | x :: xs, [], s, e, _, _, hs => hs.up (Nat.le_add_right _ _)
  | x :: xs, y :: ys, s, e, hx, hy, hs => by
    have q := dot_dv (e := e + b * c) h (fun z m => hx z (List.mem_cons_of_mem _ m)) (fun z m => hy z (List.mem_cons_of_mem _ m)) (hs.add h ((hx x (List.mem_cons_self ..)).mul (hy y (List.mem_cons_self ..))))
    rw [List.length_cons, Nat.add_mul, Nat.one_mul, Nat.add_comm (xs.length * (b * c)), ← Nat.add_assoc]
    exact q
end Fq
namespace Gd
open PySem PySem.Spec PyProof.Rows L2 RZ
open PySem.PyData
/-- data that can be printed: ints of up to 590 bits, at most c cells, at most k deep -/
structure Sn (c k : Nat) (d : PyData) : Prop where
  sh : d.showable = true
  lv : d.leavesShort 600 = true
  bk : d.bulk ≤ c
  dp : d.depth ≤ k
structure SnL (n c k : Nat) (ds : List PyData) : Prop where
  len : ds.length ≤ n
  all : ∀ d ∈ ds, Sn c k d
section
variable {n c k : Nat} {ds : List PyData}
theorem SnL.b (h : SnL n c k ds) : bulkAll ds ≤ n * (c + 1) := Nat.le_trans (bulkAll' fun d m => (h.all d m).bk) (Nat.mul_le_mul_right _ h.len)
theorem SnL.tup (h : SnL n c k ds) : Sn (n * (c + 1)) (k + 1) (.tuple ds) := by
  refine ⟨?_, ?_, ?_, ?_⟩
  · simp only [showable]; exact showAll fun d m => (h.all d m).sh
  · simp only [leavesShort]; exact leavAll fun d m => (h.all d m).lv
  · simp only [bulk]; exact h.b
  · simp only [depth]
    have := depAll' fun d m => (h.all d m).dp
    omega
theorem SnL.lst (h : SnL n c k ds) : Sn (n * (c + 1)) (k + 1) (.list ds) := by
  refine ⟨?_, ?_, ?_, ?_⟩
  · simp only [showable]; exact showAll fun d m => (h.all d m).sh
  · simp only [leavesShort]; exact leavAll fun d m => (h.all d m).lv
  · simp only [bulk]; exact h.b
  · simp only [depth]
    have := depAll' fun d m => (h.all d m).dp
    omega
theorem Sn.up {c' k' : Nat} {d : PyData} (h : Sn c k d) (h1 : c ≤ c') (h2 : k ≤ k') : Sn c' k' d := ⟨h.sh, h.lv, Nat.le_trans h.bk h1, Nat.le_trans h.dp h2⟩
theorem Sn.fits {d : PyData} (h : Sn c k d) (hc : c ≤ 20000) : d.shown.length ≤ sizeLine := by
  have e := shown_le_bulk 600 (by decide) d h.lv
  have e2 : (600 + 2) * d.bulk ≤ 602 * 20000 := Nat.mul_le_mul_left _ (Nat.le_trans h.bk hc)
  rw [sizeLine_eq]
  omega
theorem sn_int {i : Int} (h : i.natAbs < 2 ^ 590) : Sn 0 0 (.int i) := by
  have l : i.natAbs.log2 < 591 := by
    by_cases z : i.natAbs = 0
    · rw [z]; decide
    · exact (Nat.log2_lt z).mpr (Nat.lt_of_lt_of_le h (Nat.pow_le_pow_right (by decide) (by decide)))
  refine ⟨?_, ?_, ?_, ?_⟩
  · simp only [showable, decide_eq_true_eq]
    omega
  · simp only [leavesShort, decide_eq_true_eq]
    have e := int_text_length_le (k := 591) (by decide) l
    rw [shown_int, PySem.ofString_length]
    omega
  · simp [bulk]
  · simp [depth]
theorem Sn.ok {d : PyData} (h : Sn 19000 90 d) : d.showable = true ∧ d.depth ≤ 100 ∧ d.shown.length ≤ sizeLine := ⟨h.sh, Nat.le_trans h.dp (by decide), h.fits (by decide)⟩
theorem sn_bool (b : Bool) : Sn 0 0 (.bool b) := by
  refine ⟨rfl, ?_, ?_, ?_⟩
  · cases b <;> decide +kernel
  · simp [PyData.bulk]
  · simp [PyData.depth]
end
end Gd
namespace Fq
open PySem PySem.Spec PyProof.Rows L2 Gd RZ Dl
theorem sn_q {q : Rat} (h : Bd 590 q) : Sn 2 1 (qD q) := by
  refine SnL.tup (n := 2) (c := 0) (k := 0) ⟨by simp, fun d m => ?_⟩
  simp only [List.mem_cons, List.not_mem_nil, or_false] at m
  rcases m with rfl | rfl
  · exact sn_int h.num
  · exact sn_int (by rw [Int.natAbs_natCast]; exact h.den)
theorem sn_qs {qs : List Rat} {n : Nat} (hn : qs.length ≤ n) (h : ∀ q ∈ qs, Bd 590 q) : Sn (n * 3) 2 (qsD qs) := by
  refine SnL.tup (n := n) (c := 2) (k := 1) ⟨by rw [List.length_map]; exact hn, fun d m => ?_⟩
  obtain ⟨q, hq, rfl⟩ := List.mem_map.mp m
  exact sn_q (h q hq)
theorem o_repr_ok {l : List PyData} (h : Sn 19000 90 (.list l)) : o_repr (.list l) = .ret (.str (PyData.list l).shown) := by
  unfold o_repr
  exact M.gd_true h.ok _
theorem o_repr_okT {l : List PyData} (h : Sn 19000 90 (.tuple l)) : o_repr (.tuple l) = .ret (.str (PyData.tuple l).shown) := by
  unfold o_repr
  exact M.gd_true h.ok _
theorem sn_two {a : PyData} (h : Sn 9000 80 a) : Sn 19000 90 (.list [a, a]) := (SnL.lst (n := 2) (c := 9000) (k := 80) ⟨by simp, fun d m => by
  simp only [List.mem_cons, List.not_mem_nil, or_false] at m
  rcases m with rfl | rfl <;> exact h⟩).up (by decide) (by decide)
end Fq

set_option Elab.async false
set_option linter.all false
set_option maxRecDepth 100000
set_option maxHeartbeats 4000000
set_option autoImplicit false
namespace K2
open PySem PySem.Spec PyProof.Rows L2 RZ Gd Dl
def top (i : Nat) : Stmt := PySem.Challenge.pw_trialground_k28_signs_odd_lots_products.main.body.getD i (.Pass ⟨0, 0, 0, 0⟩)
structure Txt (K : PySem.W.Frag) (mg : Str → Option Value) : Prop where
  n_int : mg "int" = none
  n_len : mg "len" = none
  n_abs : mg "abs" = none
  n_divmod : mg "divmod" = none
  n_range : mg "range" = none
  n_tuple : mg "tuple" = none
  n_list : mg "list" = none
  n_zip : mg "zip" = none
  n_enumerate : mg "enumerate" = none
  n_repr : mg "repr" = none
  n_isinstance : mg "isinstance" = none
  n_all : mg "all" = none
  n_any : mg "any" = none
  n_max : mg "max" = none
  n_min : mg "min" = none
  n_bool : mg "bool" = none
  n_sorted : mg "sorted" = none
  n_set : mg "set" = none
  g_MOST_FACTORS : ∃ t, mg "MOST_FACTORS" = some (.int 6 t)
  g_MOST_WORDS : ∃ t, mg "MOST_WORDS" = some (.int 6 t)
  g_NOTHING_SAID : GDat K mg "NOTHING_SAID" (.tuple [.tuple [], .int 1])
abbrev s_is_whole : Stmt := top 7
def N_is_whole : List Str := ["value"]
def P_is_whole : List Str := ["value"]
theorem sc_is_whole : FnScope N_is_whole P_is_whole (defScope s_is_whole) := ⟨rfl, rfl, rfl, by decide +kernel, rfl, by decide +kernel, by decide +kernel⟩
abbrev s_wrong_in_lot : Stmt := top 9
def N_wrong_in_lot : List Str := ["lot", "many", "ahead", "at", "each"]
def P_wrong_in_lot : List Str := ["lot", "many"]
theorem sc_wrong_in_lot : FnScope N_wrong_in_lot P_wrong_in_lot (defScope s_wrong_in_lot) := ⟨rfl, rfl, rfl, by decide +kernel, rfl, by decide +kernel, by decide +kernel⟩
abbrev s_is_lot : Stmt := top 10
def N_is_lot : List Str := ["value", "many"]
def P_is_lot : List Str := ["value", "many"]
theorem sc_is_lot : FnScope N_is_lot P_is_lot (defScope s_is_lot) := ⟨rfl, rfl, rfl, by decide +kernel, rfl, by decide +kernel, by decide +kernel⟩
abbrev s_effect_sign : Stmt := top 15
def N_effect_sign : List Str := ["run", "effect"]
def P_effect_sign : List Str := ["run", "effect"]
theorem sc_effect_sign : FnScope N_effect_sign P_effect_sign (defScope s_effect_sign) := ⟨rfl, rfl, rfl, by decide +kernel, rfl, by decide +kernel, by decide +kernel⟩
abbrev s_odd_lot : Stmt := top 16
def N_odd_lot : List Str := ["factors", "effect", "other"]
def P_odd_lot : List Str := ["factors", "effect", "other"]
theorem sc_odd_lot : FnScope N_odd_lot P_odd_lot (defScope s_odd_lot) := ⟨rfl, rfl, rfl, by decide +kernel, rfl, by decide +kernel, by decide +kernel⟩
abbrev s_products : Stmt := top 17
def N_products : List Str := ["factors", "words"]
def P_products : List Str := ["factors", "words"]
theorem sc_products : FnScope N_products P_products (defScope s_products) := ⟨rfl, rfl, rfl, by decide +kernel, rfl, by decide +kernel, by decide +kernel⟩
abbrev s_piece : Stmt := top 18
def N_piece : List Str := ["factors", "words"]
def P_piece : List Str := ["factors", "words"]
theorem sc_piece : FnScope N_piece P_piece (defScope s_piece) := ⟨rfl, rfl, rfl, by decide +kernel, rfl, by decide +kernel, by decide +kernel⟩
abbrev s_check_effect : Stmt := top 19
def N_check_effect : List Str := ["factors", "effect", "at"]
def P_check_effect : List Str := ["factors", "effect"]
theorem sc_check_effect : FnScope N_check_effect P_check_effect (defScope s_check_effect) := ⟨rfl, rfl, rfl, by decide +kernel, rfl, by decide +kernel, by decide +kernel⟩
abbrev s_check_words : Stmt := top 20
def N_check_words : List Str := ["factors", "words", "index", "word"]
def P_check_words : List Str := ["factors", "words"]
theorem sc_check_words : FnScope N_check_words P_check_words (defScope s_check_words) := ⟨rfl, rfl, rfl, by decide +kernel, rfl, by decide +kernel, by decide +kernel⟩
abbrev s_is_run : Stmt := top 21
def N_is_run : List Str := ["value", "sign"]
def P_is_run : List Str := ["value"]
theorem sc_is_run : FnScope N_is_run P_is_run (defScope s_is_run) := ⟨rfl, rfl, rfl, by decide +kernel, rfl, by decide +kernel, by decide +kernel⟩
abbrev s_is_sign : Stmt := top 22
def N_is_sign : List Str := ["value"]
def P_is_sign : List Str := ["value"]
theorem sc_is_sign : FnScope N_is_sign P_is_sign (defScope s_is_sign) := ⟨rfl, rfl, rfl, by decide +kernel, rfl, by decide +kernel, by decide +kernel⟩
abbrev s_sign_in : Stmt := top 23
def N_sign_in : List Str := ["run", "effect", "sign", "factor"]
def P_sign_in : List Str := ["run", "effect"]
theorem sc_sign_in : FnScope N_sign_in P_sign_in (defScope s_sign_in) := ⟨rfl, rfl, rfl, by decide +kernel, rfl, by decide +kernel, by decide +kernel⟩
abbrev s_odd_of : Stmt := top 24
def N_odd_of : List Str := ["effect", "other"]
def P_odd_of : List Str := ["effect", "other"]
theorem sc_odd_of : FnScope N_odd_of P_odd_of (defScope s_odd_of) := ⟨rfl, rfl, rfl, by decide +kernel, rfl, by decide +kernel, by decide +kernel⟩
abbrev s_products_of : Stmt := top 25
def N_products_of : List Str := ["words", "found", "word", "more", "each"]
def P_products_of : List Str := ["words"]
theorem sc_products_of : FnScope N_products_of P_products_of (defScope s_products_of) := ⟨rfl, rfl, rfl, by decide +kernel, rfl, by decide +kernel, by decide +kernel⟩
abbrev s_piece_of : Stmt := top 26
def N_piece_of : List Str := ["factors", "words", "runs", "_", "run", "sign"]
def P_piece_of : List Str := ["factors", "words"]
theorem sc_piece_of : FnScope N_piece_of P_piece_of (defScope s_piece_of) := ⟨rfl, rfl, rfl, by decide +kernel, rfl, by decide +kernel, by decide +kernel⟩
abbrev s_agrees : Stmt := top 27
def N_agrees : List Str := ["run", "words", "effect", "sign"]
def P_agrees : List Str := ["run", "words"]
theorem sc_agrees : FnScope N_agrees P_agrees (defScope s_agrees) := ⟨rfl, rfl, rfl, by decide +kernel, rfl, by decide +kernel, by decide +kernel⟩
abbrev s__check_factors : Stmt := top 28
def N__check_factors : List Str := ["factors"]
def P__check_factors : List Str := ["factors"]
theorem sc__check_factors : FnScope N__check_factors P__check_factors (defScope s__check_factors) := ⟨rfl, rfl, rfl, by decide +kernel, rfl, by decide +kernel, by decide +kernel⟩
abbrev s__is_word : Stmt := top 29
def N__is_word : List Str := ["factors", "value", "effect", "sign"]
def P__is_word : List Str := ["factors", "value"]
theorem sc__is_word : FnScope N__is_word P__is_word (defScope s__is_word) := ⟨rfl, rfl, rfl, by decide +kernel, rfl, by decide +kernel, by decide +kernel⟩
abbrev s__joined : Stmt := top 30
def N__joined : List Str := ["made", "word"]
def P__joined : List Str := ["made", "word"]
theorem sc__joined : FnScope N__joined P__joined (defScope s__joined) := ⟨rfl, rfl, rfl, by decide +kernel, rfl, by decide +kernel, by decide +kernel⟩
abbrev s__law_well : Stmt := top 32
def N__law_well : List Str := ["_law_script", "_law_lap", "_law_mixed", "_law_cell", "_law_own"]
def P__law_well : List Str := ["_law_script", "_law_lap"]
theorem sc__law_well : FnScope N__law_well P__law_well (defScope s__law_well) := ⟨rfl, rfl, rfl, by decide +kernel, rfl, by decide +kernel, by decide +kernel⟩
abbrev s__law_draw : Stmt := top 33
def N__law_draw : List Str := ["_law_well_here", "_law_few", "_law_figure", "_law_mixed"]
def P__law_draw : List Str := ["_law_well_here", "_law_few"]
theorem sc__law_draw : FnScope N__law_draw P__law_draw (defScope s__law_draw) := ⟨rfl, rfl, rfl, by decide +kernel, rfl, by decide +kernel, by decide +kernel⟩
abbrev s__law_one : Stmt := top 34
def N__law_one : List Str := ["_law_well_here", "_law_some"]
def P__law_one : List Str := ["_law_well_here", "_law_some"]
theorem sc__law_one : FnScope N__law_one P__law_one (defScope s__law_one) := ⟨rfl, rfl, rfl, by decide +kernel, rfl, by decide +kernel, by decide +kernel⟩
abbrev s__law_run : Stmt := top 35
def N__law_run : List Str := ["_law_well_here", "_law_few", "_law_found", "_law_turn"]
def P__law_run : List Str := ["_law_well_here", "_law_few"]
theorem sc__law_run : FnScope N__law_run P__law_run (defScope s__law_run) := ⟨rfl, rfl, rfl, by decide +kernel, rfl, by decide +kernel, by decide +kernel⟩
abbrev s__law_effect : Stmt := top 36
def N__law_effect : List Str := ["_law_well_here", "_law_few", "_law_found", "_law_at"]
def P__law_effect : List Str := ["_law_well_here", "_law_few"]
theorem sc__law_effect : FnScope N__law_effect P__law_effect (defScope s__law_effect) := ⟨rfl, rfl, rfl, by decide +kernel, rfl, by decide +kernel, by decide +kernel⟩
abbrev s__law_runs : Stmt := top 37
def N__law_runs : List Str := ["_law_few", "_law_found", "_law_turn", "_law_run_here"]
def P__law_runs : List Str := ["_law_few"]
theorem sc__law_runs : FnScope N__law_runs P__law_runs (defScope s__law_runs) := ⟨rfl, rfl, rfl, by decide +kernel, rfl, by decide +kernel, by decide +kernel⟩
abbrev s__law_sign : Stmt := top 38
def N__law_sign : List Str := ["_law_run_here", "_law_effect_here", "_law_found", "_law_at"]
def P__law_sign : List Str := ["_law_run_here", "_law_effect_here"]
theorem sc__law_sign : FnScope N__law_sign P__law_sign (defScope s__law_sign) := ⟨rfl, rfl, rfl, by decide +kernel, rfl, by decide +kernel, by decide +kernel⟩
abbrev s__law_parted : Stmt := top 39
def N__law_parted : List Str := ["_law_one_here", "_law_two", "_law_at"]
def P__law_parted : List Str := ["_law_one_here", "_law_two"]
theorem sc__law_parted : FnScope N__law_parted P__law_parted (defScope s__law_parted) := ⟨rfl, rfl, rfl, by decide +kernel, rfl, by decide +kernel, by decide +kernel⟩
abbrev s__law_made : Stmt := top 40
def N__law_made : List Str := ["_law_words_here", "_law_found", "_law_effect_here", "_law_sign_here", "_law_each", "_law_more"]
def P__law_made : List Str := ["_law_words_here"]
theorem sc__law_made : FnScope N__law_made P__law_made (defScope s__law_made) := ⟨rfl, rfl, rfl, by decide +kernel, rfl, by decide +kernel, by decide +kernel⟩
abbrev s__law_fitting : Stmt := top 41
def N__law_fitting : List Str := ["_law_few", "_law_words_here", "_law_found", "_law_effect_here", "_law_sign_here", "_law_run_here"]
def P__law_fitting : List Str := ["_law_few", "_law_words_here"]
theorem sc__law_fitting : FnScope N__law_fitting P__law_fitting (defScope s__law_fitting) := ⟨rfl, rfl, rfl, by decide +kernel, rfl, by decide +kernel, by decide +kernel⟩
abbrev s__law_words : Stmt := top 42
def N__law_words : List Str := ["_law_well_here", "_law_few", "_law_most", "_law_is_firm", "_law_hidden", "_law_found", "_law_turn", "_law_effect_here"]
def P__law_words : List Str := ["_law_well_here", "_law_few", "_law_most", "_law_is_firm"]
theorem sc__law_words : FnScope N__law_words P__law_words (defScope s__law_words) := ⟨rfl, rfl, rfl, by decide +kernel, rfl, by decide +kernel, by decide +kernel⟩
abbrev s__law_right : Stmt := top 43
def N__law_right : List Str := ["_law_well_here", "_law_turn", "_law_few", "_law_words_here", "_law_run_here", "_law_one_here", "_law_two", "_law_both", "_law_due", "_law_told", "_law_made_here", "_law_found", "_law_more"]
def P__law_right : List Str := ["_law_well_here"]
theorem sc__law_right : FnScope N__law_right P__law_right (defScope s__law_right) := ⟨rfl, rfl, rfl, by decide +kernel, rfl, by decide +kernel, by decide +kernel⟩
abbrev s_law : Stmt := top 44
def N_law : List Str := ["_law_script", "_law_lap"]
def P_law : List Str := ["_law_script"]
theorem sc_law : FnScope N_law P_law (defScope s_law) := ⟨rfl, rfl, rfl, by decide +kernel, rfl, by decide +kernel, by decide +kernel⟩
end K2

set_option Elab.async false
set_option linter.all false
set_option maxRecDepth 100000
set_option maxHeartbeats 4000000
set_option autoImplicit false
namespace K2
open PySem PySem.Spec PyProof.Rows L2 RZ Gd Dl
/-! signs, odd lots, products, pieces: what they come to -/
abbrev Wd := List Int × Int
def lotD (a : List Int) : PyData := .tuple (a.map .int)
def wdD (w : Wd) : PyData := .tuple [lotD w.1, .int w.2]
def wdsD (l : List Wd) : PyData := .tuple (l.map wdD)
def intO : PyData → Int
  | .int i => i
  | _ => 0
def unL : PyData → List Int
  | .tuple ds => ds.map intO
  | _ => []
def unW : PyData → Wd
  | .tuple [a, .int s] => (unL a, s)
  | _ => ([], 1)
def unWs : PyData → List Wd
  | .tuple ds => ds.map unW
  | _ => []
theorem map_id' {α β : Type} {f : α → β} {h : β → α} (e : ∀ a, h (f a) = a) (l : List α) : (l.map f).map h = l := by
  rw [List.map_map]
  conv => rhs; rw [← List.map_id l]
  exact List.map_congr_left fun a _ => e a
@[simp] theorem unL_lot (a : List Int) : unL (lotD a) = a := map_id' (fun _ => rfl) a
@[simp] theorem unW_wd (w : Wd) : unW (wdD w) = w := by
  show (unL (lotD w.1), w.2) = w
  rw [unL_lot]
@[simp] theorem unWs_wds (l : List Wd) : unWs (wdsD l) = l := map_id' unW_wd l
structure Lot (n : Int) (a : List Int) : Prop where
  asc : a.Pairwise (· < ·)
  inn : ∀ k ∈ a, 0 ≤ k ∧ k < n
def Sg1 (s : Int) : Prop := s = 1 ∨ s = -1
structure Run (n : Nat) (r : List Int) : Prop where
  len : r.length = n
  sg : ∀ s ∈ r, Sg1 s
structure Wok (n : Int) (w : Wd) : Prop where
  lot : Lot n w.1
  ne : w.1 ≠ []
  sg : Sg1 w.2
def sgn (r a : List Int) : Int := a.foldl (fun s k => s * r.getD k.toNat 0) 1
def jn (w v : Wd) : Wd := (xorI w.1 v.1, w.2 * v.2)
def grow (l : List Wd) (w : Wd) : List Wd := l ++ (l.map fun x => jn x w).filter fun x => !decide (x ∈ l)
def mkP (ws : List Wd) : List Wd := ws.foldl grow [([], 1)]
def extR (l : List (List Int)) : List (List Int) := l.flatMap fun r => [r ++ [-1], r ++ [1]]
def runsP : Nat → List (List Int)
  | 0 => [[]]
  | n + 1 => extR (runsP n)
def agB (ws : List Wd) (r : List Int) : Bool := ws.all fun w => decide (sgn r w.1 = w.2)
structure WsOk (n : Int) (l : List Wd) : Prop where
  n1 : 1 ≤ n
  n6 : n ≤ 6
  len : l.length ≤ 6
  ok : ∀ w ∈ l, Wok n w
def g_whole : List PyData → M PyData
  | [d] => .ret (.bool (intish d && !boolish d))
  | _ => .fail
def g_sign : List PyData → M PyData
  | [d] => (M.gd (∃ s, d = .int s ∧ Sg1 s)).bind fun _ => .ret (.bool true)
  | _ => .fail
def g_wil : List PyData → M PyData
  | [d, .int n] => (M.gd (∃ a, d = lotD a ∧ Lot n a)).bind fun _ => .ret .none
  | _ => .fail
def g_islot : List PyData → M PyData
  | [d, .int n] => (M.gd (∃ a, d = lotD a ∧ Lot n a)).bind fun _ => .ret (.bool true)
  | _ => .fail
def g_isrun : List PyData → M PyData
  | [d] => (M.gd (∃ n r, d = lotD r ∧ Run n r ∧ 1 ≤ n ∧ n ≤ 6)).bind fun _ => .ret (.bool true)
  | _ => .fail
def g_ceff : List PyData → M PyData
  | [.int n, d] => (M.gd (∃ a, d = lotD a ∧ Lot n a)).bind fun _ => .ret .none
  | _ => .fail
def g_cfac : List PyData → M PyData
  | [.int n] => (M.gd (1 ≤ n ∧ n ≤ 6)).bind fun _ => .ret .none
  | _ => .fail
def g_isword : List PyData → M PyData
  | [.int n, d] => (M.gd (∃ w, d = wdD w ∧ Wok n w)).bind fun _ => .ret (.bool true)
  | _ => .fail
def g_cwords : List PyData → M PyData
  | [.int n, d] => (M.gd (∃ l, d = wdsD l ∧ WsOk n l)).bind fun _ => .ret .none
  | _ => .fail
def g_sin : List PyData → M PyData
  | [x, y] => (M.gd (∃ (n : Nat) (r a : List Int), x = lotD r ∧ y = lotD a ∧ Run n r ∧ Lot n a)).bind fun _ => .ret (.int (sgn (unL x) (unL y)))
  | _ => .fail
def g_odd : List PyData → M PyData
  | [x, y] => (M.gd (∃ a b : List Int, x = lotD a ∧ y = lotD b ∧ small6 a ∧ small6 b)).bind fun _ => .ret (lotD (xorI (unL x) (unL y)))
  | _ => .fail
def g_join : List PyData → M PyData
  | [x, y] => (M.gd (∃ a b : Wd, x = wdD a ∧ y = wdD b ∧ small6 a.1 ∧ small6 b.1 ∧ Sg1 a.2 ∧ Sg1 b.2)).bind fun _ => .ret (wdD (jn (unW x) (unW y)))
  | _ => .fail
def g_prodof : List PyData → M PyData
  | [d] => (M.gd (∃ n l, d = wdsD l ∧ WsOk n l)).bind fun _ => .ret (.list ((mkP (unWs d)).map wdD))
  | _ => .fail
def g_agrees : List PyData → M PyData
  | [x, d] => (M.gd (∃ (n : Nat) (r : List Int) (l : List Wd), x = lotD r ∧ d = wdsD l ∧ WsOk n l ∧ Run n r)).bind fun _ => .ret (.bool (agB (unWs d) (unL x)))
  | _ => .fail
def g_pieceof : List PyData → M PyData
  | [.int n, d] => (M.gd (∃ l, d = wdsD l ∧ WsOk n l)).bind fun _ => .ret (.tuple (((runsP n.toNat).filter (agB (unWs d))).map lotD))
  | _ => .fail
def g_esign : List PyData → M PyData
  | [x, y] => (M.gd (∃ (n : Nat) (r a : List Int), x = lotD r ∧ y = lotD a ∧ Run n r ∧ Lot n a ∧ 1 ≤ n ∧ n ≤ 6)).bind fun _ => .ret (.int (sgn (unL x) (unL y)))
  | _ => .fail
def g_oddlot : List PyData → M PyData
  | [.int n, x, y] => (M.gd (∃ a b : List Int, x = lotD a ∧ y = lotD b ∧ Lot n a ∧ Lot n b ∧ 1 ≤ n ∧ n ≤ 6)).bind fun _ => .ret (lotD (xorI (unL x) (unL y)))
  | _ => .fail
def g_products : List PyData → M PyData
  | [.int n, d] => (M.gd (∃ l, d = wdsD l ∧ WsOk n l)).bind fun _ => .ret (.tuple (srtD ((mkP (unWs d)).map wdD)))
  | _ => .fail
def g_piece := g_pieceof
def bd_is_whole : {m : Sg // ∀ {P : Program} {w : World} {K : PySem.W.Frag} {mg : Str → Option Value} {base : Heap} {f : Addr} {cdv : Value} {A : Around} {outer : List Env} {s : Shared} {H : Hp} {E : XK} {T : Addr → Prop} {W0 : Addr → Prop} {H0 : Hp} (Tx : Txt K mg) (hG : Cl (A.deeper (envOfC "is_whole" (defScope s_is_whole) s.heap.objs.size f cdv))) (hr : Room (1 - 1) (A.deeper (envOfC "is_whole" (defScope s_is_whole) s.heap.objs.size f cdv))),
    PSs (cxOf CX0 P w K mg base N_is_whole "is_whole" (defScope s_is_whole) f cdv A outer s H E).nox (defBody s_is_whole) (tSF (fc K T none W0 H0) m)} :=
  ⟨_, fun {P w K mg base f cdv A outer s H E T W0 H0} Tx hG hr => have hu := hr.units; have hu2 := u150 hr; have nd := sc_is_whole.nd; (sf_one (sf_ret (pf_and (pf_isi (T := "int") rfl rfl Tx.n_isinstance (pg_var (pv 0)) (pe_bltn (v := .ty "int") rfl Tx.n_int (by decide +kernel) rfl)) (pf_one (pf_not (pf_isi (T := "bool") rfl rfl Tx.n_isinstance (pg_var (pv 0)) (pe_bltn (v := .ty "bool") rfl Tx.n_bool (by decide +kernel) rfl)))))))⟩
theorem cal_is_whole {P : Program} {w : World} {K : PySem.W.Frag} {mg : Str → Option Value} {base : Heap} {T : Addr → Prop} (Tx : Txt K mg) (D : Def1 K mg "is_whole" s_is_whole) {g : List PyData → M PyData} (hg : ∀ ds p, ds.length = 1 → (g ds).run p → (fnD 0 bd_is_whole.1 ds).run p) : Cal P w K mg base "is_whole" 1 P_is_whole (spD K T 1 g) := by
  refine D.cal (k := 1-1) sc_is_whole (fun vs H Q E h => h.len) (fun _ _ _ _ _ _ us hl => match us, hl with | [_], _ => rfl) fun f cdv A outer s H vs Q E hG hr h => ?_
  obtain ⟨W0, H0, q⟩ := body_d' (N := N_is_whole) (n := 1) (k := 0) (m := bd_is_whole.1) rfl (h.imp hg)

  exact ⟨_, bd_is_whole.2 Tx hG hr, q⟩
def bd_is_sign : {m : Sg // ∀ {P : Program} {w : World} {K : PySem.W.Frag} {mg : Str → Option Value} {base : Heap} {f : Addr} {cdv : Value} {A : Around} {outer : List Env} {s : Shared} {H : Hp} {E : XK} {T : Addr → Prop} {W0 : Addr → Prop} {H0 : Hp} (Tx : Txt K mg) (c_is_whole : Cal P w K mg base "is_whole" 1 P_is_whole (spD K T 1 g_whole)) (hG : Cl (A.deeper (envOfC "is_sign" (defScope s_is_sign) s.heap.objs.size f cdv))) (hr : Room (2 - 1) (A.deeper (envOfC "is_sign" (defScope s_is_sign) s.heap.objs.size f cdv))),
    PSs (cxOf CX0 P w K mg base N_is_sign "is_sign" (defScope s_is_sign) f cdv A outer s H E).nox (defBody s_is_sign) (tSF (fc K T none W0 H0) m)} :=
  ⟨_, fun {P w K mg base f cdv A outer s H E T W0 H0} Tx c_is_whole hG hr => have hu := hr.units; have hu2 := u150 hr; have nd := sc_is_sign.nd; (sf_one (sf_ret (pf_and (pf_callD (pe_cal c_is_whole hG (hr.mono (by decide)) rfl (paf_cons (pf_var (pv 0)) paf_nil))) (pf_one (pf_cmp (k_eqX (K := K) rfl hu) op2_eqX (pf_g (pf_fn1 (fun ha => pe_callB call_absA rfl Tx.n_abs (by decide +kernel) ha) fn_abs (pg_var (pv 0)))) (pf_g pf_int) (nomark _))))))⟩
theorem cal_is_sign {P : Program} {w : World} {K : PySem.W.Frag} {mg : Str → Option Value} {base : Heap} {T : Addr → Prop} (Tx : Txt K mg) (D : Def1 K mg "is_sign" s_is_sign) (c_is_whole : Cal P w K mg base "is_whole" 1 P_is_whole (spD K T 1 g_whole)) {g : List PyData → M PyData} (hg : ∀ ds p, ds.length = 1 → (g ds).run p → (fnD 0 bd_is_sign.1 ds).run p) : Cal P w K mg base "is_sign" 2 P_is_sign (spD K T 1 g) := by
  refine D.cal (k := 2-1) sc_is_sign (fun vs H Q E h => h.len) (fun _ _ _ _ _ _ us hl => match us, hl with | [_], _ => rfl) fun f cdv A outer s H vs Q E hG hr h => ?_
  obtain ⟨W0, H0, q⟩ := body_d' (N := N_is_sign) (n := 1) (k := 0) (m := bd_is_sign.1) rfl (h.imp hg)

  exact ⟨_, bd_is_sign.2 Tx c_is_whole hG hr, q⟩
def bd_wrong_in_lot : {m : Sg // ∀ {P : Program} {w : World} {K : PySem.W.Frag} {mg : Str → Option Value} {base : Heap} {f : Addr} {cdv : Value} {A : Around} {outer : List Env} {s : Shared} {H : Hp} {E : XK} {T : Addr → Prop} {W0 : Addr → Prop} {H0 : Hp} (Tx : Txt K mg) (c_is_whole : Cal P w K mg base "is_whole" 1 P_is_whole (spD K T 1 g_whole)) (hG : Cl (A.deeper (envOfC "wrong_in_lot" (defScope s_wrong_in_lot) s.heap.objs.size f cdv))) (hr : Room (2 - 1) (A.deeper (envOfC "wrong_in_lot" (defScope s_wrong_in_lot) s.heap.objs.size f cdv))),
    PSs (cxOf CX0 P w K mg base N_wrong_in_lot "wrong_in_lot" (defScope s_wrong_in_lot) f cdv A outer s H E).nox (defBody s_wrong_in_lot) (tSF (fc K T none W0 H0) m)} :=
  ⟨_, fun {P w K mg base f cdv A outer s H E T W0 H0} Tx c_is_whole hG hr => have hu := hr.units; have hu2 := u150 hr; have nd := sc_wrong_in_lot.nd; (sf_cons (sf_set1 (ps_set (i := 2) nd rfl (Or.inl rfl) (pf_un (fun ha => pe_un un_neg ha) fn1_neg (pf_g pf_int)))) (sf_cons (sf_for (ps_for PassesOwn.never rfl (pif_enT (k_enT (K := K) rfl rfl Tx.n_enumerate (pa_one (pf_var (pv 0))))) (pgf_tup (n := 2) rfl rfl (pgsf_cons (pgf_name (pg_name (i := 3) nd rfl (Or.inl rfl))) (pgsf_cons (pgf_name (pg_name (i := 4) nd rfl (Or.inl rfl))) pgsf_nil))) (sf_cons (sf_if (PW.pt (pwf_or (ptf_not (ptf_val (pf_callD (pe_cal c_is_whole hG (hr.mono (by decide)) rfl (paf_cons (pf_var (pv 4)) paf_nil))))) (pwf_or1 (ptf_not (ptf_chn op_ltA op_ltA op2_lt op2_lt (pg_var (pv 2)) (pg_var (pv 4)) (pg_var (pv 1))))))) (sf_one (sf_ret (pf_var (pv 3)))) sf_nil) (sf_one (sf_set1 (ps_set (i := 2) nd rfl (Or.inl rfl) (pf_var (pv 4)))))))) (sf_one (sf_ret pf_non))))⟩
theorem cal_wrong_in_lot {P : Program} {w : World} {K : PySem.W.Frag} {mg : Str → Option Value} {base : Heap} {T : Addr → Prop} (Tx : Txt K mg) (D : Def1 K mg "wrong_in_lot" s_wrong_in_lot) (c_is_whole : Cal P w K mg base "is_whole" 1 P_is_whole (spD K T 1 g_whole)) {g : List PyData → M PyData} (hg : ∀ ds p, ds.length = 2 → (g ds).run p → (fnD 3 bd_wrong_in_lot.1 ds).run p) : Cal P w K mg base "wrong_in_lot" 2 P_wrong_in_lot (spD K T 2 g) := by
  refine D.cal (k := 2-1) sc_wrong_in_lot (fun vs H Q E h => h.len) (fun _ _ _ _ _ _ us hl => match us, hl with | [_, _], _ => rfl) fun f cdv A outer s H vs Q E hG hr h => ?_
  obtain ⟨W0, H0, q⟩ := body_d' (N := N_wrong_in_lot) (n := 2) (k := 3) (m := bd_wrong_in_lot.1) rfl (h.imp hg)

  exact ⟨_, bd_wrong_in_lot.2 Tx c_is_whole hG hr, q⟩
def bd_is_lot : {m : Sg // ∀ {P : Program} {w : World} {K : PySem.W.Frag} {mg : Str → Option Value} {base : Heap} {f : Addr} {cdv : Value} {A : Around} {outer : List Env} {s : Shared} {H : Hp} {E : XK} {T : Addr → Prop} {W0 : Addr → Prop} {H0 : Hp} (Tx : Txt K mg) (c_wrong_in_lot : Cal P w K mg base "wrong_in_lot" 2 P_wrong_in_lot (spD K T 2 g_wil)) (hG : Cl (A.deeper (envOfC "is_lot" (defScope s_is_lot) s.heap.objs.size f cdv))) (hr : Room (3 - 1) (A.deeper (envOfC "is_lot" (defScope s_is_lot) s.heap.objs.size f cdv))),
    PSs (cxOf CX0 P w K mg base N_is_lot "is_lot" (defScope s_is_lot) f cdv A outer s H E).nox (defBody s_is_lot) (tSF (fc K T none W0 H0) m)} :=
  ⟨_, fun {P w K mg base f cdv A outer s H E T W0 H0} Tx c_wrong_in_lot hG hr => have hu := hr.units; have hu2 := u150 hr; have nd := sc_is_lot.nd; (sf_one (sf_ret (pf_and (pf_isi (T := "tuple") rfl rfl Tx.n_isinstance (pg_var (pv 0)) (pe_bltn (v := .ty "tuple") rfl Tx.n_tuple (by decide +kernel) rfl)) (pf_one (pf_cmp op_isN op2_isN (pf_g (pf_callD (pe_cal c_wrong_in_lot hG (hr.mono (by decide)) rfl (paf_cons (pf_var (pv 0)) (paf_cons (pf_var (pv 1)) paf_nil))))) (pf_g pf_non) (nomark _))))))⟩
theorem cal_is_lot {P : Program} {w : World} {K : PySem.W.Frag} {mg : Str → Option Value} {base : Heap} {T : Addr → Prop} (Tx : Txt K mg) (D : Def1 K mg "is_lot" s_is_lot) (c_wrong_in_lot : Cal P w K mg base "wrong_in_lot" 2 P_wrong_in_lot (spD K T 2 g_wil)) {g : List PyData → M PyData} (hg : ∀ ds p, ds.length = 2 → (g ds).run p → (fnD 0 bd_is_lot.1 ds).run p) : Cal P w K mg base "is_lot" 3 P_is_lot (spD K T 2 g) := by
  refine D.cal (k := 3-1) sc_is_lot (fun vs H Q E h => h.len) (fun _ _ _ _ _ _ us hl => match us, hl with | [_, _], _ => rfl) fun f cdv A outer s H vs Q E hG hr h => ?_
  obtain ⟨W0, H0, q⟩ := body_d' (N := N_is_lot) (n := 2) (k := 0) (m := bd_is_lot.1) rfl (h.imp hg)

  exact ⟨_, bd_is_lot.2 Tx c_wrong_in_lot hG hr, q⟩
def bd_is_run : {m : Sg // ∀ {P : Program} {w : World} {K : PySem.W.Frag} {mg : Str → Option Value} {base : Heap} {f : Addr} {cd TP : Addr} {A : Around} {outer : List Env} {s : Shared} {H : Hp} {E : XK} {T : Addr → Prop} {W0 : Addr → Prop} {H0 : Hp} (Tx : Txt K mg) (c_is_sign : Cal P w K mg base "is_sign" 2 P_is_sign (spD K T 1 g_sign)) (TB : GxR.TabB base mg cd TP) (hP : T TP) (hG : Cl (A.deeper (envOfC "is_run" (defScope s_is_run) s.heap.objs.size f (.ref cd)))) (hr : Room (4 - 1) (A.deeper (envOfC "is_run" (defScope s_is_run) s.heap.objs.size f (.ref cd)))),
    PSs (cxOf CX0 P w K mg base N_is_run "is_run" (defScope s_is_run) f (.ref cd) A outer s H E).nox (defBody s_is_run) (tSF (fc K T none W0 H0) m)} :=
  ⟨_, fun {P w K mg base f cd TP A outer s H E T W0 H0} Tx c_is_sign TB hP hG hr => have hu := hr.units; have hu2 := u150 hr; have nd := sc_is_run.nd; (sf_one (sf_ret (pf_and (pf_isi (T := "tuple") rfl rfl Tx.n_isinstance (pg_var (pv 0)) (pe_bltn (v := .ty "tuple") rfl Tx.n_tuple (by decide +kernel) rfl)) (pf_and (pf_chn op_leA op_leA op2_le op2_le (pf_g pf_int) (pf_g (pf_fn1 (fun ha => pe_callB (k_len (K := K) rfl) rfl Tx.n_len (by decide +kernel) ha) fn_len (pg_var (pv 0)))) (pf_g (pf_gint rfl Tx.g_MOST_FACTORS))) (pf_one (pf_ag (b0 := true) (caps := []) (pe_allG (ys := []) hr rfl Tx.n_all (by decide +kernel) TB rfl (gens_of (n := s.heap.objs.size + 1) (dsc := defScope s_is_run) rfl rfl (by decide +kernel) rfl rfl (by decide +kernel) rfl) (pf_var (pv 0)) (fun _ => rfl) (caps_of (by with_unfolding_all rfl)) (fun _ _ _ _ _ _ _ => pgf_name (pg_name (i := 0) (show (["sign"] : List Str).Nodup by decide +kernel) rfl (Or.inl rfl))) (fun A2 s4 H2 it L code bi hA => have hG := cl_eq hA hG; have hr := room_eq hA hr; have hu := hr.units; have hu2 := u150 hr; (pf_callD (pe_cal c_is_sign hG (hr.mono (by decide)) rfl (paf_cons (pf_var (pv 0)) paf_nil))))) hP))))))⟩
theorem cal_is_run {P : Program} {w : World} {K : PySem.W.Frag} {mg : Str → Option Value} {base : Heap} {T : Addr → Prop} (Tx : Txt K mg) (D : DefT T base K mg "is_run" s_is_run) (c_is_sign : Cal P w K mg base "is_sign" 2 P_is_sign (spD K T 1 g_sign)) {g : List PyData → M PyData} (hg : ∀ ds p, ds.length = 1 → (g ds).run p → (fnD 1 bd_is_run.1 ds).run p) : Cal P w K mg base "is_run" 4 P_is_run (spD K T 1 g) := by
  refine FnG.ok2 D (k := 4-1) sc_is_run (fun vs H Q E h => h.len) (fun _ _ _ _ _ _ us hl => match us, hl with | [_], _ => rfl) fun f cdv A outer s H vs Q E hG hr hc h => ?_
  obtain ⟨W0, H0, q⟩ := body_d' (N := N_is_run) (n := 1) (k := 1) (m := bd_is_run.1) rfl (h.imp hg)
  obtain ⟨cd, TP, hP, rfl, TB⟩ := hc
  exact ⟨_, bd_is_run.2 Tx c_is_sign TB hP hG hr, q⟩
def bd_check_effect : {m : Sg // ∀ {P : Program} {w : World} {K : PySem.W.Frag} {mg : Str → Option Value} {base : Heap} {f : Addr} {cdv : Value} {A : Around} {outer : List Env} {s : Shared} {H : Hp} {E : XK} {T : Addr → Prop} {W0 : Addr → Prop} {H0 : Hp} (Tx : Txt K mg) (c_wrong_in_lot : Cal P w K mg base "wrong_in_lot" 2 P_wrong_in_lot (spD K T 2 g_wil)) (hG : Cl (A.deeper (envOfC "check_effect" (defScope s_check_effect) s.heap.objs.size f cdv))) (hr : Room (3 - 1) (A.deeper (envOfC "check_effect" (defScope s_check_effect) s.heap.objs.size f cdv))),
    PSs (cxOf CX0 P w K mg base N_check_effect "check_effect" (defScope s_check_effect) f cdv A outer s H E).nox (defBody s_check_effect) (tSF (fc K T none W0 H0) m)} :=
  ⟨_, fun {P w K mg base f cdv A outer s H E T W0 H0} Tx c_wrong_in_lot hG hr => have hu := hr.units; have hu2 := u150 hr; have nd := sc_check_effect.nd; (sf_cons (sf_if (ptf_not (ptf_val (pf_isi (T := "tuple") rfl rfl Tx.n_isinstance (pg_var (pv 1)) (pe_bltn (v := .ty "tuple") rfl Tx.n_tuple (by decide +kernel) rfl)))) (sf_one sf_never) sf_nil) (sf_cons (sf_set1 (ps_set (i := 2) nd rfl (Or.inl rfl) (pf_callD (pe_cal c_wrong_in_lot hG (hr.mono (by decide)) rfl (paf_cons (pf_var (pv 1)) (paf_cons (pf_var (pv 0)) paf_nil)))))) (sf_one (sf_if (ptf_cmp op_notN op2_notN (pg_var (pv 2)) (pf_g pf_non) (nomark _)) (sf_one sf_never) sf_nil))))⟩
theorem cal_check_effect {P : Program} {w : World} {K : PySem.W.Frag} {mg : Str → Option Value} {base : Heap} {T : Addr → Prop} (Tx : Txt K mg) (D : Def1 K mg "check_effect" s_check_effect) (c_wrong_in_lot : Cal P w K mg base "wrong_in_lot" 2 P_wrong_in_lot (spD K T 2 g_wil)) {g : List PyData → M PyData} (hg : ∀ ds p, ds.length = 2 → (g ds).run p → (fnD 1 bd_check_effect.1 ds).run p) : Cal P w K mg base "check_effect" 3 P_check_effect (spD K T 2 g) := by
  refine D.cal (k := 3-1) sc_check_effect (fun vs H Q E h => h.len) (fun _ _ _ _ _ _ us hl => match us, hl with | [_, _], _ => rfl) fun f cdv A outer s H vs Q E hG hr h => ?_
  obtain ⟨W0, H0, q⟩ := body_d' (N := N_check_effect) (n := 2) (k := 1) (m := bd_check_effect.1) rfl (h.imp hg)

  exact ⟨_, bd_check_effect.2 Tx c_wrong_in_lot hG hr, q⟩
def bd__check_factors : {m : Sg // ∀ {P : Program} {w : World} {K : PySem.W.Frag} {mg : Str → Option Value} {base : Heap} {f : Addr} {cdv : Value} {A : Around} {outer : List Env} {s : Shared} {H : Hp} {E : XK} {T : Addr → Prop} {W0 : Addr → Prop} {H0 : Hp} (Tx : Txt K mg) (c_is_whole : Cal P w K mg base "is_whole" 1 P_is_whole (spD K T 1 g_whole)) (hG : Cl (A.deeper (envOfC "_check_factors" (defScope s__check_factors) s.heap.objs.size f cdv))) (hr : Room (2 - 1) (A.deeper (envOfC "_check_factors" (defScope s__check_factors) s.heap.objs.size f cdv))),
    PSs (cxOf CX0 P w K mg base N__check_factors "_check_factors" (defScope s__check_factors) f cdv A outer s H E).nox (defBody s__check_factors) (tSF (fc K T none W0 H0) m)} :=
  ⟨_, fun {P w K mg base f cdv A outer s H E T W0 H0} Tx c_is_whole hG hr => have hu := hr.units; have hu2 := u150 hr; have nd := sc__check_factors.nd; (sf_one (sf_if (PW.pt (pwf_or (ptf_not (ptf_val (pf_callD (pe_cal c_is_whole hG (hr.mono (by decide)) rfl (paf_cons (pf_var (pv 0)) paf_nil))))) (pwf_or1 (ptf_not (ptf_chn op_leA op_leA op2_le op2_le (pf_g pf_int) (pg_var (pv 0)) (pf_g (pf_gint rfl Tx.g_MOST_FACTORS))))))) (sf_one sf_never) sf_nil))⟩
theorem cal__check_factors {P : Program} {w : World} {K : PySem.W.Frag} {mg : Str → Option Value} {base : Heap} {T : Addr → Prop} (Tx : Txt K mg) (D : Def1 K mg "_check_factors" s__check_factors) (c_is_whole : Cal P w K mg base "is_whole" 1 P_is_whole (spD K T 1 g_whole)) {g : List PyData → M PyData} (hg : ∀ ds p, ds.length = 1 → (g ds).run p → (fnD 0 bd__check_factors.1 ds).run p) : Cal P w K mg base "_check_factors" 2 P__check_factors (spD K T 1 g) := by
  refine D.cal (k := 2-1) sc__check_factors (fun vs H Q E h => h.len) (fun _ _ _ _ _ _ us hl => match us, hl with | [_], _ => rfl) fun f cdv A outer s H vs Q E hG hr h => ?_
  obtain ⟨W0, H0, q⟩ := body_d' (N := N__check_factors) (n := 1) (k := 0) (m := bd__check_factors.1) rfl (h.imp hg)

  exact ⟨_, bd__check_factors.2 Tx c_is_whole hG hr, q⟩
def bd__is_word : {m : Sg // ∀ {P : Program} {w : World} {K : PySem.W.Frag} {mg : Str → Option Value} {base : Heap} {f : Addr} {cdv : Value} {A : Around} {outer : List Env} {s : Shared} {H : Hp} {E : XK} {T : Addr → Prop} {W0 : Addr → Prop} {H0 : Hp} (Tx : Txt K mg) (c_is_lot : Cal P w K mg base "is_lot" 3 P_is_lot (spD K T 2 g_islot)) (c_is_sign : Cal P w K mg base "is_sign" 2 P_is_sign (spD K T 1 g_sign)) (hG : Cl (A.deeper (envOfC "_is_word" (defScope s__is_word) s.heap.objs.size f cdv))) (hr : Room (4 - 1) (A.deeper (envOfC "_is_word" (defScope s__is_word) s.heap.objs.size f cdv))),
    PSs (cxOf CX0 P w K mg base N__is_word "_is_word" (defScope s__is_word) f cdv A outer s H E).nox (defBody s__is_word) (tSF (fc K T none W0 H0) m)} :=
  ⟨_, fun {P w K mg base f cdv A outer s H E T W0 H0} Tx c_is_lot c_is_sign hG hr => have hu := hr.units; have hu2 := u150 hr; have nd := sc__is_word.nd; (sf_cons (sf_if (PW.pt (pwf_or (ptf_not (ptf_val (pf_isi (T := "tuple") rfl rfl Tx.n_isinstance (pg_var (pv 1)) (pe_bltn (v := .ty "tuple") rfl Tx.n_tuple (by decide +kernel) rfl)))) (pwf_or1 (ptf_cmp (k_neX (K := K) rfl hu) op2_neX (pf_g (pf_fn1 (fun ha => pe_callB (k_len (K := K) rfl) rfl Tx.n_len (by decide +kernel) ha) fn_len (pg_var (pv 1)))) (pf_g pf_int) (nomark _))))) (sf_one (sf_ret pf_bl)) sf_nil) (sf_cons (sf_asg (pf_var (pv 1)) (pgf_tup (n := 2) rfl rfl (pgsf_cons (pgf_name (pg_name (i := 2) nd rfl (Or.inl rfl))) (pgsf_cons (pgf_name (pg_name (i := 3) nd rfl (Or.inl rfl))) pgsf_nil)))) (sf_one (sf_ret (pf_and (pf_callD (pe_cal c_is_lot hG (hr.mono (by decide)) rfl (paf_cons (pf_var (pv 2)) (paf_cons (pf_var (pv 0)) paf_nil)))) (pf_and (pf_cmp op_gtA op2_gt (pf_g (pf_fn1 (fun ha => pe_callB (k_len (K := K) rfl) rfl Tx.n_len (by decide +kernel) ha) fn_len (pg_var (pv 2)))) (pf_g pf_int) (nomark _)) (pf_one (pf_callD (pe_cal c_is_sign hG (hr.mono (by decide)) rfl (paf_cons (pf_var (pv 3)) paf_nil))))))))))⟩
theorem cal__is_word {P : Program} {w : World} {K : PySem.W.Frag} {mg : Str → Option Value} {base : Heap} {T : Addr → Prop} (Tx : Txt K mg) (D : Def1 K mg "_is_word" s__is_word) (c_is_lot : Cal P w K mg base "is_lot" 3 P_is_lot (spD K T 2 g_islot)) (c_is_sign : Cal P w K mg base "is_sign" 2 P_is_sign (spD K T 1 g_sign)) {g : List PyData → M PyData} (hg : ∀ ds p, ds.length = 2 → (g ds).run p → (fnD 2 bd__is_word.1 ds).run p) : Cal P w K mg base "_is_word" 4 P__is_word (spD K T 2 g) := by
  refine D.cal (k := 4-1) sc__is_word (fun vs H Q E h => h.len) (fun _ _ _ _ _ _ us hl => match us, hl with | [_, _], _ => rfl) fun f cdv A outer s H vs Q E hG hr h => ?_
  obtain ⟨W0, H0, q⟩ := body_d' (N := N__is_word) (n := 2) (k := 2) (m := bd__is_word.1) rfl (h.imp hg)

  exact ⟨_, bd__is_word.2 Tx c_is_lot c_is_sign hG hr, q⟩
def bd_check_words : {m : Sg // ∀ {P : Program} {w : World} {K : PySem.W.Frag} {mg : Str → Option Value} {base : Heap} {f : Addr} {cdv : Value} {A : Around} {outer : List Env} {s : Shared} {H : Hp} {E : XK} {T : Addr → Prop} {W0 : Addr → Prop} {H0 : Hp} (Tx : Txt K mg) (c__check_factors : Cal P w K mg base "_check_factors" 2 P__check_factors (spD K T 1 g_cfac)) (c__is_word : Cal P w K mg base "_is_word" 4 P__is_word (spD K T 2 g_isword)) (hG : Cl (A.deeper (envOfC "check_words" (defScope s_check_words) s.heap.objs.size f cdv))) (hr : Room (5 - 1) (A.deeper (envOfC "check_words" (defScope s_check_words) s.heap.objs.size f cdv))),
    PSs (cxOf CX0 P w K mg base N_check_words "check_words" (defScope s_check_words) f cdv A outer s H E).nox (defBody s_check_words) (tSF (fc K T none W0 H0) m)} :=
  ⟨_, fun {P w K mg base f cdv A outer s H E T W0 H0} Tx c__check_factors c__is_word hG hr => have hu := hr.units; have hu2 := u150 hr; have nd := sc_check_words.nd; (sf_cons (sf_expr (pf_callD (pe_cal c__check_factors hG (hr.mono (by decide)) rfl (paf_cons (pf_var (pv 0)) paf_nil)))) (sf_cons (sf_if (PW.pt (pwf_or (ptf_not (ptf_val (pf_isi (T := "tuple") rfl rfl Tx.n_isinstance (pg_var (pv 1)) (pe_bltn (v := .ty "tuple") rfl Tx.n_tuple (by decide +kernel) rfl)))) (pwf_or1 (ptf_cmp op_gtA op2_gt (pf_g (pf_fn1 (fun ha => pe_callB (k_len (K := K) rfl) rfl Tx.n_len (by decide +kernel) ha) fn_len (pg_var (pv 1)))) (pf_g (pf_gint rfl Tx.g_MOST_WORDS)) (nomark _))))) (sf_one sf_never) sf_nil) (sf_one (sf_for (ps_for PassesOwn.never rfl (pif_enT (k_enT (K := K) rfl rfl Tx.n_enumerate (pa_one (pf_var (pv 1))))) (pgf_tup (n := 2) rfl rfl (pgsf_cons (pgf_name (pg_name (i := 2) nd rfl (Or.inl rfl))) (pgsf_cons (pgf_name (pg_name (i := 3) nd rfl (Or.inl rfl))) pgsf_nil))) (sf_one (sf_if (ptf_not (ptf_val (pf_callD (pe_cal c__is_word hG (hr.mono (by decide)) rfl (paf_cons (pf_var (pv 0)) (paf_cons (pf_var (pv 3)) paf_nil)))))) (sf_one sf_never) sf_nil)))))))⟩
theorem cal_check_words {P : Program} {w : World} {K : PySem.W.Frag} {mg : Str → Option Value} {base : Heap} {T : Addr → Prop} (Tx : Txt K mg) (D : Def1 K mg "check_words" s_check_words) (c__check_factors : Cal P w K mg base "_check_factors" 2 P__check_factors (spD K T 1 g_cfac)) (c__is_word : Cal P w K mg base "_is_word" 4 P__is_word (spD K T 2 g_isword)) {g : List PyData → M PyData} (hg : ∀ ds p, ds.length = 2 → (g ds).run p → (fnD 2 bd_check_words.1 ds).run p) : Cal P w K mg base "check_words" 5 P_check_words (spD K T 2 g) := by
  refine D.cal (k := 5-1) sc_check_words (fun vs H Q E h => h.len) (fun _ _ _ _ _ _ us hl => match us, hl with | [_, _], _ => rfl) fun f cdv A outer s H vs Q E hG hr h => ?_
  obtain ⟨W0, H0, q⟩ := body_d' (N := N_check_words) (n := 2) (k := 2) (m := bd_check_words.1) rfl (h.imp hg)

  exact ⟨_, bd_check_words.2 Tx c__check_factors c__is_word hG hr, q⟩
def bd_sign_in : {m : Sg // ∀ {P : Program} {w : World} {K : PySem.W.Frag} {mg : Str → Option Value} {base : Heap} {f : Addr} {cdv : Value} {A : Around} {outer : List Env} {s : Shared} {H : Hp} {E : XK} {T : Addr → Prop} {W0 : Addr → Prop} {H0 : Hp} (Tx : Txt K mg) (hG : Cl (A.deeper (envOfC "sign_in" (defScope s_sign_in) s.heap.objs.size f cdv))) (hr : Room (1 - 1) (A.deeper (envOfC "sign_in" (defScope s_sign_in) s.heap.objs.size f cdv))),
    PSs (cxOf CX0 P w K mg base N_sign_in "sign_in" (defScope s_sign_in) f cdv A outer s H E).nox (defBody s_sign_in) (tSF (fc K T none W0 H0) m)} :=
  ⟨_, fun {P w K mg base f cdv A outer s H E T W0 H0} Tx hG hr => have hu := hr.units; have hu2 := u150 hr; have nd := sc_sign_in.nd; (sf_cons (sf_set1 (ps_set (i := 2) nd rfl (Or.inl rfl) pf_int)) (sf_cons (sf_for (ps_for PassesOwn.never rfl (pif_tup rfl (pf_var (pv 1))) (pgf_name (pg_name (i := 3) nd rfl (Or.inl rfl))) (sf_one (sf_set1 (ps_set (i := 2) nd rfl (Or.inl rfl) (pf_op (fun ha hb => pe_op (k_mulX (K := K) rfl) ha hb) op2_mulX (pg_var (pv 2)) (pf_g (pf_ix (k_ix (K := K) rfl) op2_ix (pg_var (pv 0)) (pg_var (pv 3)) (fun _ _ => rfl))))))))) (sf_one (sf_ret (pf_var (pv 2))))))⟩
theorem cal_sign_in {P : Program} {w : World} {K : PySem.W.Frag} {mg : Str → Option Value} {base : Heap} {T : Addr → Prop} (Tx : Txt K mg) (D : Def1 K mg "sign_in" s_sign_in) {g : List PyData → M PyData} (hg : ∀ ds p, ds.length = 2 → (g ds).run p → (fnD 2 bd_sign_in.1 ds).run p) : Cal P w K mg base "sign_in" 1 P_sign_in (spD K T 2 g) := by
  refine D.cal (k := 1-1) sc_sign_in (fun vs H Q E h => h.len) (fun _ _ _ _ _ _ us hl => match us, hl with | [_, _], _ => rfl) fun f cdv A outer s H vs Q E hG hr h => ?_
  obtain ⟨W0, H0, q⟩ := body_d' (N := N_sign_in) (n := 2) (k := 2) (m := bd_sign_in.1) rfl (h.imp hg)

  exact ⟨_, bd_sign_in.2 Tx hG hr, q⟩
def bd_odd_of : {m : Sg // ∀ {P : Program} {w : World} {K : PySem.W.Frag} {mg : Str → Option Value} {base : Heap} {f : Addr} {cdv : Value} {A : Around} {outer : List Env} {s : Shared} {H : Hp} {E : XK} {T : Addr → Prop} {W0 : Addr → Prop} {H0 : Hp} (Tx : Txt K mg) (hG : Cl (A.deeper (envOfC "odd_of" (defScope s_odd_of) s.heap.objs.size f cdv))) (hr : Room (1 - 1) (A.deeper (envOfC "odd_of" (defScope s_odd_of) s.heap.objs.size f cdv))),
    PSs (cxOf CX0 P w K mg base N_odd_of "odd_of" (defScope s_odd_of) f cdv A outer s H E).nox (defBody s_odd_of) (tSF (fc K T none W0 H0) m)} :=
  ⟨_, fun {P w K mg base f cdv A outer s H E T W0 H0} Tx hG hr => have hu := hr.units; have hu2 := u150 hr; have nd := sc_odd_of.nd; (sf_one (sf_ret (pf_fn1 (fun ha => pe_callTy (k_tupT (K := K) rfl) rfl Tx.n_tuple (by decide +kernel) ha) fn_tuple (pf_g (pf_xor rfl rfl rfl Tx.n_sorted rfl Tx.n_set (pf_var (pv 0)) (pf_var (pv 1)))))))⟩
theorem cal_odd_of {P : Program} {w : World} {K : PySem.W.Frag} {mg : Str → Option Value} {base : Heap} {T : Addr → Prop} (Tx : Txt K mg) (D : Def1 K mg "odd_of" s_odd_of) {g : List PyData → M PyData} (hg : ∀ ds p, ds.length = 2 → (g ds).run p → (fnD 0 bd_odd_of.1 ds).run p) : Cal P w K mg base "odd_of" 1 P_odd_of (spD K T 2 g) := by
  refine D.cal (k := 1-1) sc_odd_of (fun vs H Q E h => h.len) (fun _ _ _ _ _ _ us hl => match us, hl with | [_, _], _ => rfl) fun f cdv A outer s H vs Q E hG hr h => ?_
  obtain ⟨W0, H0, q⟩ := body_d' (N := N_odd_of) (n := 2) (k := 0) (m := bd_odd_of.1) rfl (h.imp hg)

  exact ⟨_, bd_odd_of.2 Tx hG hr, q⟩
def bd__joined : {m : Sg // ∀ {P : Program} {w : World} {K : PySem.W.Frag} {mg : Str → Option Value} {base : Heap} {f : Addr} {cdv : Value} {A : Around} {outer : List Env} {s : Shared} {H : Hp} {E : XK} {T : Addr → Prop} {W0 : Addr → Prop} {H0 : Hp} (Tx : Txt K mg) (c_odd_of : Cal P w K mg base "odd_of" 1 P_odd_of (spD K T 2 g_odd)) (hG : Cl (A.deeper (envOfC "_joined" (defScope s__joined) s.heap.objs.size f cdv))) (hr : Room (2 - 1) (A.deeper (envOfC "_joined" (defScope s__joined) s.heap.objs.size f cdv))),
    PSs (cxOf CX0 P w K mg base N__joined "_joined" (defScope s__joined) f cdv A outer s H E).nox (defBody s__joined) (tSF (fc K T none W0 H0) m)} :=
  ⟨_, fun {P w K mg base f cdv A outer s H E T W0 H0} Tx c_odd_of hG hr => have hu := hr.units; have hu2 := u150 hr; have nd := sc__joined.nd; (sf_one (sf_ret (pf_tup (paf_cons (pf_callD (pe_cal c_odd_of hG (hr.mono (by decide)) rfl (paf_cons (pf_ix (k_ix (K := K) rfl) op2_ix (pg_var (pv 0)) (pf_g pf_int) (fun _ _ => rfl)) (paf_cons (pf_ix (k_ix (K := K) rfl) op2_ix (pg_var (pv 1)) (pf_g pf_int) (fun _ _ => rfl)) paf_nil)))) (paf_cons (pf_op (fun ha hb => pe_op (k_mulX (K := K) rfl) ha hb) op2_mulX (pf_g (pf_ix (k_ix (K := K) rfl) op2_ix (pg_var (pv 0)) (pf_g pf_int) (fun _ _ => rfl))) (pf_g (pf_ix (k_ix (K := K) rfl) op2_ix (pg_var (pv 1)) (pf_g pf_int) (fun _ _ => rfl)))) paf_nil)))))⟩
theorem cal__joined {P : Program} {w : World} {K : PySem.W.Frag} {mg : Str → Option Value} {base : Heap} {T : Addr → Prop} (Tx : Txt K mg) (D : Def1 K mg "_joined" s__joined) (c_odd_of : Cal P w K mg base "odd_of" 1 P_odd_of (spD K T 2 g_odd)) {g : List PyData → M PyData} (hg : ∀ ds p, ds.length = 2 → (g ds).run p → (fnD 0 bd__joined.1 ds).run p) : Cal P w K mg base "_joined" 2 P__joined (spD K T 2 g) := by
  refine D.cal (k := 2-1) sc__joined (fun vs H Q E h => h.len) (fun _ _ _ _ _ _ us hl => match us, hl with | [_, _], _ => rfl) fun f cdv A outer s H vs Q E hG hr h => ?_
  obtain ⟨W0, H0, q⟩ := body_d' (N := N__joined) (n := 2) (k := 0) (m := bd__joined.1) rfl (h.imp hg)

  exact ⟨_, bd__joined.2 Tx c_odd_of hG hr, q⟩
end K2

set_option Elab.async false
set_option linter.all false
set_option maxRecDepth 100000
set_option maxHeartbeats 4000000
set_option autoImplicit false
namespace K2
open PySem PySem.Spec PyProof.Rows L2 RZ Gd Dl
def bd_products_of : {m : Sg // ∀ {P : Program} {w : World} {K : PySem.W.Frag} {mg : Str → Option Value} {base : Heap} {f : Addr} {cdv : Value} {A : Around} {outer : List Env} {s : Shared} {H : Hp} {E : XK} {T : Addr → Prop} {W0 : Addr → Prop} {H0 : Hp} (Tx : Txt K mg) (c__joined : Cal P w K mg base "_joined" 2 P__joined (spD K T 2 g_join)) (hG : Cl (A.deeper (envOfC "products_of" (defScope s_products_of) s.heap.objs.size f cdv))) (hr : Room (3 - 1) (A.deeper (envOfC "products_of" (defScope s_products_of) s.heap.objs.size f cdv))),
    PSs (cxOf CX0 P w K mg base N_products_of "products_of" (defScope s_products_of) f cdv A outer s H E).nox (defBody s_products_of) (tSF (fc K T none W0 H0) m)} :=
  ⟨_, fun {P w K mg base f cdv A outer s H E T W0 H0} Tx c__joined hG hr => have hu := hr.units; have hu2 := u150 hr; have nd := sc_products_of.nd; (sf_cons (sf_set1 (ps_set (i := 1) nd rfl (Or.inr rfl) (pf_lst (paf_cons (pf_gdat rfl Tx.g_NOTHING_SAID) paf_nil)))) (sf_cons (sf_for (ps_for PassesOwn.never rfl (pif_tup rfl (pf_var (pv 0))) (pgf_name (pg_name (i := 2) nd rfl (Or.inr rfl))) (sf_cons (sf_setLc (ps_setLc (i := 3) (own := [("each", 4)]) (by rfl) nd rfl rfl (sw_true rfl rfl rfl (by decide +kernel)) (pif_list rfl (pf_var (pv 1))) (blkOk_by (own := [("each", 4)]) (N := N_products_of) (sc := defScope s_products_of) (by decide +kernel)) (fun _ _ _ _ _ => (pgf_name (pg_name (i := 4) nd rfl (Or.inl rfl)))) (fun _ _ _ _ _ => ptsf_nil) (fun _ _ _ _ _ => (pf_callD (pe_cal c__joined hG (hr.mono (by decide)) rfl (paf_cons (pf_var (pv 4)) (paf_cons (pf_var (pv 2)) paf_nil))))))) (sf_one (sf_set1 (ps_set (i := 1) nd rfl (Or.inr rfl) (pf_op (fun ha hb => pe_op (k_add (K := K) rfl) ha hb) op2_add (pg_var (pv 1)) (pf_g (pn_m (pn_lc (pe_lc (own := [("each", 4)]) (by rfl) nd (pif_list rfl (pf_var (pv 3))) (blkOk_by (own := [("each", 4)]) (N := N_products_of) (sc := defScope s_products_of) (by decide +kernel)) (fun _ _ _ _ _ => (pgf_name (pg_name (i := 4) nd rfl (Or.inl rfl)))) (fun _ _ _ _ _ => (ptsf_one (ptf_cmp (k_notInD (K := K) rfl (Nat.lt_of_le_of_lt (Nat.add_le_add_left (by decide : 65 ≤ 150) _) hu2)) op2_ninL (pg_var (pv 4)) (pg_var (pv 1)) (by with_unfolding_all rfl)))) (fun _ _ _ _ _ => (pf_var (pv 4)))))))))))))) (sf_one (sf_ret (pf_var (pv 1))))))⟩
theorem cal_products_of {P : Program} {w : World} {K : PySem.W.Frag} {mg : Str → Option Value} {base : Heap} {T : Addr → Prop} (Tx : Txt K mg) (D : Def1 K mg "products_of" s_products_of) (c__joined : Cal P w K mg base "_joined" 2 P__joined (spD K T 2 g_join)) {g : List PyData → M PyData} (hg : ∀ ds p, ds.length = 1 → (g ds).run p → (fnD 4 bd_products_of.1 ds).run p) : Cal P w K mg base "products_of" 3 P_products_of (spD K T 1 g) := by
  refine D.cal (k := 3-1) sc_products_of (fun vs H Q E h => h.len) (fun _ _ _ _ _ _ us hl => match us, hl with | [_], _ => rfl) fun f cdv A outer s H vs Q E hG hr h => ?_
  obtain ⟨W0, H0, q⟩ := body_d' (N := N_products_of) (n := 1) (k := 4) (m := bd_products_of.1) rfl (h.imp hg)

  exact ⟨_, bd_products_of.2 Tx c__joined hG hr, q⟩
def bd_agrees : {m : Sg // ∀ {P : Program} {w : World} {K : PySem.W.Frag} {mg : Str → Option Value} {base : Heap} {f : Addr} {cdv : Value} {A : Around} {outer : List Env} {s : Shared} {H : Hp} {E : XK} {T : Addr → Prop} {W0 : Addr → Prop} {H0 : Hp} (Tx : Txt K mg) (c_sign_in : Cal P w K mg base "sign_in" 1 P_sign_in (spD K T 2 g_sin)) (hG : Cl (A.deeper (envOfC "agrees" (defScope s_agrees) s.heap.objs.size f cdv))) (hr : Room (2 - 1) (A.deeper (envOfC "agrees" (defScope s_agrees) s.heap.objs.size f cdv))),
    PSs (cxOf CX0 P w K mg base N_agrees "agrees" (defScope s_agrees) f cdv A outer s H E).nox (defBody s_agrees) (tSF (fc K T none W0 H0) m)} :=
  ⟨_, fun {P w K mg base f cdv A outer s H E T W0 H0} Tx c_sign_in hG hr => have hu := hr.units; have hu2 := u150 hr; have nd := sc_agrees.nd; (sf_one (sf_ret (pf_fn1 (fun ha => pe_callB (k_all (K := K) rfl rfl) rfl Tx.n_all (by decide +kernel) ha) fn_all (pf_g (pn_m (pn_lc (pe_lc (own := [("effect", 2), ("sign", 3)]) (by rfl) nd (pif_tup rfl (pf_var (pv 1))) (blkOk_by (own := [("effect", 2), ("sign", 3)]) (N := N_agrees) (sc := defScope s_agrees) (by decide +kernel)) (fun _ _ _ _ _ => (pgf_tup (n := 2) rfl rfl (pgsf_cons (pgf_name (pg_name (i := 2) nd rfl (Or.inl rfl))) (pgsf_cons (pgf_name (pg_name (i := 3) nd rfl (Or.inl rfl))) pgsf_nil)))) (fun _ _ _ _ _ => ptsf_nil) (fun _ _ _ _ _ => (pf_cmp (k_eqX (K := K) rfl hu) op2_eqX (pf_g (pf_callD (pe_cal c_sign_in hG (hr.mono (by decide)) rfl (paf_cons (pf_var (pv 0)) (paf_cons (pf_var (pv 2)) paf_nil))))) (pg_var (pv 3)) (nomark _))))))))))⟩
theorem cal_agrees {P : Program} {w : World} {K : PySem.W.Frag} {mg : Str → Option Value} {base : Heap} {T : Addr → Prop} (Tx : Txt K mg) (D : Def1 K mg "agrees" s_agrees) (c_sign_in : Cal P w K mg base "sign_in" 1 P_sign_in (spD K T 2 g_sin)) {g : List PyData → M PyData} (hg : ∀ ds p, ds.length = 2 → (g ds).run p → (fnD 2 bd_agrees.1 ds).run p) : Cal P w K mg base "agrees" 2 P_agrees (spD K T 2 g) := by
  refine D.cal (k := 2-1) sc_agrees (fun vs H Q E h => h.len) (fun _ _ _ _ _ _ us hl => match us, hl with | [_, _], _ => rfl) fun f cdv A outer s H vs Q E hG hr h => ?_
  obtain ⟨W0, H0, q⟩ := body_d' (N := N_agrees) (n := 2) (k := 2) (m := bd_agrees.1) rfl (h.imp hg)

  exact ⟨_, bd_agrees.2 Tx c_sign_in hG hr, q⟩
def bd_piece_of : {m : Sg // ∀ {P : Program} {w : World} {K : PySem.W.Frag} {mg : Str → Option Value} {base : Heap} {f : Addr} {cdv : Value} {A : Around} {outer : List Env} {s : Shared} {H : Hp} {E : XK} {T : Addr → Prop} {W0 : Addr → Prop} {H0 : Hp} (Tx : Txt K mg) (c_agrees : Cal P w K mg base "agrees" 2 P_agrees (spD K T 2 g_agrees)) (hG : Cl (A.deeper (envOfC "piece_of" (defScope s_piece_of) s.heap.objs.size f cdv))) (hr : Room (3 - 1) (A.deeper (envOfC "piece_of" (defScope s_piece_of) s.heap.objs.size f cdv))),
    PSs (cxOf CX0 P w K mg base N_piece_of "piece_of" (defScope s_piece_of) f cdv A outer s H E).nox (defBody s_piece_of) (tSF (fc K T none W0 H0) m)} :=
  ⟨_, fun {P w K mg base f cdv A outer s H E T W0 H0} Tx c_agrees hG hr => have hu := hr.units; have hu2 := u150 hr; have nd := sc_piece_of.nd; (sf_cons (sf_set1 (ps_set (i := 2) nd rfl (Or.inl rfl) (pf_lst (paf_cons (pf_tup paf_nil) paf_nil)))) (sf_cons (sf_for (ps_for PassesOwn.never rfl (pif_rg1 (pi_range1 rfl Tx.n_range (paf_cons (pf_var (pv 0)) paf_nil))) (pgf_name (pg_name (i := 3) nd rfl (Or.inl rfl))) (sf_one (sf_setLc2 (ps_setLc2 (i := 2) (own := [("run", 4), ("sign", 5)]) (vs1 := [5]) (by rfl) nd rfl rfl (sw_true rfl rfl rfl (by decide +kernel)) (pif_list rfl (pf_var (pv 2))) (blkOk_by (own := [("run", 4), ("sign", 5)]) (N := N_piece_of) (sc := defScope s_piece_of) (by decide +kernel)) (by decide) (fun _ _ _ _ _ => (pgf_name (pg_name (i := 4) nd rfl (Or.inl rfl)))) (fun _ _ _ _ _ => ptsf_nil) (fun _ _ _ _ _ => (pif_tup rfl (pf_tup (paf_cons (pf_un (fun ha => pe_un un_neg ha) fn1_neg (pf_g pf_int)) (paf_cons pf_int paf_nil))))) (fun _ _ _ _ _ => (pgf_name (pg_name (i := 5) nd rfl (Or.inl rfl)))) (fun _ _ _ _ _ => ptsf_nil) (fun _ _ _ _ _ => (pf_op (fun ha hb => pe_op (k_add (K := K) rfl) ha hb) op2_add (pg_var (pv 4)) (pf_g (pf_tup (paf_cons (pf_var (pv 5)) paf_nil)))))))))) (sf_one (sf_ret (pf_fn1 (fun ha => pe_callTy (k_tupT (K := K) rfl) rfl Tx.n_tuple (by decide +kernel) ha) fn_tuple (pf_g (pn_m (pn_lc (pe_lc (own := [("run", 4)]) (by rfl) nd (pif_list rfl (pf_var (pv 2))) (blkOk_by (own := [("run", 4)]) (N := N_piece_of) (sc := defScope s_piece_of) (by decide +kernel)) (fun _ _ _ _ _ => (pgf_name (pg_name (i := 4) nd rfl (Or.inl rfl)))) (fun _ _ _ _ _ => (ptsf_one (ptf_val (pf_callD (pe_cal c_agrees hG (hr.mono (by decide)) rfl (paf_cons (pf_var (pv 4)) (paf_cons (pf_var (pv 1)) paf_nil))))))) (fun _ _ _ _ _ => (pf_var (pv 4))))))))))))⟩
theorem cal_piece_of {P : Program} {w : World} {K : PySem.W.Frag} {mg : Str → Option Value} {base : Heap} {T : Addr → Prop} (Tx : Txt K mg) (D : Def1 K mg "piece_of" s_piece_of) (c_agrees : Cal P w K mg base "agrees" 2 P_agrees (spD K T 2 g_agrees)) {g : List PyData → M PyData} (hg : ∀ ds p, ds.length = 2 → (g ds).run p → (fnD 4 bd_piece_of.1 ds).run p) : Cal P w K mg base "piece_of" 3 P_piece_of (spD K T 2 g) := by
  refine D.cal (k := 3-1) sc_piece_of (fun vs H Q E h => h.len) (fun _ _ _ _ _ _ us hl => match us, hl with | [_, _], _ => rfl) fun f cdv A outer s H vs Q E hG hr h => ?_
  obtain ⟨W0, H0, q⟩ := body_d' (N := N_piece_of) (n := 2) (k := 4) (m := bd_piece_of.1) rfl (h.imp hg)

  exact ⟨_, bd_piece_of.2 Tx c_agrees hG hr, q⟩
def bd_effect_sign : {m : Sg // ∀ {P : Program} {w : World} {K : PySem.W.Frag} {mg : Str → Option Value} {base : Heap} {f : Addr} {cdv : Value} {A : Around} {outer : List Env} {s : Shared} {H : Hp} {E : XK} {T : Addr → Prop} {W0 : Addr → Prop} {H0 : Hp} (Tx : Txt K mg) (c_check_effect : Cal P w K mg base "check_effect" 3 P_check_effect (spD K T 2 g_ceff)) (c_sign_in : Cal P w K mg base "sign_in" 1 P_sign_in (spD K T 2 g_sin)) (c_is_run : Cal P w K mg base "is_run" 4 P_is_run (spD K T 1 g_isrun)) (hG : Cl (A.deeper (envOfC "effect_sign" (defScope s_effect_sign) s.heap.objs.size f cdv))) (hr : Room (5 - 1) (A.deeper (envOfC "effect_sign" (defScope s_effect_sign) s.heap.objs.size f cdv))),
    PSs (cxOf CX0 P w K mg base N_effect_sign "effect_sign" (defScope s_effect_sign) f cdv A outer s H E).nox (defBody s_effect_sign) (tSF (fc K T none W0 H0) m)} :=
  ⟨_, fun {P w K mg base f cdv A outer s H E T W0 H0} Tx c_check_effect c_sign_in c_is_run hG hr => have hu := hr.units; have hu2 := u150 hr; have nd := sc_effect_sign.nd; (sf_cons (sf_if (ptf_not (ptf_val (pf_callD (pe_cal c_is_run hG (hr.mono (by decide)) rfl (paf_cons (pf_var (pv 0)) paf_nil))))) (sf_one sf_never) sf_nil) (sf_cons (sf_expr (pf_callD (pe_cal c_check_effect hG (hr.mono (by decide)) rfl (paf_cons (pf_fn1 (fun ha => pe_callB (k_len (K := K) rfl) rfl Tx.n_len (by decide +kernel) ha) fn_len (pg_var (pv 0))) (paf_cons (pf_var (pv 1)) paf_nil))))) (sf_one (sf_ret (pf_callD (pe_cal c_sign_in hG (hr.mono (by decide)) rfl (paf_cons (pf_var (pv 0)) (paf_cons (pf_var (pv 1)) paf_nil))))))))⟩
theorem cal_effect_sign {P : Program} {w : World} {K : PySem.W.Frag} {mg : Str → Option Value} {base : Heap} {T : Addr → Prop} (Tx : Txt K mg) (D : Def1 K mg "effect_sign" s_effect_sign) (c_check_effect : Cal P w K mg base "check_effect" 3 P_check_effect (spD K T 2 g_ceff)) (c_sign_in : Cal P w K mg base "sign_in" 1 P_sign_in (spD K T 2 g_sin)) (c_is_run : Cal P w K mg base "is_run" 4 P_is_run (spD K T 1 g_isrun)) {g : List PyData → M PyData} (hg : ∀ ds p, ds.length = 2 → (g ds).run p → (fnD 0 bd_effect_sign.1 ds).run p) : Cal P w K mg base "effect_sign" 5 P_effect_sign (spD K T 2 g) := by
  refine D.cal (k := 5-1) sc_effect_sign (fun vs H Q E h => h.len) (fun _ _ _ _ _ _ us hl => match us, hl with | [_, _], _ => rfl) fun f cdv A outer s H vs Q E hG hr h => ?_
  obtain ⟨W0, H0, q⟩ := body_d' (N := N_effect_sign) (n := 2) (k := 0) (m := bd_effect_sign.1) rfl (h.imp hg)

  exact ⟨_, bd_effect_sign.2 Tx c_check_effect c_sign_in c_is_run hG hr, q⟩
theorem calk_effect_sign {P : Program} {w : World} {K : PySem.W.Frag} {mg : Str → Option Value} {base : Heap} {T : Addr → Prop} (Tx : Txt K mg) (D : Def1 K mg "effect_sign" s_effect_sign) (c_check_effect : Cal P w K mg base "check_effect" 3 P_check_effect (spD K T 2 g_ceff)) (c_sign_in : Cal P w K mg base "sign_in" 1 P_sign_in (spD K T 2 g_sin)) (c_is_run : Cal P w K mg base "is_run" 4 P_is_run (spD K T 1 g_isrun)) {g : List PyData → M PyData} (hg : ∀ ds p, ds.length = 2 → (g ds).run p → (fnD 0 bd_effect_sign.1 ds).run p) : CalK P w K mg base "effect_sign" 5 P_effect_sign ["effect", "run"] (spD K T 2 g) gRev := by
  refine Dl.Def1.calK D (k := 5-1) (ks := ["effect", "run"]) (sp := spD K T 2 g) (G := @gRev) sc_effect_sign (fun vs H Q E h => h.len) (fun _ _ _ _ _ _ ws hl => match ws, hl with | [_, _], _ => rfl) (fun _ r => r.reverse) fun f cdv A outer s H vs Q E hG hr h => ?_
  obtain ⟨W0, H0, q⟩ := body_d' (N := N_effect_sign) (n := 2) (k := 0) (m := bd_effect_sign.1) rfl (h.imp hg)
  exact ⟨_, bd_effect_sign.2 Tx c_check_effect c_sign_in c_is_run hG hr, q⟩
def bd_odd_lot : {m : Sg // ∀ {P : Program} {w : World} {K : PySem.W.Frag} {mg : Str → Option Value} {base : Heap} {f : Addr} {cdv : Value} {A : Around} {outer : List Env} {s : Shared} {H : Hp} {E : XK} {T : Addr → Prop} {W0 : Addr → Prop} {H0 : Hp} (Tx : Txt K mg) (c__check_factors : Cal P w K mg base "_check_factors" 2 P__check_factors (spD K T 1 g_cfac)) (c_check_effect : Cal P w K mg base "check_effect" 3 P_check_effect (spD K T 2 g_ceff)) (c_odd_of : Cal P w K mg base "odd_of" 1 P_odd_of (spD K T 2 g_odd)) (hG : Cl (A.deeper (envOfC "odd_lot" (defScope s_odd_lot) s.heap.objs.size f cdv))) (hr : Room (4 - 1) (A.deeper (envOfC "odd_lot" (defScope s_odd_lot) s.heap.objs.size f cdv))),
    PSs (cxOf CX0 P w K mg base N_odd_lot "odd_lot" (defScope s_odd_lot) f cdv A outer s H E).nox (defBody s_odd_lot) (tSF (fc K T none W0 H0) m)} :=
  ⟨_, fun {P w K mg base f cdv A outer s H E T W0 H0} Tx c__check_factors c_check_effect c_odd_of hG hr => have hu := hr.units; have hu2 := u150 hr; have nd := sc_odd_lot.nd; (sf_cons (sf_expr (pf_callD (pe_cal c__check_factors hG (hr.mono (by decide)) rfl (paf_cons (pf_var (pv 0)) paf_nil)))) (sf_cons (sf_expr (pf_callD (pe_cal c_check_effect hG (hr.mono (by decide)) rfl (paf_cons (pf_var (pv 0)) (paf_cons (pf_var (pv 1)) paf_nil))))) (sf_cons (sf_expr (pf_callD (pe_cal c_check_effect hG (hr.mono (by decide)) rfl (paf_cons (pf_var (pv 0)) (paf_cons (pf_var (pv 2)) paf_nil))))) (sf_one (sf_ret (pf_callD (pe_cal c_odd_of hG (hr.mono (by decide)) rfl (paf_cons (pf_var (pv 1)) (paf_cons (pf_var (pv 2)) paf_nil)))))))))⟩
theorem cal_odd_lot {P : Program} {w : World} {K : PySem.W.Frag} {mg : Str → Option Value} {base : Heap} {T : Addr → Prop} (Tx : Txt K mg) (D : Def1 K mg "odd_lot" s_odd_lot) (c__check_factors : Cal P w K mg base "_check_factors" 2 P__check_factors (spD K T 1 g_cfac)) (c_check_effect : Cal P w K mg base "check_effect" 3 P_check_effect (spD K T 2 g_ceff)) (c_odd_of : Cal P w K mg base "odd_of" 1 P_odd_of (spD K T 2 g_odd)) {g : List PyData → M PyData} (hg : ∀ ds p, ds.length = 3 → (g ds).run p → (fnD 0 bd_odd_lot.1 ds).run p) : Cal P w K mg base "odd_lot" 4 P_odd_lot (spD K T 3 g) := by
  refine D.cal (k := 4-1) sc_odd_lot (fun vs H Q E h => h.len) (fun _ _ _ _ _ _ us hl => match us, hl with | [_, _, _], _ => rfl) fun f cdv A outer s H vs Q E hG hr h => ?_
  obtain ⟨W0, H0, q⟩ := body_d' (N := N_odd_lot) (n := 3) (k := 0) (m := bd_odd_lot.1) rfl (h.imp hg)

  exact ⟨_, bd_odd_lot.2 Tx c__check_factors c_check_effect c_odd_of hG hr, q⟩
theorem calk_odd_lot {P : Program} {w : World} {K : PySem.W.Frag} {mg : Str → Option Value} {base : Heap} {T : Addr → Prop} (Tx : Txt K mg) (D : Def1 K mg "odd_lot" s_odd_lot) (c__check_factors : Cal P w K mg base "_check_factors" 2 P__check_factors (spD K T 1 g_cfac)) (c_check_effect : Cal P w K mg base "check_effect" 3 P_check_effect (spD K T 2 g_ceff)) (c_odd_of : Cal P w K mg base "odd_of" 1 P_odd_of (spD K T 2 g_odd)) {g : List PyData → M PyData} (hg : ∀ ds p, ds.length = 3 → (g ds).run p → (fnD 0 bd_odd_lot.1 ds).run p) : CalK P w K mg base "odd_lot" 4 P_odd_lot ["other", "effect", "factors"] (spD K T 3 g) gRev := by
  refine Dl.Def1.calK D (k := 4-1) (ks := ["other", "effect", "factors"]) (sp := spD K T 3 g) (G := @gRev) sc_odd_lot (fun vs H Q E h => h.len) (fun _ _ _ _ _ _ ws hl => match ws, hl with | [_, _, _], _ => rfl) (fun _ r => r.reverse) fun f cdv A outer s H vs Q E hG hr h => ?_
  obtain ⟨W0, H0, q⟩ := body_d' (N := N_odd_lot) (n := 3) (k := 0) (m := bd_odd_lot.1) rfl (h.imp hg)
  exact ⟨_, bd_odd_lot.2 Tx c__check_factors c_check_effect c_odd_of hG hr, q⟩
def bd_products : {m : Sg // ∀ {P : Program} {w : World} {K : PySem.W.Frag} {mg : Str → Option Value} {base : Heap} {f : Addr} {cdv : Value} {A : Around} {outer : List Env} {s : Shared} {H : Hp} {E : XK} {T : Addr → Prop} {W0 : Addr → Prop} {H0 : Hp} (Tx : Txt K mg) (c_check_words : Cal P w K mg base "check_words" 5 P_check_words (spD K T 2 g_cwords)) (c_products_of : Cal P w K mg base "products_of" 3 P_products_of (spD K T 1 g_prodof)) (hG : Cl (A.deeper (envOfC "products" (defScope s_products) s.heap.objs.size f cdv))) (hr : Room (6 - 1) (A.deeper (envOfC "products" (defScope s_products) s.heap.objs.size f cdv))),
    PSs (cxOf CX0 P w K mg base N_products "products" (defScope s_products) f cdv A outer s H E).nox (defBody s_products) (tSF (fc K T none W0 H0) m)} :=
  ⟨_, fun {P w K mg base f cdv A outer s H E T W0 H0} Tx c_check_words c_products_of hG hr => have hu := hr.units; have hu2 := u150 hr; have nd := sc_products.nd; (sf_cons (sf_expr (pf_callD (pe_cal c_check_words hG (hr.mono (by decide)) rfl (paf_cons (pf_var (pv 0)) (paf_cons (pf_var (pv 1)) paf_nil))))) (sf_one (sf_ret (pf_fn1 (fun ha => pe_callTy (k_tupT (K := K) rfl) rfl Tx.n_tuple (by decide +kernel) ha) fn_tuple (pf_g (pf_fn1 (fun ha => pe_callB (k_sortedD (K := K) rfl hu) rfl Tx.n_sorted (by decide +kernel) ha) fn_sorted (pf_g (pf_callD (pe_cal c_products_of hG (hr.mono (by decide)) rfl (paf_cons (pf_var (pv 1)) paf_nil))))))))))⟩
theorem cal_products {P : Program} {w : World} {K : PySem.W.Frag} {mg : Str → Option Value} {base : Heap} {T : Addr → Prop} (Tx : Txt K mg) (D : Def1 K mg "products" s_products) (c_check_words : Cal P w K mg base "check_words" 5 P_check_words (spD K T 2 g_cwords)) (c_products_of : Cal P w K mg base "products_of" 3 P_products_of (spD K T 1 g_prodof)) {g : List PyData → M PyData} (hg : ∀ ds p, ds.length = 2 → (g ds).run p → (fnD 0 bd_products.1 ds).run p) : Cal P w K mg base "products" 6 P_products (spD K T 2 g) := by
  refine D.cal (k := 6-1) sc_products (fun vs H Q E h => h.len) (fun _ _ _ _ _ _ us hl => match us, hl with | [_, _], _ => rfl) fun f cdv A outer s H vs Q E hG hr h => ?_
  obtain ⟨W0, H0, q⟩ := body_d' (N := N_products) (n := 2) (k := 0) (m := bd_products.1) rfl (h.imp hg)

  exact ⟨_, bd_products.2 Tx c_check_words c_products_of hG hr, q⟩
theorem calk_products {P : Program} {w : World} {K : PySem.W.Frag} {mg : Str → Option Value} {base : Heap} {T : Addr → Prop} (Tx : Txt K mg) (D : Def1 K mg "products" s_products) (c_check_words : Cal P w K mg base "check_words" 5 P_check_words (spD K T 2 g_cwords)) (c_products_of : Cal P w K mg base "products_of" 3 P_products_of (spD K T 1 g_prodof)) {g : List PyData → M PyData} (hg : ∀ ds p, ds.length = 2 → (g ds).run p → (fnD 0 bd_products.1 ds).run p) : CalK P w K mg base "products" 6 P_products ["words", "factors"] (spD K T 2 g) gRev := by
  refine Dl.Def1.calK D (k := 6-1) (ks := ["words", "factors"]) (sp := spD K T 2 g) (G := @gRev) sc_products (fun vs H Q E h => h.len) (fun _ _ _ _ _ _ ws hl => match ws, hl with | [_, _], _ => rfl) (fun _ r => r.reverse) fun f cdv A outer s H vs Q E hG hr h => ?_
  obtain ⟨W0, H0, q⟩ := body_d' (N := N_products) (n := 2) (k := 0) (m := bd_products.1) rfl (h.imp hg)
  exact ⟨_, bd_products.2 Tx c_check_words c_products_of hG hr, q⟩
def bd_piece : {m : Sg // ∀ {P : Program} {w : World} {K : PySem.W.Frag} {mg : Str → Option Value} {base : Heap} {f : Addr} {cdv : Value} {A : Around} {outer : List Env} {s : Shared} {H : Hp} {E : XK} {T : Addr → Prop} {W0 : Addr → Prop} {H0 : Hp} (Tx : Txt K mg) (c_check_words : Cal P w K mg base "check_words" 5 P_check_words (spD K T 2 g_cwords)) (c_piece_of : Cal P w K mg base "piece_of" 3 P_piece_of (spD K T 2 g_pieceof)) (hG : Cl (A.deeper (envOfC "piece" (defScope s_piece) s.heap.objs.size f cdv))) (hr : Room (6 - 1) (A.deeper (envOfC "piece" (defScope s_piece) s.heap.objs.size f cdv))),
    PSs (cxOf CX0 P w K mg base N_piece "piece" (defScope s_piece) f cdv A outer s H E).nox (defBody s_piece) (tSF (fc K T none W0 H0) m)} :=
  ⟨_, fun {P w K mg base f cdv A outer s H E T W0 H0} Tx c_check_words c_piece_of hG hr => have hu := hr.units; have hu2 := u150 hr; have nd := sc_piece.nd; (sf_cons (sf_expr (pf_callD (pe_cal c_check_words hG (hr.mono (by decide)) rfl (paf_cons (pf_var (pv 0)) (paf_cons (pf_var (pv 1)) paf_nil))))) (sf_one (sf_ret (pf_callD (pe_cal c_piece_of hG (hr.mono (by decide)) rfl (paf_cons (pf_var (pv 0)) (paf_cons (pf_var (pv 1)) paf_nil)))))))⟩
theorem cal_piece {P : Program} {w : World} {K : PySem.W.Frag} {mg : Str → Option Value} {base : Heap} {T : Addr → Prop} (Tx : Txt K mg) (D : Def1 K mg "piece" s_piece) (c_check_words : Cal P w K mg base "check_words" 5 P_check_words (spD K T 2 g_cwords)) (c_piece_of : Cal P w K mg base "piece_of" 3 P_piece_of (spD K T 2 g_pieceof)) {g : List PyData → M PyData} (hg : ∀ ds p, ds.length = 2 → (g ds).run p → (fnD 0 bd_piece.1 ds).run p) : Cal P w K mg base "piece" 6 P_piece (spD K T 2 g) := by
  refine D.cal (k := 6-1) sc_piece (fun vs H Q E h => h.len) (fun _ _ _ _ _ _ us hl => match us, hl with | [_, _], _ => rfl) fun f cdv A outer s H vs Q E hG hr h => ?_
  obtain ⟨W0, H0, q⟩ := body_d' (N := N_piece) (n := 2) (k := 0) (m := bd_piece.1) rfl (h.imp hg)

  exact ⟨_, bd_piece.2 Tx c_check_words c_piece_of hG hr, q⟩
theorem calk_piece {P : Program} {w : World} {K : PySem.W.Frag} {mg : Str → Option Value} {base : Heap} {T : Addr → Prop} (Tx : Txt K mg) (D : Def1 K mg "piece" s_piece) (c_check_words : Cal P w K mg base "check_words" 5 P_check_words (spD K T 2 g_cwords)) (c_piece_of : Cal P w K mg base "piece_of" 3 P_piece_of (spD K T 2 g_pieceof)) {g : List PyData → M PyData} (hg : ∀ ds p, ds.length = 2 → (g ds).run p → (fnD 0 bd_piece.1 ds).run p) : CalK P w K mg base "piece" 6 P_piece ["words", "factors"] (spD K T 2 g) gRev := by
  refine Dl.Def1.calK D (k := 6-1) (ks := ["words", "factors"]) (sp := spD K T 2 g) (G := @gRev) sc_piece (fun vs H Q E h => h.len) (fun _ _ _ _ _ _ ws hl => match ws, hl with | [_, _], _ => rfl) (fun _ r => r.reverse) fun f cdv A outer s H vs Q E hG hr h => ?_
  obtain ⟨W0, H0, q⟩ := body_d' (N := N_piece) (n := 2) (k := 0) (m := bd_piece.1) rfl (h.imp hg)
  exact ⟨_, bd_piece.2 Tx c_check_words c_piece_of hG hr, q⟩
end K2

set_option Elab.async false
set_option linter.all false
set_option maxRecDepth 100000
set_option maxHeartbeats 4000000
set_option autoImplicit false
namespace K2
open PySem PySem.Spec PyProof.Rows L2 RZ Gd Dl
def g_draw : List PyData → M PyData
  | [.int few] => (M.gd (0 < few ∧ few ≤ 1000000000)).bind fun _ => M.any fun d => ∃ k : Int, 0 ≤ k ∧ k < few ∧ d = .int k
  | _ => .fail
def g_lrun : List PyData → M PyData
  | [.int n] => (M.gd (1 ≤ n ∧ n ≤ 6)).bind fun _ => M.any fun d => ∃ r, Run n.toNat r ∧ d = lotD r
  | _ => .fail
def g_leff : List PyData → M PyData
  | [.int n] => (M.gd (1 ≤ n ∧ n ≤ 6)).bind fun _ => M.any fun d => ∃ a, Lot n a ∧ d = lotD a
  | _ => .fail
def g_lruns : List PyData → M PyData
  | [.int n] => (M.gd (1 ≤ n ∧ n ≤ 6)).bind fun _ => .ret (.list ((runsP n.toNat).map lotD))
  | _ => .fail
def g_parted : List PyData → M PyData
  | [x, y] => (M.gd (∃ a b : List Int, x = lotD a ∧ y = lotD b ∧ small6 a ∧ small6 b)).bind fun _ => .ret (lotD (xorI (unL y) (unL x)))
  | _ => .fail
def g_lmade : List PyData → M PyData
  | [d] => (M.gd (∃ n l, d = wdsD l ∧ WsOk n l)).bind fun _ => .ret (.tuple (srtD ((mkP (unWs d)).map wdD)))
  | _ => .fail
def g_lwords : List PyData → M PyData
  | [.int n, .int 6, .bool _] => (M.gd (1 ≤ n ∧ n ≤ 6)).bind fun _ => M.any fun d => ∃ l, WsOk n l ∧ d = wdsD l
  | _ => .fail
def g_right : List PyData → M PyData
  | [] => .ret (.bool true)
  | _ => .fail
def bd__law_runs : {m : Sg // ∀ {P : Program} {w : World} {K : PySem.W.Frag} {mg : Str → Option Value} {base : Heap} {f : Addr} {cdv : Value} {A : Around} {outer : List Env} {s : Shared} {H : Hp} {E : XK} {T : Addr → Prop} {W0 : Addr → Prop} {H0 : Hp} (Tx : Txt K mg) (hG : Cl (A.deeper (envOfC "_law_runs" (defScope s__law_runs) s.heap.objs.size f cdv))) (hr : Room (1 - 1) (A.deeper (envOfC "_law_runs" (defScope s__law_runs) s.heap.objs.size f cdv))),
    PSs (cxOf CX0 P w K mg base N__law_runs "_law_runs" (defScope s__law_runs) f cdv A outer s H E).nox (defBody s__law_runs) (tSF (fc K T none W0 H0) m)} :=
  ⟨_, fun {P w K mg base f cdv A outer s H E T W0 H0} Tx hG hr => have hu := hr.units; have hu2 := u150 hr; have nd := sc__law_runs.nd; (sf_cons (sf_set1 (ps_set (i := 1) nd rfl (Or.inl rfl) (pf_lst (paf_cons (pf_tup paf_nil) paf_nil)))) (sf_cons (sf_for (ps_for PassesOwn.never rfl (pif_rg1 (pi_range1 rfl Tx.n_range (paf_cons (pf_var (pv 0)) paf_nil))) (pgf_name (pg_name (i := 2) nd rfl (Or.inl rfl))) (sf_one (sf_set1 (ps_set (i := 1) nd rfl (Or.inl rfl) (pf_op (fun ha hb => pe_op (k_add (K := K) rfl) ha hb) op2_add (pf_g (pn_m (pn_lc (pe_lc (own := [("_law_run_here", 3)]) (by rfl) nd (pif_list rfl (pf_var (pv 1))) (blkOk_by (own := [("_law_run_here", 3)]) (N := N__law_runs) (sc := defScope s__law_runs) (by decide +kernel)) (fun _ _ _ _ _ => (pgf_name (pg_name (i := 3) nd rfl (Or.inl rfl)))) (fun _ _ _ _ _ => ptsf_nil) (fun _ _ _ _ _ => (pf_op (fun ha hb => pe_op (k_add (K := K) rfl) ha hb) op2_add (pg_var (pv 3)) (pf_g (pf_tup (paf_cons (pf_un (fun ha => pe_un un_neg ha) fn1_neg (pf_g pf_int)) paf_nil))))))))) (pf_g (pn_m (pn_lc (pe_lc (own := [("_law_run_here", 3)]) (by rfl) nd (pif_list rfl (pf_var (pv 1))) (blkOk_by (own := [("_law_run_here", 3)]) (N := N__law_runs) (sc := defScope s__law_runs) (by decide +kernel)) (fun _ _ _ _ _ => (pgf_name (pg_name (i := 3) nd rfl (Or.inl rfl)))) (fun _ _ _ _ _ => ptsf_nil) (fun _ _ _ _ _ => (pf_op (fun ha hb => pe_op (k_add (K := K) rfl) ha hb) op2_add (pg_var (pv 3)) (pf_g (pf_tup (paf_cons pf_int paf_nil))))))))))))))) (sf_one (sf_ret (pf_fn1 (fun ha => pe_callB (k_sortedD (K := K) rfl hu) rfl Tx.n_sorted (by decide +kernel) ha) fn_sorted (pg_var (pv 1)))))))⟩
theorem cal__law_runs {P : Program} {w : World} {K : PySem.W.Frag} {mg : Str → Option Value} {base : Heap} {T : Addr → Prop} (Tx : Txt K mg) (D : Def1 K mg "_law_runs" s__law_runs) {g : List PyData → M PyData} (hg : ∀ ds p, ds.length = 1 → (g ds).run p → (fnD 3 bd__law_runs.1 ds).run p) : Cal P w K mg base "_law_runs" 1 P__law_runs (spD K T 1 g) := by
  refine D.cal (k := 1-1) sc__law_runs (fun vs H Q E h => h.len) (fun _ _ _ _ _ _ us hl => match us, hl with | [_], _ => rfl) fun f cdv A outer s H vs Q E hG hr h => ?_
  obtain ⟨W0, H0, q⟩ := body_d' (N := N__law_runs) (n := 1) (k := 3) (m := bd__law_runs.1) rfl (h.imp hg)

  exact ⟨_, bd__law_runs.2 Tx hG hr, q⟩
def bd__law_sign : {m : Sg // ∀ {P : Program} {w : World} {K : PySem.W.Frag} {mg : Str → Option Value} {base : Heap} {f : Addr} {cdv : Value} {A : Around} {outer : List Env} {s : Shared} {H : Hp} {E : XK} {T : Addr → Prop} {W0 : Addr → Prop} {H0 : Hp} (Tx : Txt K mg) (hG : Cl (A.deeper (envOfC "_law_sign" (defScope s__law_sign) s.heap.objs.size f cdv))) (hr : Room (1 - 1) (A.deeper (envOfC "_law_sign" (defScope s__law_sign) s.heap.objs.size f cdv))),
    PSs (cxOf CX0 P w K mg base N__law_sign "_law_sign" (defScope s__law_sign) f cdv A outer s H E).nox (defBody s__law_sign) (tSF (fc K T none W0 H0) m)} :=
  ⟨_, fun {P w K mg base f cdv A outer s H E T W0 H0} Tx hG hr => have hu := hr.units; have hu2 := u150 hr; have nd := sc__law_sign.nd; (sf_cons (sf_set1 (ps_set (i := 2) nd rfl (Or.inl rfl) pf_int)) (sf_cons (sf_for (ps_for PassesOwn.never rfl (pif_tup rfl (pf_var (pv 1))) (pgf_name (pg_name (i := 3) nd rfl (Or.inl rfl))) (sf_one (sf_set1 (ps_set (i := 2) nd rfl (Or.inl rfl) (pf_op (fun ha hb => pe_op (k_mulX (K := K) rfl) ha hb) op2_mulX (pg_var (pv 2)) (pf_g (pf_ix (k_ix (K := K) rfl) op2_ix (pg_var (pv 0)) (pg_var (pv 3)) (fun _ _ => rfl))))))))) (sf_one (sf_ret (pf_var (pv 2))))))⟩
theorem cal__law_sign {P : Program} {w : World} {K : PySem.W.Frag} {mg : Str → Option Value} {base : Heap} {T : Addr → Prop} (Tx : Txt K mg) (D : Def1 K mg "_law_sign" s__law_sign) {g : List PyData → M PyData} (hg : ∀ ds p, ds.length = 2 → (g ds).run p → (fnD 2 bd__law_sign.1 ds).run p) : Cal P w K mg base "_law_sign" 1 P__law_sign (spD K T 2 g) := by
  refine D.cal (k := 1-1) sc__law_sign (fun vs H Q E h => h.len) (fun _ _ _ _ _ _ us hl => match us, hl with | [_, _], _ => rfl) fun f cdv A outer s H vs Q E hG hr h => ?_
  obtain ⟨W0, H0, q⟩ := body_d' (N := N__law_sign) (n := 2) (k := 2) (m := bd__law_sign.1) rfl (h.imp hg)

  exact ⟨_, bd__law_sign.2 Tx hG hr, q⟩
def bd__law_parted : {m : Sg // ∀ {P : Program} {w : World} {K : PySem.W.Frag} {mg : Str → Option Value} {base : Heap} {f : Addr} {cdv : Value} {A : Around} {outer : List Env} {s : Shared} {H : Hp} {E : XK} {T : Addr → Prop} {W0 : Addr → Prop} {H0 : Hp} (Tx : Txt K mg) (hG : Cl (A.deeper (envOfC "_law_parted" (defScope s__law_parted) s.heap.objs.size f cdv))) (hr : Room (1 - 1) (A.deeper (envOfC "_law_parted" (defScope s__law_parted) s.heap.objs.size f cdv))),
    PSs (cxOf CX0 P w K mg base N__law_parted "_law_parted" (defScope s__law_parted) f cdv A outer s H E).nox (defBody s__law_parted) (tSF (fc K T none W0 H0) m)} :=
  ⟨_, fun {P w K mg base f cdv A outer s H E T W0 H0} Tx hG hr => have hu := hr.units; have hu2 := u150 hr; have nd := sc__law_parted.nd; (sf_one (sf_ret (pf_fn1 (fun ha => pe_callTy (k_tupT (K := K) rfl) rfl Tx.n_tuple (by decide +kernel) ha) fn_tuple (pf_g (pn_m (pn_lc (pe_lc (own := [("_law_at", 2)]) (by rfl) nd (pif_rg1 (pi_range1 rfl Tx.n_range (paf_cons pf_int paf_nil))) (blkOk_by (own := [("_law_at", 2)]) (N := N__law_parted) (sc := defScope s__law_parted) (by decide +kernel)) (fun _ _ _ _ _ => (pgf_name (pg_name (i := 2) nd rfl (Or.inl rfl)))) (fun _ _ _ _ _ => (ptsf_one (ptf_cmp (k_neX (K := K) rfl hu) op2_neX (pf_g (pf_cmp (k_in (K := K) rfl) op2_in (pg_var (pv 2)) (pg_var (pv 0)) (by with_unfolding_all rfl))) (pf_g (pf_cmp (k_in (K := K) rfl) op2_in (pg_var (pv 2)) (pg_var (pv 1)) (by with_unfolding_all rfl))) (nomark _)))) (fun _ _ _ _ _ => (pf_var (pv 2))))))))))⟩
theorem cal__law_parted {P : Program} {w : World} {K : PySem.W.Frag} {mg : Str → Option Value} {base : Heap} {T : Addr → Prop} (Tx : Txt K mg) (D : Def1 K mg "_law_parted" s__law_parted) {g : List PyData → M PyData} (hg : ∀ ds p, ds.length = 2 → (g ds).run p → (fnD 1 bd__law_parted.1 ds).run p) : Cal P w K mg base "_law_parted" 1 P__law_parted (spD K T 2 g) := by
  refine D.cal (k := 1-1) sc__law_parted (fun vs H Q E h => h.len) (fun _ _ _ _ _ _ us hl => match us, hl with | [_, _], _ => rfl) fun f cdv A outer s H vs Q E hG hr h => ?_
  obtain ⟨W0, H0, q⟩ := body_d' (N := N__law_parted) (n := 2) (k := 1) (m := bd__law_parted.1) rfl (h.imp hg)

  exact ⟨_, bd__law_parted.2 Tx hG hr, q⟩
def bd__law_made : {m : Sg // ∀ {P : Program} {w : World} {K : PySem.W.Frag} {mg : Str → Option Value} {base : Heap} {f : Addr} {cdv : Value} {A : Around} {outer : List Env} {s : Shared} {H : Hp} {E : XK} {T : Addr → Prop} {W0 : Addr → Prop} {H0 : Hp} (Tx : Txt K mg) (c__law_parted : Cal P w K mg base "_law_parted" 1 P__law_parted (spD K T 2 g_parted)) (hG : Cl (A.deeper (envOfC "_law_made" (defScope s__law_made) s.heap.objs.size f cdv))) (hr : Room (2 - 1) (A.deeper (envOfC "_law_made" (defScope s__law_made) s.heap.objs.size f cdv))),
    PSs (cxOf CX0 P w K mg base N__law_made "_law_made" (defScope s__law_made) f cdv A outer s H E).nox (defBody s__law_made) (tSF (fc K T none W0 H0) m)} :=
  ⟨_, fun {P w K mg base f cdv A outer s H E T W0 H0} Tx c__law_parted hG hr => have hu := hr.units; have hu2 := u150 hr; have nd := sc__law_made.nd; (sf_cons (sf_ownW (ps_set (i := 1) nd rfl (Or.inl rfl) (pn_lst (paf_cons (pf_tup (paf_cons (pf_tup paf_nil) (paf_cons pf_int paf_nil))) paf_nil))) (fun _ _ _ q => q)) (sf_cons (sf_for (ps_for PassesOwn.never rfl (pif_tup rfl (pf_var (pv 0))) (pgf_tup (n := 2) rfl rfl (pgsf_cons (pgf_name (pg_name (i := 2) nd rfl (Or.inl rfl))) (pgsf_cons (pgf_name (pg_name (i := 3) nd rfl (Or.inl rfl))) pgsf_nil))) (sf_one (sf_for (ps_for PassesOwn.never rfl (pif_list rfl (pf_fn1 (fun ha => pe_callTy (k_lstT (K := K) rfl) rfl Tx.n_list (by decide +kernel) ha) fn_list (pg_var (pv 1)))) (pgf_name (pg_name (i := 4) nd rfl (Or.inl rfl))) (sf_cons (sf_set1 (ps_set (i := 5) nd rfl (Or.inl rfl) (pf_tup (paf_cons (pf_callD (pe_cal c__law_parted hG (hr.mono (by decide)) rfl (paf_cons (pf_var (pv 2)) (paf_cons (pf_ix (k_ix (K := K) rfl) op2_ix (pg_var (pv 4)) (pf_g pf_int) (fun _ _ => rfl)) paf_nil)))) (paf_cons (pf_op (fun ha hb => pe_op (k_mulX (K := K) rfl) ha hb) op2_mulX (pg_var (pv 3)) (pf_g (pf_ix (k_ix (K := K) rfl) op2_ix (pg_var (pv 4)) (pf_g pf_int) (fun _ _ => rfl)))) paf_nil))))) (sf_one (sf_if (ptf_cmp (k_notInD (K := K) rfl (Nat.lt_of_le_of_lt (Nat.add_le_add_left (by decide : 65 ≤ 150) _) hu2)) op2_ninL (pg_var (pv 5)) (pg_var (pv 1)) (by with_unfolding_all rfl)) (sf_one (sf_app (ps_expr (pe_bm PySem.F.plainAttrs_list PySem.F.slot_list_append PySem.F.type_list_append mt_append (pv 1) (pa_cons (pf_var (pv 5)) pa_nil))))) sf_nil)))))))) (sf_one (sf_ret (pf_fn1 (fun ha => pe_callTy (k_tupT (K := K) rfl) rfl Tx.n_tuple (by decide +kernel) ha) fn_tuple (pf_g (pf_fn1 (fun ha => pe_callB (k_sortedD (K := K) rfl hu) rfl Tx.n_sorted (by decide +kernel) ha) fn_sorted (pg_var (pv 1)))))))))⟩
theorem cal__law_made {P : Program} {w : World} {K : PySem.W.Frag} {mg : Str → Option Value} {base : Heap} {T : Addr → Prop} (Tx : Txt K mg) (D : Def1 K mg "_law_made" s__law_made) (c__law_parted : Cal P w K mg base "_law_parted" 1 P__law_parted (spD K T 2 g_parted)) {g : List PyData → M PyData} (hg : ∀ ds p, ds.length = 1 → (g ds).run p → (fnD 5 bd__law_made.1 ds).run p) : Cal P w K mg base "_law_made" 2 P__law_made (spD K T 1 g) := by
  refine D.cal (k := 2-1) sc__law_made (fun vs H Q E h => h.len) (fun _ _ _ _ _ _ us hl => match us, hl with | [_], _ => rfl) fun f cdv A outer s H vs Q E hG hr h => ?_
  obtain ⟨W0, H0, q⟩ := body_d' (N := N__law_made) (n := 1) (k := 5) (m := bd__law_made.1) rfl (h.imp hg)

  exact ⟨_, bd__law_made.2 Tx c__law_parted hG hr, q⟩
def bd__law_fitting : {m : Sg // ∀ {P : Program} {w : World} {K : PySem.W.Frag} {mg : Str → Option Value} {base : Heap} {f : Addr} {cdv : Value} {A : Around} {outer : List Env} {s : Shared} {H : Hp} {E : XK} {T : Addr → Prop} {W0 : Addr → Prop} {H0 : Hp} (Tx : Txt K mg) (c__law_runs : Cal P w K mg base "_law_runs" 1 P__law_runs (spD K T 1 g_lruns)) (c__law_sign : Cal P w K mg base "_law_sign" 1 P__law_sign (spD K T 2 g_sin)) (hG : Cl (A.deeper (envOfC "_law_fitting" (defScope s__law_fitting) s.heap.objs.size f cdv))) (hr : Room (2 - 1) (A.deeper (envOfC "_law_fitting" (defScope s__law_fitting) s.heap.objs.size f cdv))),
    PSs (cxOf CX0 P w K mg base N__law_fitting "_law_fitting" (defScope s__law_fitting) f cdv A outer s H E).nox (defBody s__law_fitting) (tSF (fc K T none W0 H0) m)} :=
  ⟨_, fun {P w K mg base f cdv A outer s H E T W0 H0} Tx c__law_runs c__law_sign hG hr => have hu := hr.units; have hu2 := u150 hr; have nd := sc__law_fitting.nd; (sf_cons (sf_set1 (ps_set (i := 2) nd rfl (Or.inl rfl) (pf_callD (pe_cal c__law_runs hG (hr.mono (by decide)) rfl (paf_cons (pf_var (pv 0)) paf_nil))))) (sf_cons (sf_for (ps_for PassesOwn.never rfl (pif_tup rfl (pf_var (pv 1))) (pgf_tup (n := 2) rfl rfl (pgsf_cons (pgf_name (pg_name (i := 3) nd rfl (Or.inr rfl))) (pgsf_cons (pgf_name (pg_name (i := 4) nd rfl (Or.inr rfl))) pgsf_nil))) (sf_one (sf_setLc (ps_setLc (i := 2) (own := [("_law_run_here", 5)]) (by rfl) nd rfl rfl (sw_true rfl rfl rfl (by decide +kernel)) (pif_list rfl (pf_var (pv 2))) (blkOk_by (own := [("_law_run_here", 5)]) (N := N__law_fitting) (sc := defScope s__law_fitting) (by decide +kernel)) (fun _ _ _ _ _ => (pgf_name (pg_name (i := 5) nd rfl (Or.inl rfl)))) (fun _ _ _ _ _ => (ptsf_one (ptf_cmp (k_eqX (K := K) rfl hu) op2_eqX (pf_g (pf_callD (pe_cal c__law_sign hG (hr.mono (by decide)) rfl (paf_cons (pf_var (pv 5)) (paf_cons (pf_var (pv 3)) paf_nil))))) (pg_var (pv 4)) (nomark _)))) (fun _ _ _ _ _ => (pf_var (pv 5)))))))) (sf_one (sf_ret (pf_fn1 (fun ha => pe_callTy (k_tupT (K := K) rfl) rfl Tx.n_tuple (by decide +kernel) ha) fn_tuple (pg_var (pv 2)))))))⟩
theorem cal__law_fitting {P : Program} {w : World} {K : PySem.W.Frag} {mg : Str → Option Value} {base : Heap} {T : Addr → Prop} (Tx : Txt K mg) (D : Def1 K mg "_law_fitting" s__law_fitting) (c__law_runs : Cal P w K mg base "_law_runs" 1 P__law_runs (spD K T 1 g_lruns)) (c__law_sign : Cal P w K mg base "_law_sign" 1 P__law_sign (spD K T 2 g_sin)) {g : List PyData → M PyData} (hg : ∀ ds p, ds.length = 2 → (g ds).run p → (fnD 4 bd__law_fitting.1 ds).run p) : Cal P w K mg base "_law_fitting" 2 P__law_fitting (spD K T 2 g) := by
  refine D.cal (k := 2-1) sc__law_fitting (fun vs H Q E h => h.len) (fun _ _ _ _ _ _ us hl => match us, hl with | [_, _], _ => rfl) fun f cdv A outer s H vs Q E hG hr h => ?_
  obtain ⟨W0, H0, q⟩ := body_d' (N := N__law_fitting) (n := 2) (k := 4) (m := bd__law_fitting.1) rfl (h.imp hg)

  exact ⟨_, bd__law_fitting.2 Tx c__law_runs c__law_sign hG hr, q⟩
end K2

set_option Elab.async false
set_option linter.all false
set_option maxRecDepth 100000
set_option maxHeartbeats 4000000
set_option autoImplicit false
namespace K2
open PySem PySem.Spec PyProof.Rows L2 RZ Gd Dl
def bd__law_run : {m : Sg // ∀ {P : Program} {w : World} {K : PySem.W.Frag} {mg : Str → Option Value} {base : Heap} {f : Addr} {cdv : Value} {A : Around} {outer : List Env} {s : Shared} {H : Hp} {E : XK} {T : Addr → Prop} {w0 : Addr} {W0 : Addr → Prop} {H0 : Hp} (Tx : Txt K mg) (c__law_one : Cal P w K mg base "_law_one" 2 P__law_one (spOne K)) (hG : Cl (A.deeper (envOfC "_law_run" (defScope s__law_run) s.heap.objs.size f cdv))) (hr : Room (3 - 1) (A.deeper (envOfC "_law_run" (defScope s__law_run) s.heap.objs.size f cdv))),
    PSs (cxOf CX0 P w K mg base N__law_run "_law_run" (defScope s__law_run) f cdv A outer s H E).nox (defBody s__law_run) (tSF (fc K T (some w0) W0 H0) m)} :=
  ⟨_, fun {P w K mg base f cdv A outer s H E T w0 W0 H0} Tx c__law_one hG hr => have hu := hr.units; have hu2 := u150 hr; have nd := sc__law_run.nd; (sf_cons (sf_set1 (ps_set (i := 2) nd rfl (Or.inl rfl) (pf_tup paf_nil))) (sf_cons (sf_for (ps_for PassesOwn.never rfl (pif_rg1 (pi_range1 rfl Tx.n_range (paf_cons (pf_var (pv 1)) paf_nil))) (pgf_name (pg_name (i := 3) nd rfl (Or.inl rfl))) (sf_one (sf_set1 (ps_set (i := 2) nd rfl (Or.inl rfl) (pf_op (fun ha hb => pe_op (k_add (K := K) rfl) ha hb) op2_add (pg_var (pv 2)) (pf_g (pf_tup (paf_cons (pf_one1 (pe_cal c__law_one hG (hr.mono (by decide)) rfl (pa_cons (pv 0) (pa_cons (pf_g (pf_tup (paf_cons pf_int (paf_cons (pf_un (fun ha => pe_un un_neg ha) fn1_neg (pf_g pf_int)) paf_nil)))) pa_nil)))) paf_nil))))))))) (sf_one (sf_ret (pf_var (pv 2))))))⟩
theorem cal__law_run {P : Program} {w : World} {K : PySem.W.Frag} {mg : Str → Option Value} {base : Heap} {T : Addr → Prop} (Tx : Txt K mg) (D : Def1 K mg "_law_run" s__law_run) (c__law_one : Cal P w K mg base "_law_one" 2 P__law_one (spOne K)) {g : List PyData → M PyData} (hg : ∀ ds p, ds.length = 1 → (g ds).run p → (fnW 2 bd__law_run.1 ds).run p) : Cal P w K mg base "_law_run" 3 P__law_run (spW K T 1 g) := by
  refine D.cal (k := 3-1) sc__law_run (fun vs H Q E h => h.len) (fun _ _ _ _ _ _ us hl => match us, hl with | [_, _], _ => rfl) fun f cdv A outer s H vs Q E hG hr h => ?_
  obtain ⟨w0, W0, H0, q⟩ := body_w' (N := N__law_run) (n := 1) (k := 2) (m := bd__law_run.1) rfl (h.imp hg)

  exact ⟨_, bd__law_run.2 Tx c__law_one hG hr, q⟩
def bd__law_effect : {m : Sg // ∀ {P : Program} {w : World} {K : PySem.W.Frag} {mg : Str → Option Value} {base : Heap} {f : Addr} {cdv : Value} {A : Around} {outer : List Env} {s : Shared} {H : Hp} {E : XK} {T : Addr → Prop} {w0 : Addr} {W0 : Addr → Prop} {H0 : Hp} (Tx : Txt K mg) (c__law_draw : Cal P w K mg base "_law_draw" 1 P__law_draw (spW K T 1 g_draw)) (hG : Cl (A.deeper (envOfC "_law_effect" (defScope s__law_effect) s.heap.objs.size f cdv))) (hr : Room (2 - 1) (A.deeper (envOfC "_law_effect" (defScope s__law_effect) s.heap.objs.size f cdv))),
    PSs (cxOf CX0 P w K mg base N__law_effect "_law_effect" (defScope s__law_effect) f cdv A outer s H E).nox (defBody s__law_effect) (tSF (fc K T (some w0) W0 H0) m)} :=
  ⟨_, fun {P w K mg base f cdv A outer s H E T w0 W0 H0} Tx c__law_draw hG hr => have hu := hr.units; have hu2 := u150 hr; have nd := sc__law_effect.nd; (sf_cons (sf_set1 (ps_set (i := 2) nd rfl (Or.inl rfl) (pf_tup paf_nil))) (sf_cons (sf_for (ps_for PassesOwn.never rfl (pif_rg1 (pi_range1 rfl Tx.n_range (paf_cons (pf_var (pv 1)) paf_nil))) (pgf_name (pg_name (i := 3) nd rfl (Or.inl rfl))) (sf_one (sf_if (ptf_cmp (k_eqX (K := K) rfl hu) op2_eqX (pf_g (pf_callW (pe_cal c__law_draw hG (hr.mono (by decide)) rfl (pa_cons (pv 0) (paf_cons pf_int paf_nil))))) (pf_g pf_int) (nomark _)) (sf_one (sf_set1 (ps_set (i := 2) nd rfl (Or.inl rfl) (pf_op (fun ha hb => pe_op (k_add (K := K) rfl) ha hb) op2_add (pg_var (pv 2)) (pf_g (pf_tup (paf_cons (pf_var (pv 3)) paf_nil))))))) sf_nil)))) (sf_one (sf_ret (pf_var (pv 2))))))⟩
theorem cal__law_effect {P : Program} {w : World} {K : PySem.W.Frag} {mg : Str → Option Value} {base : Heap} {T : Addr → Prop} (Tx : Txt K mg) (D : Def1 K mg "_law_effect" s__law_effect) (c__law_draw : Cal P w K mg base "_law_draw" 1 P__law_draw (spW K T 1 g_draw)) {g : List PyData → M PyData} (hg : ∀ ds p, ds.length = 1 → (g ds).run p → (fnW 2 bd__law_effect.1 ds).run p) : Cal P w K mg base "_law_effect" 2 P__law_effect (spW K T 1 g) := by
  refine D.cal (k := 2-1) sc__law_effect (fun vs H Q E h => h.len) (fun _ _ _ _ _ _ us hl => match us, hl with | [_, _], _ => rfl) fun f cdv A outer s H vs Q E hG hr h => ?_
  obtain ⟨w0, W0, H0, q⟩ := body_w' (N := N__law_effect) (n := 1) (k := 2) (m := bd__law_effect.1) rfl (h.imp hg)

  exact ⟨_, bd__law_effect.2 Tx c__law_draw hG hr, q⟩
def bd__law_words : {m : Sg // ∀ {P : Program} {w : World} {K : PySem.W.Frag} {mg : Str → Option Value} {base : Heap} {f : Addr} {cdv : Value} {A : Around} {outer : List Env} {s : Shared} {H : Hp} {E : XK} {T : Addr → Prop} {w0 : Addr} {W0 : Addr → Prop} {H0 : Hp} (Tx : Txt K mg) (c__law_run : Cal P w K mg base "_law_run" 3 P__law_run (spW K T 1 g_lrun)) (c__law_draw : Cal P w K mg base "_law_draw" 1 P__law_draw (spW K T 1 g_draw)) (c__law_effect : Cal P w K mg base "_law_effect" 2 P__law_effect (spW K T 1 g_leff)) (c__law_parted : Cal P w K mg base "_law_parted" 1 P__law_parted (spD K T 2 g_parted)) (c__law_one : Cal P w K mg base "_law_one" 2 P__law_one (spOne K)) (c__law_sign : Cal P w K mg base "_law_sign" 1 P__law_sign (spD K T 2 g_sin)) (hG : Cl (A.deeper (envOfC "_law_words" (defScope s__law_words) s.heap.objs.size f cdv))) (hr : Room (4 - 1) (A.deeper (envOfC "_law_words" (defScope s__law_words) s.heap.objs.size f cdv))),
    PSs (cxOf CX0 P w K mg base N__law_words "_law_words" (defScope s__law_words) f cdv A outer s H E).nox (defBody s__law_words) (tSF (fc K T (some w0) W0 H0) m)} :=
  ⟨_, fun {P w K mg base f cdv A outer s H E T w0 W0 H0} Tx c__law_run c__law_draw c__law_effect c__law_parted c__law_one c__law_sign hG hr => have hu := hr.units; have hu2 := u150 hr; have nd := sc__law_words.nd; (sf_cons (sf_par (ps_par (i := 4) (j := 5) rfl nd rfl rfl (by decide) rfl rfl (paf_cons (pf_callW (pe_cal c__law_run hG (hr.mono (by decide)) rfl (pa_cons (pv 0) (paf_cons (pf_var (pv 1)) paf_nil)))) (paf_cons (pf_tup paf_nil) paf_nil)) (by rfl))) (sf_cons (sf_for (ps_for PassesOwn.never rfl (pif_rg1 (pi_range1 rfl Tx.n_range (paf_cons (pf_callW (pe_cal c__law_draw hG (hr.mono (by decide)) rfl (pa_cons (pv 0) (paf_cons (pf_op (fun ha hb => pe_op (k_add (K := K) rfl) ha hb) op2_add (pg_var (pv 2)) (pf_g pf_int)) paf_nil)))) paf_nil))) (pgf_name (pg_name (i := 6) nd rfl (Or.inl rfl))) (sf_cons (sf_set1 (ps_set (i := 7) nd rfl (Or.inl rfl) (pf_callW (pe_cal c__law_effect hG (hr.mono (by decide)) rfl (pa_cons (pv 0) (paf_cons (pf_var (pv 1)) paf_nil)))))) (sf_cons (sf_if (PW.pt (pwf_and (ptf_cmp op_gtA op2_gt (pf_g (pf_fn1 (fun ha => pe_callB (k_len (K := K) rfl) rfl Tx.n_len (by decide +kernel) ha) fn_len (pg_var (pv 5)))) (pf_g pf_int) (nomark _)) (pwf_and1 (ptf_cmp (k_eqX (K := K) rfl hu) op2_eqX (pf_g (pf_callW (pe_cal c__law_draw hG (hr.mono (by decide)) rfl (pa_cons (pv 0) (paf_cons pf_int paf_nil))))) (pf_g pf_int) (nomark _))))) (sf_one (sf_set1 (ps_set (i := 7) nd rfl (Or.inl rfl) (pf_callD (pe_cal c__law_parted hG (hr.mono (by decide)) rfl (paf_cons (pf_ix (k_ix (K := K) rfl) op2_ix (pf_g (pf_one1 (pe_cal c__law_one hG (hr.mono (by decide)) rfl (pa_cons (pv 0) (pa_cons (pg_var (pv 5)) pa_nil))))) (pf_g pf_int) (fun _ _ => rfl)) (paf_cons (pf_ix (k_ix (K := K) rfl) op2_ix (pf_g (pf_one1 (pe_cal c__law_one hG (hr.mono (by decide)) rfl (pa_cons (pv 0) (pa_cons (pg_var (pv 5)) pa_nil))))) (pf_g pf_int) (fun _ _ => rfl)) paf_nil))))))) sf_nil) (sf_cons (sf_set1 (ps_set (i := 7) nd rfl (Or.inl rfl) (pf_if (ptf_cmp (k_eqX (K := K) rfl hu) op2_eqX (pg_var (pv 7)) (pf_g (pf_tup paf_nil)) (nomark _)) (pf_tup (paf_cons (pf_callW (pe_cal c__law_draw hG (hr.mono (by decide)) rfl (pa_cons (pv 0) (paf_cons (pf_var (pv 1)) paf_nil)))) paf_nil)) (pf_var (pv 7))))) (sf_one (sf_set1 (ps_set (i := 5) nd rfl (Or.inl rfl) (pf_op (fun ha hb => pe_op (k_add (K := K) rfl) ha hb) op2_add (pg_var (pv 5)) (pf_g (pf_tup (paf_cons (pf_tup (paf_cons (pf_var (pv 7)) (paf_cons (pf_if (ptf_val (pf_var (pv 3))) (pf_callD (pe_cal c__law_sign hG (hr.mono (by decide)) rfl (paf_cons (pf_var (pv 4)) (paf_cons (pf_var (pv 7)) paf_nil)))) (pf_one1 (pe_cal c__law_one hG (hr.mono (by decide)) rfl (pa_cons (pv 0) (pa_cons (pf_g (pf_tup (paf_cons pf_int (paf_cons (pf_un (fun ha => pe_un un_neg ha) fn1_neg (pf_g pf_int)) paf_nil)))) pa_nil))))) paf_nil))) paf_nil)))))))))))) (sf_one (sf_ret (pf_var (pv 5))))))⟩
theorem cal__law_words {P : Program} {w : World} {K : PySem.W.Frag} {mg : Str → Option Value} {base : Heap} {T : Addr → Prop} (Tx : Txt K mg) (D : Def1 K mg "_law_words" s__law_words) (c__law_run : Cal P w K mg base "_law_run" 3 P__law_run (spW K T 1 g_lrun)) (c__law_draw : Cal P w K mg base "_law_draw" 1 P__law_draw (spW K T 1 g_draw)) (c__law_effect : Cal P w K mg base "_law_effect" 2 P__law_effect (spW K T 1 g_leff)) (c__law_parted : Cal P w K mg base "_law_parted" 1 P__law_parted (spD K T 2 g_parted)) (c__law_one : Cal P w K mg base "_law_one" 2 P__law_one (spOne K)) (c__law_sign : Cal P w K mg base "_law_sign" 1 P__law_sign (spD K T 2 g_sin)) {g : List PyData → M PyData} (hg : ∀ ds p, ds.length = 3 → (g ds).run p → (fnW 4 bd__law_words.1 ds).run p) : Cal P w K mg base "_law_words" 4 P__law_words (spW K T 3 g) := by
  refine D.cal (k := 4-1) sc__law_words (fun vs H Q E h => h.len) (fun _ _ _ _ _ _ us hl => match us, hl with | [_, _, _, _], _ => rfl) fun f cdv A outer s H vs Q E hG hr h => ?_
  obtain ⟨w0, W0, H0, q⟩ := body_w' (N := N__law_words) (n := 3) (k := 4) (m := bd__law_words.1) rfl (h.imp hg)

  exact ⟨_, bd__law_words.2 Tx c__law_run c__law_draw c__law_effect c__law_parted c__law_one c__law_sign hG hr, q⟩
end K2

set_option Elab.async false
set_option linter.all false
set_option maxRecDepth 100000
set_option maxHeartbeats 4000000
set_option autoImplicit false
namespace K2
open PySem PySem.Spec PyProof.Rows L2 RZ Gd Dl
def bd__law_right : {m : Sg // ∀ {P : Program} {w : World} {K : PySem.W.Frag} {mg : Str → Option Value} {base : Heap} {f : Addr} {cdv : Value} {A : Around} {outer : List Env} {s : Shared} {H : Hp} {E : XK} {T : Addr → Prop} {w0 : Addr} {W0 : Addr → Prop} {H0 : Hp} (Tx : Txt K mg) (hS : SysM base) (c__law_words : Cal P w K mg base "_law_words" 4 P__law_words (spW K T 3 g_lwords)) (c__law_parted : Cal P w K mg base "_law_parted" 1 P__law_parted (spD K T 2 g_parted)) (c__law_one : Cal P w K mg base "_law_one" 2 P__law_one (spOne K)) (c__law_draw : Cal P w K mg base "_law_draw" 1 P__law_draw (spW K T 1 g_draw)) (c__law_run : Cal P w K mg base "_law_run" 3 P__law_run (spW K T 1 g_lrun)) (c__law_effect : Cal P w K mg base "_law_effect" 2 P__law_effect (spW K T 1 g_leff)) (c__law_sign : Cal P w K mg base "_law_sign" 1 P__law_sign (spD K T 2 g_sin)) (c_effect_sign : Cal P w K mg base "effect_sign" 5 P_effect_sign (spD K T 2 g_esign)) (k_effect_sign : CalK P w K mg base "effect_sign" 5 P_effect_sign ["effect", "run"] (spD K T 2 g_esign) gRev) (c__law_made : Cal P w K mg base "_law_made" 2 P__law_made (spD K T 1 g_lmade)) (c__law_fitting : Cal P w K mg base "_law_fitting" 2 P__law_fitting (spD K T 2 g_pieceof)) (c_odd_lot : Cal P w K mg base "odd_lot" 4 P_odd_lot (spD K T 3 g_oddlot)) (k_odd_lot : CalK P w K mg base "odd_lot" 4 P_odd_lot ["other", "effect", "factors"] (spD K T 3 g_oddlot) gRev) (c_products : Cal P w K mg base "products" 6 P_products (spD K T 2 g_products)) (k_products : CalK P w K mg base "products" 6 P_products ["words", "factors"] (spD K T 2 g_products) gRev) (c_piece : Cal P w K mg base "piece" 6 P_piece (spD K T 2 g_piece)) (k_piece : CalK P w K mg base "piece" 6 P_piece ["words", "factors"] (spD K T 2 g_piece) gRev) (hG : Cl (A.deeper (envOfC "_law_right" (defScope s__law_right) s.heap.objs.size f cdv))) (hr : Room (10 - 1) (A.deeper (envOfC "_law_right" (defScope s__law_right) s.heap.objs.size f cdv))),
    PSs (cxOf CX0 P w K mg base N__law_right "_law_right" (defScope s__law_right) f cdv A outer s H E).nox (defBody s__law_right) (tSF (fc K T (some w0) W0 H0) m)} :=
  ⟨_, fun {P w K mg base f cdv A outer s H E T w0 W0 H0} Tx hS c__law_words c__law_parted c__law_one c__law_draw c__law_run c__law_effect c__law_sign c_effect_sign k_effect_sign c__law_made c__law_fitting c_odd_lot k_odd_lot c_products k_products c_piece k_piece hG hr => have hu := hr.units; have hu2 := u150 hr; have nd := sc__law_right.nd; (sf_cons (sf_for (ps_for PassesOwn.never rfl (pif_rg1 (pi_range1 rfl Tx.n_range (paf_cons pf_int paf_nil))) (pgf_name (pg_name (i := 1) nd rfl (Or.inl rfl))) (sf_cons (sf_set1 (ps_set (i := 2) nd rfl (Or.inl rfl) (pf_op (fun ha hb => pe_op (k_add (K := K) rfl) ha hb) op2_add (pf_g pf_int) (pf_g (pf_callW (pe_cal c__law_draw hG (hr.mono (by decide)) rfl (pa_cons (pv 0) (paf_cons pf_int paf_nil)))))))) (sf_cons (sf_set1 (ps_set (i := 3) nd rfl (Or.inl rfl) (pf_callW (pe_cal c__law_words hG (hr.mono (by decide)) rfl (pa_cons (pv 0) (paf_cons (pf_var (pv 2)) (paf_cons pf_int (paf_cons (pf_cmp op_gtA op2_gt (pf_g (pf_callW (pe_cal c__law_draw hG (hr.mono (by decide)) rfl (pa_cons (pv 0) (paf_cons pf_int paf_nil))))) (pf_g pf_int) (nomark _)) paf_nil)))))))) (sf_cons (sf_par3 (ps_par3 (i := 4) (j := 5) (l := 6) rfl nd rfl rfl rfl (by decide) (by decide) (by decide) rfl rfl rfl (paf_cons (pf_callW (pe_cal c__law_run hG (hr.mono (by decide)) rfl (pa_cons (pv 0) (paf_cons (pf_var (pv 2)) paf_nil)))) (paf_cons (pf_callW (pe_cal c__law_effect hG (hr.mono (by decide)) rfl (pa_cons (pv 0) (paf_cons (pf_var (pv 2)) paf_nil)))) (paf_cons (pf_callW (pe_cal c__law_effect hG (hr.mono (by decide)) rfl (pa_cons (pv 0) (paf_cons (pf_var (pv 2)) paf_nil)))) paf_nil))) (by rfl))) (sf_cons (sf_set1 (ps_set (i := 7) nd rfl (Or.inl rfl) (pf_callD (pe_cal c__law_parted hG (hr.mono (by decide)) rfl (paf_cons (pf_var (pv 5)) (paf_cons (pf_var (pv 6)) paf_nil)))))) (sf_cons (sf_if (ptf_cmp (k_neX (K := K) rfl hu) op2_neX (pf_g (pf_fn1 (fun ha => pe_callB (k_reprA (K := K) rfl hS hG hu2) rfl Tx.n_repr (by decide +kernel) ha) fn_repr (pf_g (pf_lst (paf_cons (pf_callD (pe_cal c_odd_lot hG (hr.mono (by decide)) rfl (paf_cons (pf_var (pv 2)) (paf_cons (pf_var (pv 5)) (paf_cons (pf_var (pv 6)) paf_nil))))) (paf_cons (pf_callK (pe_calK k_odd_lot hG (hr.mono (by decide)) rfl (pkf_cons (pf_var (pv 5)) (pkf_cons (pf_var (pv 6)) (pkf_cons (pf_var (pv 2)) pkf_nil)))) (fun r => r.rev) (fun _ _ _ q => q)) paf_nil)))))) (pf_g (pf_fn1 (fun ha => pe_callB (k_reprA (K := K) rfl hS hG hu2) rfl Tx.n_repr (by decide +kernel) ha) fn_repr (pf_g (pf_lst (paf_cons (pf_var (pv 7)) (paf_cons (pf_var (pv 7)) paf_nil)))))) (nomark _)) (sf_one (sf_ret pf_bl)) sf_nil) (sf_cons (sf_set1 (ps_set (i := 8) nd rfl (Or.inl rfl) (pf_lst (paf_cons (pf_callD (pe_cal c__law_sign hG (hr.mono (by decide)) rfl (paf_cons (pf_var (pv 4)) (paf_cons (pf_var (pv 5)) paf_nil)))) (paf_cons (pf_callD (pe_cal c__law_sign hG (hr.mono (by decide)) rfl (paf_cons (pf_var (pv 4)) (paf_cons (pf_var (pv 6)) paf_nil)))) paf_nil))))) (sf_cons (sf_set1 (ps_set (i := 9) nd rfl (Or.inl rfl) (pf_lst (paf_cons (pf_callD (pe_cal c_effect_sign hG (hr.mono (by decide)) rfl (paf_cons (pf_var (pv 4)) (paf_cons (pf_var (pv 5)) paf_nil)))) (paf_cons (pf_callK (pe_calK k_effect_sign hG (hr.mono (by decide)) rfl (pkf_cons (pf_var (pv 6)) (pkf_cons (pf_var (pv 4)) pkf_nil))) (fun r => r.rev) (fun _ _ _ q => q)) (paf_cons (pf_callD (pe_cal c_effect_sign hG (hr.mono (by decide)) rfl (paf_cons (pf_var (pv 4)) (paf_cons (pf_var (pv 7)) paf_nil)))) paf_nil)))))) (sf_cons (sf_if (ptf_cmp (k_neX (K := K) rfl hu) op2_neX (pf_g (pf_fn1 (fun ha => pe_callB (k_reprA (K := K) rfl hS hG hu2) rfl Tx.n_repr (by decide +kernel) ha) fn_repr (pg_var (pv 9)))) (pf_g (pf_fn1 (fun ha => pe_callB (k_reprA (K := K) rfl hS hG hu2) rfl Tx.n_repr (by decide +kernel) ha) fn_repr (pf_g (pf_op (fun ha hb => pe_op (k_add (K := K) rfl) ha hb) op2_add (pg_var (pv 8)) (pf_g (pf_lst (paf_cons (pf_op (fun ha hb => pe_op (k_mulX (K := K) rfl) ha hb) op2_mulX (pf_g (pf_ix (k_ix (K := K) rfl) op2_ix (pg_var (pv 8)) (pf_g pf_int) (fun _ _ => rfl))) (pf_g (pf_ix (k_ix (K := K) rfl) op2_ix (pg_var (pv 8)) (pf_g pf_int) (fun _ _ => rfl)))) paf_nil))))))) (nomark _)) (sf_one (sf_ret pf_bl)) sf_nil) (sf_cons (sf_par (ps_par (i := 10) (j := 11) rfl nd rfl rfl (by decide) rfl rfl (paf_cons (pf_callD (pe_cal c__law_made hG (hr.mono (by decide)) rfl (paf_cons (pf_var (pv 3)) paf_nil))) (paf_cons (pf_callD (pe_cal c__law_fitting hG (hr.mono (by decide)) rfl (paf_cons (pf_var (pv 2)) (paf_cons (pf_var (pv 3)) paf_nil)))) paf_nil)) (by rfl))) (sf_cons (sf_if (ptf_cmp (k_neX (K := K) rfl hu) op2_neX (pf_g (pf_fn1 (fun ha => pe_callB (k_reprA (K := K) rfl hS hG hu2) rfl Tx.n_repr (by decide +kernel) ha) fn_repr (pf_g (pf_lst (paf_cons (pf_callD (pe_cal c_products hG (hr.mono (by decide)) rfl (paf_cons (pf_var (pv 2)) (paf_cons (pf_var (pv 3)) paf_nil)))) (paf_cons (pf_callK (pe_calK k_products hG (hr.mono (by decide)) rfl (pkf_cons (pf_var (pv 3)) (pkf_cons (pf_var (pv 2)) pkf_nil))) (fun r => r.rev) (fun _ _ _ q => q)) paf_nil)))))) (pf_g (pf_fn1 (fun ha => pe_callB (k_reprA (K := K) rfl hS hG hu2) rfl Tx.n_repr (by decide +kernel) ha) fn_repr (pf_g (pf_lst (paf_cons (pf_var (pv 10)) (paf_cons (pf_var (pv 10)) paf_nil)))))) (nomark _)) (sf_one (sf_ret pf_bl)) sf_nil) (sf_cons (sf_if (ptf_cmp (k_neX (K := K) rfl hu) op2_neX (pf_g (pf_fn1 (fun ha => pe_callB (k_reprA (K := K) rfl hS hG hu2) rfl Tx.n_repr (by decide +kernel) ha) fn_repr (pf_g (pf_lst (paf_cons (pf_callD (pe_cal c_piece hG (hr.mono (by decide)) rfl (paf_cons (pf_var (pv 2)) (paf_cons (pf_var (pv 3)) paf_nil)))) (paf_cons (pf_callK (pe_calK k_piece hG (hr.mono (by decide)) rfl (pkf_cons (pf_var (pv 3)) (pkf_cons (pf_var (pv 2)) pkf_nil))) (fun r => r.rev) (fun _ _ _ q => q)) paf_nil)))))) (pf_g (pf_fn1 (fun ha => pe_callB (k_reprA (K := K) rfl hS hG hu2) rfl Tx.n_repr (by decide +kernel) ha) fn_repr (pf_g (pf_lst (paf_cons (pf_var (pv 11)) (paf_cons (pf_var (pv 11)) paf_nil)))))) (nomark _)) (sf_one (sf_ret pf_bl)) sf_nil) (sf_cons (sf_set1 (ps_set (i := 12) nd rfl (Or.inl rfl) (pf_one1 (pe_cal c__law_one hG (hr.mono (by decide)) rfl (pa_cons (pv 0) (pa_cons (pg_var (pv 10)) pa_nil)))))) (sf_one (sf_if (PW.pt (pwf_and (ptf_cmp op_ltA op2_lt (pf_g (pf_fn1 (fun ha => pe_callB (k_len (K := K) rfl) rfl Tx.n_len (by decide +kernel) ha) fn_len (pg_var (pv 3)))) (pf_g pf_int) (nomark _)) (pwf_and1 (ptf_cmp (k_neX (K := K) rfl hu) op2_neX (pf_g (pf_ix (k_ix (K := K) rfl) op2_ix (pg_var (pv 12)) (pf_g pf_int) (fun _ _ => rfl))) (pf_g (pf_tup paf_nil)) (nomark _))))) (sf_cons (sf_if (PW.pt (pwf_or (ptf_cmp (k_neX (K := K) rfl hu) op2_neX (pf_g (pf_fn1 (fun ha => pe_callB (k_reprA (K := K) rfl hS hG hu2) rfl Tx.n_repr (by decide +kernel) ha) fn_repr (pf_g (pf_callD (pe_cal c_piece hG (hr.mono (by decide)) rfl (paf_cons (pf_var (pv 2)) (paf_cons (pf_op (fun ha hb => pe_op (k_add (K := K) rfl) ha hb) op2_add (pg_var (pv 3)) (pf_g (pf_tup (paf_cons (pf_var (pv 12)) paf_nil)))) paf_nil))))))) (pf_g (pf_fn1 (fun ha => pe_callB (k_reprA (K := K) rfl hS hG hu2) rfl Tx.n_repr (by decide +kernel) ha) fn_repr (pg_var (pv 11)))) (nomark _)) (pwf_or1 (ptf_cmp (k_neX (K := K) rfl hu) op2_neX (pf_g (pf_fn1 (fun ha => pe_callB (k_reprA (K := K) rfl hS hG hu2) rfl Tx.n_repr (by decide +kernel) ha) fn_repr (pf_g (pf_callD (pe_cal c_products hG (hr.mono (by decide)) rfl (paf_cons (pf_var (pv 2)) (paf_cons (pf_op (fun ha hb => pe_op (k_add (K := K) rfl) ha hb) op2_add (pg_var (pv 3)) (pf_g (pf_tup (paf_cons (pf_var (pv 12)) paf_nil)))) paf_nil))))))) (pf_g (pf_fn1 (fun ha => pe_callB (k_reprA (K := K) rfl hS hG hu2) rfl Tx.n_repr (by decide +kernel) ha) fn_repr (pg_var (pv 10)))) (nomark _))))) (sf_one (sf_ret pf_bl)) sf_nil) (sf_one (sf_if (ptf_cmp (k_neX (K := K) rfl hu) op2_neX (pf_g (pf_fn1 (fun ha => pe_callB (k_reprA (K := K) rfl hS hG hu2) rfl Tx.n_repr (by decide +kernel) ha) fn_repr (pf_g (pf_callD (pe_cal c_piece hG (hr.mono (by decide)) rfl (paf_cons (pf_var (pv 2)) (paf_cons (pf_op (fun ha hb => pe_op (k_add (K := K) rfl) ha hb) op2_add (pg_var (pv 3)) (pf_g (pf_tup (paf_cons (pf_tup (paf_cons (pf_ix (k_ix (K := K) rfl) op2_ix (pg_var (pv 12)) (pf_g pf_int) (fun _ _ => rfl)) (paf_cons (pf_op (fun ha hb => pe_op op_sub ha hb) op2_sub (pf_g pf_int) (pf_g (pf_ix (k_ix (K := K) rfl) op2_ix (pg_var (pv 12)) (pf_g pf_int) (fun _ _ => rfl)))) paf_nil))) paf_nil)))) paf_nil))))))) (pf_g pf_str) (nomark _)) (sf_one (sf_ret pf_bl)) sf_nil))) sf_nil)))))))))))))))) (sf_one (sf_ret pf_bl)))⟩
theorem cal__law_right {P : Program} {w : World} {K : PySem.W.Frag} {mg : Str → Option Value} {base : Heap} {T : Addr → Prop} (Tx : Txt K mg) (hS : SysM base) (D : Def1 K mg "_law_right" s__law_right) (c__law_words : Cal P w K mg base "_law_words" 4 P__law_words (spW K T 3 g_lwords)) (c__law_parted : Cal P w K mg base "_law_parted" 1 P__law_parted (spD K T 2 g_parted)) (c__law_one : Cal P w K mg base "_law_one" 2 P__law_one (spOne K)) (c__law_draw : Cal P w K mg base "_law_draw" 1 P__law_draw (spW K T 1 g_draw)) (c__law_run : Cal P w K mg base "_law_run" 3 P__law_run (spW K T 1 g_lrun)) (c__law_effect : Cal P w K mg base "_law_effect" 2 P__law_effect (spW K T 1 g_leff)) (c__law_sign : Cal P w K mg base "_law_sign" 1 P__law_sign (spD K T 2 g_sin)) (c_effect_sign : Cal P w K mg base "effect_sign" 5 P_effect_sign (spD K T 2 g_esign)) (k_effect_sign : CalK P w K mg base "effect_sign" 5 P_effect_sign ["effect", "run"] (spD K T 2 g_esign) gRev) (c__law_made : Cal P w K mg base "_law_made" 2 P__law_made (spD K T 1 g_lmade)) (c__law_fitting : Cal P w K mg base "_law_fitting" 2 P__law_fitting (spD K T 2 g_pieceof)) (c_odd_lot : Cal P w K mg base "odd_lot" 4 P_odd_lot (spD K T 3 g_oddlot)) (k_odd_lot : CalK P w K mg base "odd_lot" 4 P_odd_lot ["other", "effect", "factors"] (spD K T 3 g_oddlot) gRev) (c_products : Cal P w K mg base "products" 6 P_products (spD K T 2 g_products)) (k_products : CalK P w K mg base "products" 6 P_products ["words", "factors"] (spD K T 2 g_products) gRev) (c_piece : Cal P w K mg base "piece" 6 P_piece (spD K T 2 g_piece)) (k_piece : CalK P w K mg base "piece" 6 P_piece ["words", "factors"] (spD K T 2 g_piece) gRev) {g : List PyData → M PyData} (hg : ∀ ds p, ds.length = 0 → (g ds).run p → (fnW 12 bd__law_right.1 ds).run p) : Cal P w K mg base "_law_right" 10 P__law_right (spW K T 0 g) := by
  refine D.cal (k := 10-1) sc__law_right (fun vs H Q E h => h.len) (fun _ _ _ _ _ _ us hl => match us, hl with | [_], _ => rfl) fun f cdv A outer s H vs Q E hG hr h => ?_
  obtain ⟨w0, W0, H0, q⟩ := body_w' (N := N__law_right) (n := 0) (k := 12) (m := bd__law_right.1) rfl (h.imp hg)

  exact ⟨_, bd__law_right.2 Tx hS c__law_words c__law_parted c__law_one c__law_draw c__law_run c__law_effect c__law_sign c_effect_sign k_effect_sign c__law_made c__law_fitting c_odd_lot k_odd_lot c_products k_products c_piece k_piece hG hr, q⟩
end K2

set_option Elab.async false
set_option linter.all false
set_option maxRecDepth 100000
set_option maxHeartbeats 4000000
set_option autoImplicit false
namespace K2
open PySem PySem.Spec PyProof.Rows L2 RZ Gd Dl
/-! the group of the words, and its signs -/
theorem asc_len {hi : Int} : ∀ {l : List Int} {lo : Int}, lo ≤ hi → l.Pairwise (· < ·) → (∀ k ∈ l, lo ≤ k ∧ k < hi) → (l.length : Int) ≤ hi - lo
  | [], lo, h, _, _ => by simp; omega
  | k :: l, lo, h, p, m => by
    obtain ⟨p1, p2⟩ := List.pairwise_cons.mp p
    have mk := m k (List.mem_cons_self ..)
    have := asc_len (lo := k + 1) (by omega) p2 fun j hj => ⟨by have := p1 j hj; omega, (m j (List.mem_cons_of_mem _ hj)).2⟩
    rw [List.length_cons]
    omega
theorem Lot.small {n : Int} {a : List Int} (h : Lot n a) (h6 : n ≤ 6) : small6 a := by
  have m : ∀ k ∈ a, 0 ≤ k ∧ k < 6 := fun k hk => by have := h.inn k hk; omega
  have := asc_len (lo := 0) (by decide) h.asc m
  exact ⟨by omega, m⟩
theorem Lot.up {n : Int} {a : List Int} (h : Lot n a) (h6 : n ≤ 6) : Lot 6 a := ⟨h.asc, (h.small h6).2⟩
theorem Lot.nil {n : Int} : Lot n [] := ⟨.nil, fun _ h => nomatch h⟩
theorem xorI_comm (a b : List Int) : xorI a b = xorI b a := by
  unfold xorI
  congr 1
  funext k
  cases decide (k ∈ a) <;> cases decide (k ∈ b) <;> rfl
theorem xorI_self (a : List Int) : xorI a a = [] := by
  unfold xorI
  rw [List.filter_eq_nil_iff]
  simp
theorem Lot.xor {n : Int} {a b : List Int} (h6 : n ≤ 6) (ha : Lot n a) (hb : Lot n b) : Lot n (xorI a b) := by
  refine ⟨xorI_asc a b, fun k hk => ?_⟩
  rw [xorI_mem (ha.small h6) (hb.small h6)] at hk
  by_cases c : k ∈ b
  · exact hb.inn k c
  · by_cases d : k ∈ a
    · exact ha.inn k d
    · simp [c, d] at hk
theorem xorI_nil {a : List Int} (h : Lot 6 a) : xorI a [] = a := by
  refine asc_uniq (xorI_asc _ _) h.asc fun k => ?_
  rw [xorI_mem (h.small (by decide)) ((Lot.nil (n := 6)).small (by decide))]
  simp
theorem xorI_assoc {a b c : List Int} (ha : Lot 6 a) (hb : Lot 6 b) (hc : Lot 6 c) : xorI (xorI a b) c = xorI a (xorI b c) := by
  have h6 : (6 : Int) ≤ 6 := by decide
  refine asc_uniq (xorI_asc _ _) (xorI_asc _ _) fun k => ?_
  have e1 := xorI_mem (ha.small h6) (hb.small h6) k
  have e2 := xorI_mem (hb.small h6) (hc.small h6) k
  rw [xorI_mem ((ha.xor h6 hb).small h6) (hc.small h6), xorI_mem (ha.small h6) ((hb.xor h6 hc).small h6)]
  have d1 : decide (k ∈ xorI a b) = (decide (k ∈ b) != decide (k ∈ a)) := by
    rw [Bool.eq_iff_iff, decide_eq_true_iff]
    exact e1
  have d2 : decide (k ∈ xorI b c) = (decide (k ∈ c) != decide (k ∈ b)) := by
    rw [Bool.eq_iff_iff, decide_eq_true_iff]
    exact e2
  rw [d1, d2]
  generalize decide (k ∈ a) = x
  generalize decide (k ∈ b) = y
  generalize decide (k ∈ c) = z
  revert x y z
  decide
/-! signs -/
def pr (r : List Int) : List Int → Int
  | [] => 1
  | k :: l => r.getD k.toNat 0 * pr r l
theorem sgn_from (r : List Int) : ∀ (l : List Int) (s : Int), l.foldl (fun s k => s * r.getD k.toNat 0) s = s * pr r l
  | [], s => by simp [pr]
  | k :: l, s => by
    rw [List.foldl_cons, sgn_from r l, pr, Int.mul_assoc]
theorem sgn_pr (r l : List Int) : sgn r l = pr r l := by
  unfold sgn
  rw [sgn_from, Int.one_mul]
theorem Run.at {n : Nat} {r : List Int} (h : Run n r) {k : Int} (h0 : 0 ≤ k) (h1 : k < n) : Sg1 (r.getD k.toNat 0) := by
  have : k.toNat < r.length := by rw [h.len]; omega
  rw [List.getD_eq_getElem?_getD, List.getElem?_eq_getElem this]
  exact h.sg _ (List.getElem_mem this)
theorem Sg1.mul {s t : Int} (hs : Sg1 s) (ht : Sg1 t) : Sg1 (s * t) := by
  rcases hs with rfl | rfl <;> rcases ht with rfl | rfl <;> simp [Sg1]
theorem Sg1.sq {s : Int} (h : Sg1 s) : s * s = 1 := by
  rcases h with rfl | rfl <;> rfl
theorem pr_sg {n : Nat} {r : List Int} (h : Run n r) : ∀ {l : List Int}, (∀ k ∈ l, 0 ≤ k ∧ k < n) → Sg1 (pr r l)
  | [], _ => .inl rfl
  | k :: l, m => (h.at (m k (List.mem_cons_self ..)).1 (m k (List.mem_cons_self ..)).2).mul (pr_sg h fun j hj => m j (List.mem_cons_of_mem _ hj))
theorem sgn_sg {n : Nat} {r a : List Int} (h : Run n r) (ha : Lot n a) : Sg1 (sgn r a) := by
  rw [sgn_pr]
  exact pr_sg h ha.inn
theorem pr_xor {r : List Int} {p q : Int → Bool} : ∀ {l : List Int}, (∀ k ∈ l, p k = true → q k = true → Sg1 (r.getD k.toNat 0)) → pr r (l.filter fun k => q k != p k) = pr r (l.filter p) * pr r (l.filter q)
  | [], _ => rfl
  | k :: l, h => by
    have ih := pr_xor (r := r) (p := p) (q := q) (l := l) fun j hj => h j (List.mem_cons_of_mem _ hj)
    have hk := h k (List.mem_cons_self ..)
    simp only [List.filter_cons]
    cases hp : p k <;> cases hq : q k
    · simpa using ih
    · simp only [bne_self_eq_false, Bool.false_eq_true, if_false, if_true, Bool.true_bne, Bool.not_false, pr]
      rw [ih, ← Int.mul_assoc, Int.mul_comm (r.getD k.toNat 0), Int.mul_assoc]
    · simp only [Bool.false_bne, Bool.false_eq_true, if_false, if_true, pr]
      rw [ih, Int.mul_assoc]
    · have z := (hk hp hq).sq
      simp only [bne_self_eq_false, Bool.false_eq_true, if_false, if_true, pr]
      rw [ih]
      generalize r.getD k.toNat 0 = t at *
      generalize pr r (l.filter p) = x
      generalize pr r (l.filter q) = y
      have : t * x * (t * y) = t * t * (x * y) := by simp only [Int.mul_assoc, Int.mul_left_comm, Int.mul_comm]
      rw [this, z, Int.one_mul]
theorem lot_filter {a : List Int} (h : Lot 6 a) : (((List.range 6).map fun k : Nat => (k : Int)).filter fun k => decide (k ∈ a)) = a := by
  refine asc_uniq (List.Pairwise.sublist List.filter_sublist (range_asc 6)) h.asc fun k => ?_
  rw [List.mem_filter, decide_eq_true_iff]
  refine ⟨fun z => z.2, fun z => ⟨?_, z⟩⟩
  have := h.inn k z
  exact List.mem_map.mpr ⟨k.toNat, List.mem_range.mpr (by omega), by omega⟩
theorem sgn_xor {n : Nat} {r a b : List Int} (n6 : (n : Int) ≤ 6) (h : Run n r) (ha : Lot n a) (hb : Lot n b) : sgn r (xorI a b) = sgn r a * sgn r b := by
  rw [sgn_pr, sgn_pr, sgn_pr]
  conv => rhs; rw [← lot_filter (ha.up n6), ← lot_filter (hb.up n6)]
  exact pr_xor (p := fun k => decide (k ∈ a)) (q := fun k => decide (k ∈ b)) fun k hk hp hq => by
    have := ha.inn k (of_decide_eq_true hp)
    exact h.at this.1 this.2
/-! the words' group -/
structure Gw (n : Int) (w : Wd) : Prop where
  lot : Lot n w.1
  sg : Sg1 w.2
theorem Wok.g {n : Int} {w : Wd} (h : Wok n w) : Gw n w := ⟨h.lot, h.sg⟩
section
variable {n : Int} (n6 : n ≤ 6)
include n6
theorem jn_g {x y : Wd} (hx : Gw n x) (hy : Gw n y) : Gw n (jn x y) := ⟨hx.lot.xor n6 hy.lot, hx.sg.mul hy.sg⟩
theorem jn_comm (x y : Wd) : jn x y = jn y x := by
  unfold jn
  rw [xorI_comm, Int.mul_comm]
theorem jn_assoc {x y z : Wd} (hx : Gw n x) (hy : Gw n y) (hz : Gw n z) : jn (jn x y) z = jn x (jn y z) := by
  unfold jn
  simp only
  rw [xorI_assoc (hx.lot.up n6) (hy.lot.up n6) (hz.lot.up n6), Int.mul_assoc]
theorem jn_self {x : Wd} (hx : Gw n x) : jn x x = ([], 1) := by
  unfold jn
  rw [xorI_self, hx.sg.sq]
theorem jn_one {x : Wd} (hx : Gw n x) : jn x ([], 1) = x := by
  unfold jn
  simp only
  rw [xorI_nil (hx.lot.up n6), Int.mul_one]
theorem jn_twice {x w : Wd} (hx : Gw n x) (hw : Gw n w) : jn (jn x w) w = x := by rw [jn_assoc n6 hx hw hw, jn_self n6 hw, jn_one n6 hx]
omit n6 in
theorem mem_grow {S : List Wd} {w x : Wd} : x ∈ grow S w ↔ x ∈ S ∨ ∃ y ∈ S, jn y w = x := by
  unfold grow
  rw [List.mem_append, List.mem_filter, List.mem_map]
  constructor
  · rintro (h | ⟨h, _⟩)
    · exact .inl h
    · exact .inr h
  · rintro (h | h)
    · exact .inl h
    · by_cases c : x ∈ S
      · exact .inl c
      · exact .inr ⟨h, by simp [c]⟩
structure Grp (n : Int) (S : List Wd) : Prop where
  nd : S.Nodup
  one : ([], 1) ∈ S
  g : ∀ x ∈ S, Gw n x
  cl : ∀ x ∈ S, ∀ y ∈ S, jn x y ∈ S
omit n6 in
theorem grp_one : Grp n [([], 1)] := by
  refine ⟨by simp, by simp, fun x h => ?_, fun x hx y hy => ?_⟩
  · rw [List.mem_singleton.mp h]
    exact ⟨.nil, .inl rfl⟩
  · rw [List.mem_singleton.mp hx, List.mem_singleton.mp hy]
    exact List.mem_singleton.mpr rfl
theorem inj_grow {S : List Wd} {w : Wd} (hS : ∀ x ∈ S, Gw n x) (hw : Gw n w) : ∀ x ∈ S, ∀ y ∈ S, jn x w = jn y w → x = y := fun x hx y hy e => by
  rw [← jn_twice n6 (hS x hx) hw, e, jn_twice n6 (hS y hy) hw]
omit n6 in
theorem nodup_map {S : List Wd} {f : Wd → Wd} (h : S.Nodup) (inj : ∀ x ∈ S, ∀ y ∈ S, f x = f y → x = y) : (S.map f).Nodup := by
  rw [List.Nodup, List.pairwise_map]
  exact List.Pairwise.imp_of_mem (fun {x y} hx hy q e => q (inj x hx y hy e)) h
theorem Grp.grow {S : List Wd} {w : Wd} (h : Grp n S) (hw : Gw n w) : Grp n (grow S w) := by
  refine ⟨?_, mem_grow.mpr (.inl h.one), fun x hx => ?_, fun x hx y hy => ?_⟩
  · unfold K2.grow
    refine List.nodup_append.mpr ⟨h.nd, List.Nodup.sublist List.filter_sublist (nodup_map h.nd (inj_grow n6 h.g hw)), fun a ha b hb e => ?_⟩
    subst e
    have := (List.mem_filter.mp hb).2
    simp [ha] at this
  · rcases mem_grow.mp hx with hx | ⟨y, hy, rfl⟩
    · exact h.g x hx
    · exact jn_g n6 (h.g y hy) hw
  · rcases mem_grow.mp hx with hx' | ⟨x, hx', rfl⟩ <;> rcases mem_grow.mp hy with hy' | ⟨y, hy', rfl⟩
    · exact mem_grow.mpr (.inl (h.cl x hx' y hy'))
    · refine mem_grow.mpr (.inr ⟨_, h.cl x hx' y hy', ?_⟩)
      rw [jn_assoc n6 (h.g x hx') (h.g y hy') hw]
    · refine mem_grow.mpr (.inr ⟨_, h.cl x hx' y hy', ?_⟩)
      rw [jn_assoc n6 (h.g x hx') (h.g y hy') hw, jn_comm n6 y w, ← jn_assoc n6 (h.g x hx') hw (h.g y hy')]
    · refine mem_grow.mpr (.inl ?_)
      have e : jn (jn x w) (jn y w) = jn x y := by
        rw [jn_comm n6 y w, ← jn_assoc n6 (jn_g n6 (h.g x hx') hw) hw (h.g y hy'), jn_twice n6 (h.g x hx') hw]
      rw [e]
      exact h.cl x hx' y hy'
theorem fold_grp : ∀ {ws S : List Wd}, Grp n S → (∀ w ∈ ws, Gw n w) → Grp n (ws.foldl K2.grow S)
  | [], _, h, _ => h
  | w :: ws, S, h, hw => fold_grp (ws := ws) (S := K2.grow S w) (h.grow n6 (hw w (List.mem_cons_self ..))) fun x hx => hw x (List.mem_cons_of_mem _ hx)
theorem mk_grp {ws : List Wd} (hw : ∀ w ∈ ws, Gw n w) : Grp n (mkP ws) := fold_grp n6 grp_one hw
omit n6 in
theorem fold_len : ∀ {ws S : List Wd}, (ws.foldl K2.grow S).length ≤ S.length * 2 ^ ws.length
  | [], S => by simp
  | w :: ws, S => by
    refine Nat.le_trans (fold_len (ws := ws) (S := K2.grow S w)) ?_
    have : (K2.grow S w).length ≤ S.length * 2 := by
      unfold K2.grow
      rw [List.length_append]
      have := List.length_filter_le (fun x => !decide (x ∈ S)) (S.map fun x => jn x w)
      rw [List.length_map] at this
      omega
    rw [List.length_cons, Nat.pow_succ, Nat.mul_comm (2 ^ ws.length), ← Nat.mul_assoc]
    exact Nat.mul_le_mul_right _ this
omit n6 in
theorem mk_len {ws : List Wd} (h : ws.length ≤ 6) : (mkP ws).length ≤ 64 := by
  refine Nat.le_trans fold_len ?_
  have : 2 ^ ws.length ≤ 2 ^ 6 := Nat.pow_le_pow_right (by decide) h
  simp
  omega
theorem mk_more {ws : List Wd} (hw : ∀ w ∈ ws, Gw n w) {m : Wd} (hm : m ∈ mkP ws) : mkP (ws ++ [m]) = mkP ws := by
  have h := mk_grp n6 hw
  unfold mkP at *
  rw [List.foldl_append, List.foldl_cons, List.foldl_nil]
  generalize ws.foldl K2.grow [([], 1)] = S at *
  unfold K2.grow
  rw [List.filter_eq_nil_iff.mpr, List.append_nil]
  intro x hx
  obtain ⟨y, hy, rfl⟩ := List.mem_map.mp hx
  simp [h.cl y hy m hm]
end
section
variable {n : Nat} (n6 : (n : Int) ≤ 6) {r : List Int} (hr : Run n r)
include n6 hr
theorem fold_sgn : ∀ {ws S : List Wd}, (∀ x ∈ S, Gw n x) → (∀ w ∈ ws, Gw n w) → (∀ x ∈ S, sgn r x.1 = x.2) → (∀ w ∈ ws, sgn r w.1 = w.2) → ∀ x ∈ ws.foldl K2.grow S, sgn r x.1 = x.2
  | [], _, _, _, h, _ => h
  | w :: ws, S, gS, gw, h, hw => by
    have g1 := gw w (List.mem_cons_self ..)
    refine fold_sgn (ws := ws) (S := K2.grow S w) (fun x hx => ?_) (fun x hx => gw x (List.mem_cons_of_mem _ hx)) (fun x hx => ?_) fun x hx => hw x (List.mem_cons_of_mem _ hx)
    · rcases mem_grow.mp hx with hx | ⟨y, hy, rfl⟩
      · exact gS x hx
      · exact jn_g n6 (gS y hy) g1
    · rcases mem_grow.mp hx with hx | ⟨y, hy, rfl⟩
      · exact h x hx
      · show sgn r (xorI y.1 w.1) = y.2 * w.2
        rw [sgn_xor n6 hr (gS y hy).lot g1.lot, h y hy, hw w (List.mem_cons_self ..)]
theorem mk_sgn {ws : List Wd} (gw : ∀ w ∈ ws, Gw n w) (h : agB ws r = true) : ∀ x ∈ mkP ws, sgn r x.1 = x.2 := by
  unfold agB at h
  rw [List.all_eq_true] at h
  refine fold_sgn n6 hr (S := [([], 1)]) (fun x hx => grp_one.g x hx) gw (fun x hx => ?_) fun w hw => of_decide_eq_true (h w hw)
  rw [List.mem_singleton.mp hx]
  rfl
theorem ag_more {ws : List Wd} (gw : ∀ w ∈ ws, Gw n w) {m : Wd} (hm : m ∈ mkP ws) : agB (ws ++ [m]) r = agB ws r := by
  cases h : agB ws r with
  | false =>
    unfold agB at *
    rw [List.all_append, h]
    rfl
  | true =>
    have := mk_sgn n6 hr gw h m hm
    unfold agB at *
    rw [List.all_append, h]
    simp [this]
theorem ag_less {ws : List Wd} (gw : ∀ w ∈ ws, Gw n w) {m : Wd} (hm : m ∈ mkP ws) : agB (ws ++ [(m.1, 0 - m.2)]) r = false := by
  cases h : agB ws r with
  | false =>
    unfold agB at *
    rw [List.all_append, h]
    rfl
  | true =>
    have e := mk_sgn n6 hr gw h m hm
    have s := ((mk_grp n6 gw).g m hm).sg
    unfold agB at *
    rw [List.all_append, h]
    have : ¬ sgn r m.1 = 0 - m.2 := by
      rw [e]
      rcases s with s | s <;> omega
    simpa using this
end
theorem runsP_run : ∀ {n : Nat}, ∀ r ∈ runsP n, Run n r
  | 0, r, h => by
    rw [List.mem_singleton.mp h]
    exact ⟨rfl, fun _ h => nomatch h⟩
  | n + 1, r, h => by
    obtain ⟨q, hq, m⟩ := List.mem_flatMap.mp h
    have ih := runsP_run q hq
    have key : ∀ s, Sg1 s → Run (n + 1) (q ++ [s]) := fun s hs => ⟨by rw [List.length_append, ih.len]; rfl, fun t ht => by
      rcases List.mem_append.mp ht with ht | ht
      · exact ih.sg t ht
      · rw [List.mem_singleton.mp ht]; exact hs⟩
    simp only [List.mem_cons, List.not_mem_nil, or_false] at m
    rcases m with rfl | rfl
    · exact key _ (.inr rfl)
    · exact key _ (.inl rfl)
theorem runsP_len : ∀ n : Nat, (runsP n).length = 2 ^ n
  | 0 => rfl
  | n + 1 => by
    show (extR (runsP n)).length = _
    unfold extR
    rw [List.length_flatMap, Nat.pow_succ, ← runsP_len n]
    generalize runsP n = l
    induction l with
    | nil => rfl
    | cons a l ih =>
      rw [List.map_cons, List.sum_cons, ih]
      simp
      omega
end K2

set_option Elab.async false
set_option linter.all false
set_option maxRecDepth 100000
set_option maxHeartbeats 4000000
set_option autoImplicit false
namespace K2
open PySem PySem.Spec PyProof.Rows L2 RZ Gd Dl
open PySem.W Fq
/-! words and lots as data -/
theorem eqv_ints : ∀ {a b : List Int}, PyData.eqvAll (a.map .int) (b.map .int) = decide (a = b)
  | [], [] => by simp [PyData.eqvAll]
  | [], _ :: _ => by simp [PyData.eqvAll]
  | _ :: _, [] => by simp [PyData.eqvAll]
  | x :: a, y :: b => by
    rw [List.map_cons, List.map_cons, PyData.eqvAll, eqv_ints, eqv_ii]
    simp
theorem eqv_lot {a b : List Int} : (lotD a).eqv (lotD b) = decide (a = b) := by
  unfold lotD
  rw [PyData.eqv, eqv_ints]
theorem eqv_wd {x y : Wd} : (wdD x).eqv (wdD y) = decide (x = y) := by
  unfold wdD
  rw [PyData.eqv, PyData.eqvAll, eqv_lot, PyData.eqvAll, eqv_ii, PyData.eqvAll]
  obtain ⟨x1, x2⟩ := x
  obtain ⟨y1, y2⟩ := y
  simp
theorem any_wd {l : List Wd} {x : Wd} : ((l.map wdD).any fun z => z.eqv (wdD x)) = decide (x ∈ l) := by
  rw [List.any_map]
  induction l with
  | nil => rfl
  | cons y l ih =>
    rw [List.any_cons, ih]
    show ((wdD y).eqv (wdD x) || _) = _
    rw [eqv_wd]
    simp [eq_comm]
theorem lay_ints : ∀ a : List Int, PyData.canLayAll0 (a.map .int) = true
  | [] => rfl
  | x :: a => by
    rw [List.map_cons, PyData.canLayAll0, lay_ints a]
    rfl
theorem lay_lot (a : List Int) : (lotD a).canLay0 = true := lay_ints a
theorem lay_wd (w : Wd) : (wdD w).canLay0 = true := by
  unfold wdD
  rw [PyData.canLay0, PyData.canLayAll0, lay_lot]
  rfl
theorem lay_all {α : Type} {f : α → PyData} (h : ∀ a, (f a).canLay0 = true) : ∀ l : List α, PyData.canLayAll0 (l.map f) = true
  | [] => rfl
  | x :: l => by
    rw [List.map_cons, PyData.canLayAll0, lay_all h l, h]
    rfl
theorem dep_lot (a : List Int) : (lotD a).depth = 1 := by
  unfold lotD
  rw [PyData.depth, PySem.W.depth_ints]
theorem dep_wd (w : Wd) : (wdD w).depth = 2 := by
  unfold wdD
  rw [PyData.depth, PyData.depthAll, dep_lot, PyData.depthAll, PyData.depth, PyData.depthAll]
  rfl
theorem dep_all {α : Type} {f : α → PyData} {n : Nat} (h : ∀ a, (f a).depth ≤ n) : ∀ l : List α, PyData.depthAll (l.map f) ≤ n
  | [] => by simp [PyData.depthAll]
  | x :: l => by
    rw [List.map_cons, PyData.depthAll]
    have := dep_all h l
    have := h x
    omega
theorem sh_lot (a : List Int) : SeqAt.shaped (lotD a) = true := by
  unfold SeqAt.shaped
  rw [lay_lot, dep_lot]
  rfl
theorem sh_wd (w : Wd) : SeqAt.shaped (wdD w) = true := by
  unfold SeqAt.shaped
  rw [lay_wd, dep_wd]
  rfl
theorem sh_wds (l : List Wd) : SeqAt.shaped (.list (l.map wdD)) = true := by
  unfold SeqAt.shaped
  rw [PyData.canLay0, lay_all lay_wd, PyData.depth]
  have := dep_all (f := wdD) (n := 2) (fun w => by rw [dep_wd]; exact Nat.le_refl _) l
  simp
  omega
theorem srt_wd (l : List Wd) : SrtOk (l.map wdD) := ⟨AllAlike.of fun b b' => by
    unfold wdD lotD
    simp [alike, alikeAll, PySem.W.alike_ints], Sortable.tuples fun b => ⟨_, _, rfl⟩, fun d h => by
    obtain ⟨w, _, rfl⟩ := List.mem_map.mp h
    rw [dep_wd]
    decide, lay_all lay_wd l⟩
theorem srt_lot {l : List (List Int)} (h : ∀ a ∈ l, a ≠ []) : SrtOk (l.map lotD) := ⟨AllAlike.of fun b b' => by
    unfold lotD
    simp [alike, PySem.W.alike_ints], .inl fun d m => by
    obtain ⟨a, ha, rfl⟩ := List.mem_map.mp m
    cases a with
    | nil => exact absurd rfl (h _ ha)
    | cons x r => exact ⟨_, _, rfl⟩, fun d m => by
    obtain ⟨w, _, rfl⟩ := List.mem_map.mp m
    rw [dep_lot]
    decide, lay_all lay_lot l⟩
/-! printing -/
theorem sn_lot {a : List Int} (h : a.length ≤ 6) (m : ∀ k ∈ a, -7 ≤ k ∧ k ≤ 7) : Sn 6 1 (lotD a) := by
  refine (SnL.tup (n := 6) (c := 0) (k := 0) ⟨by rw [List.length_map]; exact h, fun d hd => ?_⟩).up (by decide) (by decide)
  obtain ⟨k, hk, rfl⟩ := List.mem_map.mp hd
  refine sn_int (Nat.lt_of_lt_of_le (show k.natAbs < 2 ^ 10 by have := m k hk; omega) (Nat.pow_le_pow_right (by decide) (by decide)))
theorem Lot.sn {n : Int} {a : List Int} (h : Lot n a) (n6 : n ≤ 6) : Sn 6 1 (lotD a) := sn_lot (h.small n6).1 fun k hk => by
  have := (h.small n6).2 k hk
  omega
theorem Sg1.rng {s : Int} (h : Sg1 s) : -7 ≤ s ∧ s ≤ 7 := by
  rcases h with rfl | rfl <;> decide
theorem Run.sn {n : Nat} {r : List Int} (h : Run n r) (n6 : n ≤ 6) : Sn 6 1 (lotD r) := sn_lot (by rw [h.len]; exact n6) fun k hk => (h.sg k hk).rng
theorem Gw.sn {n : Int} {w : Wd} (h : Gw n w) (n6 : n ≤ 6) : Sn 14 2 (wdD w) := by
  refine SnL.tup (n := 2) (c := 6) (k := 1) ⟨by simp, fun d hd => ?_⟩
  simp only [List.mem_cons, List.not_mem_nil, or_false] at hd
  rcases hd with rfl | rfl
  · exact h.lot.sn n6
  · refine (sn_int (Nat.lt_of_lt_of_le (show w.2.natAbs < 2 ^ 10 by have := h.sg.rng; omega) (Nat.pow_le_pow_right (by decide) (by decide)))).up (by decide) (by decide)
theorem sn_srt {ds : List PyData} {c k : Nat} (l : ds.length ≤ 64) (h : ∀ d ∈ ds, Sn c k d) : Sn (64 * (c + 1)) (k + 1) (.tuple (srtD ds)) := by
  refine SnL.tup (n := 64) ⟨by unfold srtD; rw [List.length_mergeSort]; exact l, fun d hd => h d ?_⟩
  unfold srtD at hd
  exact (List.mergeSort_perm _ _).mem_iff.mp hd
/-! the runs, put in order -/
def runsL : Nat → List (List Int)
  | 0 => [[]]
  | n + 1 => (runsL n).map (· ++ [-1]) ++ (runsL n).map (· ++ [1])
theorem dataLt_lot (a b : List Int) : dataLt (lotD a) (lotD b) = decide (a < b) := by
  show rowLt (a.map .int) (b.map .int) = _
  exact dataLt_ints a b
theorem le_lot (a b : List Int) : dataLe false (fun d => d) (lotD a) (lotD b) = decide (a ≤ b) := by
  show (!dataLt (lotD b) (lotD a)) = _
  rw [dataLt_lot, Bool.eq_iff_iff]
  simp only [Bool.not_eq_true', decide_eq_false_iff_not, decide_eq_true_iff]
  exact List.not_lt
theorem srt_runs {l m : List (List Int)} (p : l.Perm m) (s : m.Pairwise (· ≤ ·)) : srtD (l.map lotD) = m.map lotD := by
  unfold srtD
  rw [← List.map_mergeSort (r := fun a b : List Int => decide (a ≤ b)) (f := lotD) fun a _ b _ => (le_lot a b).symm]
  congr 1
  have q := List.pairwise_mergeSort (le := fun a b : List Int => decide (a ≤ b)) (fun a b c h1 h2 => by
      simp only [decide_eq_true_iff] at *
      exact List.le_trans h1 h2) (fun a b => by
      rcases List.le_total a b with h | h <;> simp [h]) l
  exact List.Perm.eq_of_pairwise (le := fun a b => a ≤ b) (fun a b _ _ h1 h2 => List.le_antisymm h1 h2) (q.imp fun h => of_decide_eq_true h) s ((List.mergeSort_perm _ _).trans p)
theorem runs_ok : ∀ n : Nat, n ≤ 6 → (runsL n).isPerm (runsP n) = true ∧ (runsP n).Pairwise (· ≤ ·) := by
  intro n h
  have : n = 0 ∨ n = 1 ∨ n = 2 ∨ n = 3 ∨ n = 4 ∨ n = 5 ∨ n = 6 := by omega
  rcases this with rfl | rfl | rfl | rfl | rfl | rfl | rfl <;> decide +kernel
theorem srt_runsL {n : Nat} (h : n ≤ 6) : srtD ((runsL n).map lotD) = (runsP n).map lotD := srt_runs (List.isPerm_iff.mp (runs_ok n h).1) (runs_ok n h).2
theorem runsL_mem {n : Nat} (h : n ≤ 6) {r : List Int} : r ∈ runsL n ↔ r ∈ runsP n := (List.isPerm_iff.mp (runs_ok n h).1).mem_iff
end K2

set_option Elab.async false
set_option linter.all false
set_option maxRecDepth 100000
set_option maxHeartbeats 4000000
set_option autoImplicit false
namespace K2
open PySem PySem.Spec PyProof.Rows L2 RZ Gd Dl
open Fq
theorem sg_cmul {s t : Int} (hs : Sg1 s) (ht : Sg1 t) : CMulA s t := by
  refine .inl ?_
  rcases hs with rfl | rfl <;> rcases ht with rfl | rfl <;> (unfold CMul; decide)
theorem eq_whole : ∀ ds p, ds.length = 1 → (g_whole ds).run p → (fnD 0 bd_is_whole.1 ds).run p := by
  intro ds p hl h
  obtain ⟨d, rfl⟩ := len1 hl
  cases d <;> simpa [fnD, fnW, sNext, sBrk, sCnt, sNever, thenO, sSeq, sIf, sRet, sRetN, sDrop, sRetO, bNm, bNil, bCons, bTup, sAsg, sOwn, sApp, sPar, sPar3, sParO, sFrz, nLst, mOfN, mCon, mVar, mPk, mUn, mOp, mNil, mCons, mTup, mLst, mFn, mAnd, mOr, mNot, mIf, mChn, tVal, tAndM, tOrM, tNotM, outD, o_len, o_eqX, o_neX, o_cmp, o_add, o_sub, o_neg, o_i2, o_ix, o_in, o_gcd, o_tuple, o_list, o_int, o_abs, mCut, pNone, pSome, tupB, intish, boolish, M.run_bind, M.run_ret, Gd.at_0, Gd.at_1, Gd.at_2, Gd.at_3, Gd.at_4, Gd.at_5, M.opt_some, o_isN, noneB, sParP, sPut, nMul, o_lcm, sEnT, tTru, asT, o_mulX, bd_is_whole, g_whole] using h
theorem eq_sign : ∀ ds p, ds.length = 1 → (g_sign ds).run p → (fnD 0 bd_is_sign.1 ds).run p := by
  intro ds p hl h
  obtain ⟨d, rfl⟩ := len1 hl
  obtain ⟨⟨s, rfl, hs⟩, h⟩ := h
  have h : p (.bool true) := h
  rcases hs with rfl | rfl <;> simpa [fnD, fnW, sNext, sBrk, sCnt, sNever, thenO, sSeq, sIf, sRet, sRetN, sDrop, sRetO, bNm, bNil, bCons, bTup, sAsg, sOwn, sApp, sPar, sPar3, sParO, sFrz, nLst, mOfN, mCon, mVar, mPk, mUn, mOp, mNil, mCons, mTup, mLst, mFn, mAnd, mOr, mNot, mIf, mChn, tVal, tAndM, tOrM, tNotM, outD, o_len, o_eqX, o_neX, o_cmp, o_add, o_sub, o_neg, o_i2, o_ix, o_in, o_gcd, o_tuple, o_list, o_int, o_abs, mCut, pNone, pSome, tupB, intish, boolish, M.run_bind, M.run_ret, Gd.at_0, Gd.at_1, Gd.at_2, Gd.at_3, Gd.at_4, Gd.at_5, M.opt_some, o_isN, noneB, sParP, sPut, nMul, o_lcm, sEnT, tTru, asT, o_mulX, bd_is_sign, g_whole] using h
theorem eq_wil : ∀ ds p, ds.length = 2 → (g_wil ds).run p → (fnD 3 bd_wrong_in_lot.1 ds).run p := by
  intro ds p hl h
  obtain ⟨d, k, rfl⟩ := len2 hl
  cases k with
  | int n =>
    obtain ⟨⟨a, rfl, ha⟩, h⟩ := h
    have h : p .none := h
    show (bd_wrong_in_lot.1 [.im (lotD a), .im (.int n), .un, .un, .un]).run fun o => (outD o).run p
    unfold bd_wrong_in_lot
    refine seq_run (fun Γ => Γ = [.im (lotD a), .im (.int n), .im (.int (-1)), .un, .un]) ?_ ?_
    · simp [fnD, fnW, sNext, sBrk, sCnt, sNever, thenO, sSeq, sIf, sRet, sRetN, sDrop, sRetO, bNm, bNil, bCons, bTup, sAsg, sOwn, sApp, sPar, sPar3, sParO, sFrz, nLst, mOfN, mCon, mVar, mPk, mUn, mOp, mNil, mCons, mTup, mLst, mFn, mAnd, mOr, mNot, mIf, mChn, tVal, tAndM, tOrM, tNotM, outD, o_len, o_eqX, o_neX, o_cmp, o_add, o_sub, o_neg, o_i2, o_ix, o_in, o_gcd, o_tuple, o_list, o_int, o_abs, mCut, pNone, pSome, tupB, intish, boolish, M.run_bind, M.run_ret, Gd.at_0, Gd.at_1, Gd.at_2, Gd.at_3, Gd.at_4, Gd.at_5, M.opt_some, o_isN, noneB, sParP, sPut, nMul, o_lcm, sEnT, tTru, asT, o_mulX, LoopO]
    rintro _ rfl
    refine seq_run (fun Γ => True) ?_ ?_
    · refine for_run ?_
      show (forL _ _ (enuD 0 (a.map .int)) _).run _
      refine M.mono _ ?_ (forL_inv (fun _ => False) (fun _ => False) (fun i Γ => ∃ (b : Int) (c3 c4 : Cell), Γ = [.im (lotD a), .im (.int n), .im (.int b), c3, c4] ∧ ∀ k ∈ a.drop i, b < k) ?_ _ ⟨-1, .un, .un, rfl, fun k hk => by have := ha.inn k (List.mem_of_mem_drop hk); omega⟩)
      · intro o q
        cases o with
        | nx Γ => trivial
        | _ => exact q.elim
      · rintro i d Γ e ⟨b, c3, c4, rfl, q⟩
        obtain ⟨d1, e1, rfl⟩ := enuD_get e
        rw [List.getElem?_map] at e1
        obtain ⟨k, e2, rfl⟩ := Option.map_eq_some_iff.mp e1
        obtain ⟨il, e3⟩ := List.getElem?_eq_some_iff.mp e2
        rw [List.drop_eq_getElem_cons il, e3] at q
        have q1 := q k (List.mem_cons_self ..)
        have q2 := (ha.inn k (by rw [← e3]; exact List.getElem_mem il)).2
        have pw : (a.drop i).Pairwise (· < ·) := ha.asc.sublist (List.drop_sublist i a)
        rw [List.drop_eq_getElem_cons il, e3] at pw
        have q3 := (List.pairwise_cons.mp pw).1
        simp [fnD, fnW, sNext, sBrk, sCnt, sNever, thenO, sSeq, sIf, sRet, sRetN, sDrop, sRetO, bNm, bNil, bCons, bTup, sAsg, sOwn, sApp, sPar, sPar3, sParO, sFrz, nLst, mOfN, mCon, mVar, mPk, mUn, mOp, mNil, mCons, mTup, mLst, mFn, mAnd, mOr, mNot, mIf, mChn, tVal, tAndM, tOrM, tNotM, outD, o_len, o_eqX, o_neX, o_cmp, o_add, o_sub, o_neg, o_i2, o_ix, o_in, o_gcd, o_tuple, o_list, o_int, o_abs, mCut, pNone, pSome, tupB, intish, boolish, M.run_bind, M.run_ret, Gd.at_0, Gd.at_1, Gd.at_2, Gd.at_3, Gd.at_4, Gd.at_5, M.opt_some, o_isN, noneB, sParP, sPut, nMul, o_lcm, sEnT, tTru, asT, o_mulX, TurnO, g_whole, q1, q2]
        exact q3
    · rintro Γ -
      simpa [fnD, fnW, sNext, sBrk, sCnt, sNever, thenO, sSeq, sIf, sRet, sRetN, sDrop, sRetO, bNm, bNil, bCons, bTup, sAsg, sOwn, sApp, sPar, sPar3, sParO, sFrz, nLst, mOfN, mCon, mVar, mPk, mUn, mOp, mNil, mCons, mTup, mLst, mFn, mAnd, mOr, mNot, mIf, mChn, tVal, tAndM, tOrM, tNotM, outD, o_len, o_eqX, o_neX, o_cmp, o_add, o_sub, o_neg, o_i2, o_ix, o_in, o_gcd, o_tuple, o_list, o_int, o_abs, mCut, pNone, pSome, tupB, intish, boolish, M.run_bind, M.run_ret, Gd.at_0, Gd.at_1, Gd.at_2, Gd.at_3, Gd.at_4, Gd.at_5, M.opt_some, o_isN, noneB, sParP, sPut, nMul, o_lcm, sEnT, tTru, asT, o_mulX] using h
  | _ => exact h.elim
theorem eq_islot : ∀ ds p, ds.length = 2 → (g_islot ds).run p → (fnD 0 bd_is_lot.1 ds).run p := by
  intro ds p hl h
  obtain ⟨d, k, rfl⟩ := len2 hl
  cases k with
  | int n =>
    obtain ⟨⟨a, rfl, ha⟩, h⟩ := h
    have h : p (.bool true) := h
    have e : g_wil [.tuple (a.map .int), .int n] = .ret .none := by
      show (M.gd _).bind _ = _
      rw [M.gd_true ⟨a, rfl, ha⟩]
    simpa [fnD, fnW, sNext, sBrk, sCnt, sNever, thenO, sSeq, sIf, sRet, sRetN, sDrop, sRetO, bNm, bNil, bCons, bTup, sAsg, sOwn, sApp, sPar, sPar3, sParO, sFrz, nLst, mOfN, mCon, mVar, mPk, mUn, mOp, mNil, mCons, mTup, mLst, mFn, mAnd, mOr, mNot, mIf, mChn, tVal, tAndM, tOrM, tNotM, outD, o_len, o_eqX, o_neX, o_cmp, o_add, o_sub, o_neg, o_i2, o_ix, o_in, o_gcd, o_tuple, o_list, o_int, o_abs, mCut, pNone, pSome, tupB, intish, boolish, M.run_bind, M.run_ret, Gd.at_0, Gd.at_1, Gd.at_2, Gd.at_3, Gd.at_4, Gd.at_5, M.opt_some, o_isN, noneB, sParP, sPut, nMul, o_lcm, sEnT, tTru, asT, o_mulX, bd_is_lot, lotD, e] using h
  | _ => exact h.elim
theorem eq_isrun : ∀ ds p, ds.length = 1 → (g_isrun ds).run p → (fnD 1 bd_is_run.1 ds).run p := by
  intro ds p hl h
  obtain ⟨d, rfl⟩ := len1 hl
  obtain ⟨⟨n, r, rfl, hr, n1, n6⟩, h⟩ := h
  have h : p (.bool true) := h
  have e : agL true (mFn (fun ds => (M.gd (ds.length = 1)).bind fun _ => g_sign ds) (mCons (mVar 0) mNil)) [] (r.map .int) = .ret (.bool ((r.map PyData.int).all fun _ => true)) := agL_all fun d m => by
    obtain ⟨s, hs, rfl⟩ := List.mem_map.mp m
    have z : g_sign [.int s] = .ret (.bool true) := by
      show (M.gd _).bind _ = _
      rw [M.gd_true ⟨s, rfl, hr.sg s hs⟩]
    simp [fnD, fnW, sNext, sBrk, sCnt, sNever, thenO, sSeq, sIf, sRet, sRetN, sDrop, sRetO, bNm, bNil, bCons, bTup, sAsg, sOwn, sApp, sPar, sPar3, sParO, sFrz, nLst, mOfN, mCon, mVar, mPk, mUn, mOp, mNil, mCons, mTup, mLst, mFn, mAnd, mOr, mNot, mIf, mChn, tVal, tAndM, tOrM, tNotM, outD, o_len, o_eqX, o_neX, o_cmp, o_add, o_sub, o_neg, o_i2, o_ix, o_in, o_gcd, o_tuple, o_list, o_int, o_abs, mCut, pNone, pSome, tupB, intish, boolish, M.run_bind, M.run_ret, Gd.at_0, Gd.at_1, Gd.at_2, Gd.at_3, Gd.at_4, Gd.at_5, M.opt_some, o_isN, noneB, sParP, sPut, nMul, o_lcm, sEnT, tTru, asT, o_mulX, z]
  have e2 : ((r.map PyData.int).all fun _ => true) = true := by simp
  rw [e2] at e
  have l := hr.len
  have l1 : (1 : Int) ≤ r.length := by omega
  have l6 : (r.length : Int) ≤ 6 := by omega
  simp [fnD, fnW, sNext, sBrk, sCnt, sNever, thenO, sSeq, sIf, sRet, sRetN, sDrop, sRetO, bNm, bNil, bCons, bTup, sAsg, sOwn, sApp, sPar, sPar3, sParO, sFrz, nLst, mOfN, mCon, mVar, mPk, mUn, mOp, mNil, mCons, mTup, mLst, mFn, mAnd, mOr, mNot, mIf, mChn, tVal, tAndM, tOrM, tNotM, outD, o_len, o_eqX, o_neX, o_cmp, o_add, o_sub, o_neg, o_i2, o_ix, o_in, o_gcd, o_tuple, o_list, o_int, o_abs, mCut, pNone, pSome, tupB, intish, boolish, M.run_bind, M.run_ret, Gd.at_0, Gd.at_1, Gd.at_2, Gd.at_3, Gd.at_4, Gd.at_5, M.opt_some, o_isN, noneB, sParP, sPut, nMul, o_lcm, sEnT, tTru, asT, o_mulX, bd_is_run, lotD, mAG, l1, l6]
  rw [e]
  simpa using h
theorem eq_ceff : ∀ ds p, ds.length = 2 → (g_ceff ds).run p → (fnD 1 bd_check_effect.1 ds).run p := by
  intro ds p hl h
  obtain ⟨k, d, rfl⟩ := len2 hl
  cases k with
  | int n =>
    obtain ⟨⟨a, rfl, ha⟩, h⟩ := h
    have h : p .none := h
    have e : g_wil [.tuple (a.map .int), .int n] = .ret .none := by
      show (M.gd _).bind _ = _
      rw [M.gd_true ⟨a, rfl, ha⟩]
    simpa [fnD, fnW, sNext, sBrk, sCnt, sNever, thenO, sSeq, sIf, sRet, sRetN, sDrop, sRetO, bNm, bNil, bCons, bTup, sAsg, sOwn, sApp, sPar, sPar3, sParO, sFrz, nLst, mOfN, mCon, mVar, mPk, mUn, mOp, mNil, mCons, mTup, mLst, mFn, mAnd, mOr, mNot, mIf, mChn, tVal, tAndM, tOrM, tNotM, outD, o_len, o_eqX, o_neX, o_cmp, o_add, o_sub, o_neg, o_i2, o_ix, o_in, o_gcd, o_tuple, o_list, o_int, o_abs, mCut, pNone, pSome, tupB, intish, boolish, M.run_bind, M.run_ret, Gd.at_0, Gd.at_1, Gd.at_2, Gd.at_3, Gd.at_4, Gd.at_5, M.opt_some, o_isN, noneB, sParP, sPut, nMul, o_lcm, sEnT, tTru, asT, o_mulX, bd_check_effect, lotD, e] using h
  | _ => exact h.elim
theorem eq_cfac : ∀ ds p, ds.length = 1 → (g_cfac ds).run p → (fnD 0 bd__check_factors.1 ds).run p := by
  intro ds p hl h
  obtain ⟨d, rfl⟩ := len1 hl
  cases d with
  | int n =>
    obtain ⟨⟨n1, n6⟩, h⟩ := h
    have h : p .none := h
    simpa [fnD, fnW, sNext, sBrk, sCnt, sNever, thenO, sSeq, sIf, sRet, sRetN, sDrop, sRetO, bNm, bNil, bCons, bTup, sAsg, sOwn, sApp, sPar, sPar3, sParO, sFrz, nLst, mOfN, mCon, mVar, mPk, mUn, mOp, mNil, mCons, mTup, mLst, mFn, mAnd, mOr, mNot, mIf, mChn, tVal, tAndM, tOrM, tNotM, outD, o_len, o_eqX, o_neX, o_cmp, o_add, o_sub, o_neg, o_i2, o_ix, o_in, o_gcd, o_tuple, o_list, o_int, o_abs, mCut, pNone, pSome, tupB, intish, boolish, M.run_bind, M.run_ret, Gd.at_0, Gd.at_1, Gd.at_2, Gd.at_3, Gd.at_4, Gd.at_5, M.opt_some, o_isN, noneB, sParP, sPut, nMul, o_lcm, sEnT, tTru, asT, o_mulX, bd__check_factors, g_whole, n1, n6] using h
  | _ => exact h.elim
theorem eq_isword : ∀ ds p, ds.length = 2 → (g_isword ds).run p → (fnD 2 bd__is_word.1 ds).run p := by
  intro ds p hl h
  obtain ⟨k, d, rfl⟩ := len2 hl
  cases k with
  | int n =>
    obtain ⟨⟨⟨a, s⟩, rfl, hw⟩, h⟩ := h
    have h : p (.bool true) := h
    have e : g_islot [.tuple (a.map .int), .int n] = .ret (.bool true) := by
      show (M.gd _).bind _ = _
      rw [M.gd_true ⟨a, rfl, hw.lot⟩]
    have z : g_sign [.int s] = .ret (.bool true) := by
      show (M.gd _).bind _ = _
      rw [M.gd_true ⟨s, rfl, hw.sg⟩]
    have l : 0 < a.length := List.length_pos_iff.mpr hw.ne
    simpa [fnD, fnW, sNext, sBrk, sCnt, sNever, thenO, sSeq, sIf, sRet, sRetN, sDrop, sRetO, bNm, bNil, bCons, bTup, sAsg, sOwn, sApp, sPar, sPar3, sParO, sFrz, nLst, mOfN, mCon, mVar, mPk, mUn, mOp, mNil, mCons, mTup, mLst, mFn, mAnd, mOr, mNot, mIf, mChn, tVal, tAndM, tOrM, tNotM, outD, o_len, o_eqX, o_neX, o_cmp, o_add, o_sub, o_neg, o_i2, o_ix, o_in, o_gcd, o_tuple, o_list, o_int, o_abs, mCut, pNone, pSome, tupB, intish, boolish, M.run_bind, M.run_ret, Gd.at_0, Gd.at_1, Gd.at_2, Gd.at_3, Gd.at_4, Gd.at_5, M.opt_some, o_isN, noneB, sParP, sPut, nMul, o_lcm, sEnT, tTru, asT, o_mulX, bd__is_word, wdD, lotD, e, z, l] using h
  | _ => exact h.elim
theorem eq_cwords : ∀ ds p, ds.length = 2 → (g_cwords ds).run p → (fnD 2 bd_check_words.1 ds).run p := by
  intro ds p hl h
  obtain ⟨k, d, rfl⟩ := len2 hl
  cases k with
  | int n =>
    obtain ⟨⟨l, rfl, hw⟩, h⟩ := h
    have h : p .none := h
    show (bd_check_words.1 [.im (.int n), .im (wdsD l), .un, .un]).run fun o => (outD o).run p
    unfold bd_check_words
    have e0 : g_cfac [.int n] = .ret .none := by
      show (M.gd _).bind _ = _
      rw [M.gd_true ⟨hw.n1, hw.n6⟩]
    have l6 : ¬ (6 : Int) < l.length := by have := hw.len; omega
    refine seq_run (fun Γ => Γ = [.im (.int n), .im (wdsD l), .un, .un]) ?_ ?_
    · simp [fnD, fnW, sNext, sBrk, sCnt, sNever, thenO, sSeq, sIf, sRet, sRetN, sDrop, sRetO, bNm, bNil, bCons, bTup, sAsg, sOwn, sApp, sPar, sPar3, sParO, sFrz, nLst, mOfN, mCon, mVar, mPk, mUn, mOp, mNil, mCons, mTup, mLst, mFn, mAnd, mOr, mNot, mIf, mChn, tVal, tAndM, tOrM, tNotM, outD, o_len, o_eqX, o_neX, o_cmp, o_add, o_sub, o_neg, o_i2, o_ix, o_in, o_gcd, o_tuple, o_list, o_int, o_abs, mCut, pNone, pSome, tupB, intish, boolish, M.run_bind, M.run_ret, Gd.at_0, Gd.at_1, Gd.at_2, Gd.at_3, Gd.at_4, Gd.at_5, M.opt_some, o_isN, noneB, sParP, sPut, nMul, o_lcm, sEnT, tTru, asT, o_mulX, LoopO, e0]
    rintro _ rfl
    refine seq_run (fun Γ => Γ = [.im (.int n), .im (wdsD l), .un, .un]) ?_ ?_
    · simp [fnD, fnW, sNext, sBrk, sCnt, sNever, thenO, sSeq, sIf, sRet, sRetN, sDrop, sRetO, bNm, bNil, bCons, bTup, sAsg, sOwn, sApp, sPar, sPar3, sParO, sFrz, nLst, mOfN, mCon, mVar, mPk, mUn, mOp, mNil, mCons, mTup, mLst, mFn, mAnd, mOr, mNot, mIf, mChn, tVal, tAndM, tOrM, tNotM, outD, o_len, o_eqX, o_neX, o_cmp, o_add, o_sub, o_neg, o_i2, o_ix, o_in, o_gcd, o_tuple, o_list, o_int, o_abs, mCut, pNone, pSome, tupB, intish, boolish, M.run_bind, M.run_ret, Gd.at_0, Gd.at_1, Gd.at_2, Gd.at_3, Gd.at_4, Gd.at_5, M.opt_some, o_isN, noneB, sParP, sPut, nMul, o_lcm, sEnT, tTru, asT, o_mulX, LoopO, wdsD, l6]
    rintro _ rfl
    refine M.mono _ (p := LoopO (fun _ => True) (fun d => False)) ?_ ?_
    · intro o q
      cases o with
      | nx Γ => exact h
      | _ => exact q.elim
    refine for_run ?_
    show (forL _ _ (enuD 0 (l.map wdD)) _).run _
    refine M.mono _ ?_ (forL_inv (fun _ => False) (fun _ => False) (fun i Γ => ∃ (c3 c4 : Cell), Γ = [.im (.int n), .im (wdsD l), c3, c4]) ?_ _ ⟨.un, .un, rfl⟩)
    · intro o q
      cases o with
      | nx Γ => trivial
      | _ => exact q.elim
    · rintro i d Γ e ⟨c3, c4, rfl⟩
      obtain ⟨d1, e1, rfl⟩ := enuD_get e
      rw [List.getElem?_map] at e1
      obtain ⟨w, e2, rfl⟩ := Option.map_eq_some_iff.mp e1
      have z : g_isword [.int n, wdD w] = .ret (.bool true) := by
        show (M.gd _).bind _ = _
        rw [M.gd_true ⟨w, rfl, hw.ok w (List.mem_of_getElem? e2)⟩]
      simp [fnD, fnW, sNext, sBrk, sCnt, sNever, thenO, sSeq, sIf, sRet, sRetN, sDrop, sRetO, bNm, bNil, bCons, bTup, sAsg, sOwn, sApp, sPar, sPar3, sParO, sFrz, nLst, mOfN, mCon, mVar, mPk, mUn, mOp, mNil, mCons, mTup, mLst, mFn, mAnd, mOr, mNot, mIf, mChn, tVal, tAndM, tOrM, tNotM, outD, o_len, o_eqX, o_neX, o_cmp, o_add, o_sub, o_neg, o_i2, o_ix, o_in, o_gcd, o_tuple, o_list, o_int, o_abs, mCut, pNone, pSome, tupB, intish, boolish, M.run_bind, M.run_ret, Gd.at_0, Gd.at_1, Gd.at_2, Gd.at_3, Gd.at_4, Gd.at_5, M.opt_some, o_isN, noneB, sParP, sPut, nMul, o_lcm, sEnT, tTru, asT, o_mulX, TurnO, z]
  | _ => exact h.elim
theorem eq_sin' {bdx : Sg} : ∀ ds p, ds.length = 2 → (g_sin ds).run p → (fnD 2 bd_sign_in.1 ds).run p := by
  intro ds p hl h
  obtain ⟨x, y, rfl⟩ := len2 hl
  obtain ⟨⟨n, r, a, rfl, rfl, hr, ha⟩, h⟩ := h
  have h : p (.int (sgn r a)) := by
    have h : p (.int (sgn (unL (lotD r)) (unL (lotD a)))) := h
    rwa [unL_lot, unL_lot] at h
  show (bd_sign_in.1 [.im (lotD r), .im (lotD a), .un, .un]).run fun o => (outD o).run p
  unfold bd_sign_in
  refine seq_run (fun Γ => Γ = [.im (lotD r), .im (lotD a), .im (.int 1), .un]) ?_ ?_
  · simp [fnD, fnW, sNext, sBrk, sCnt, sNever, thenO, sSeq, sIf, sRet, sRetN, sDrop, sRetO, bNm, bNil, bCons, bTup, sAsg, sOwn, sApp, sPar, sPar3, sParO, sFrz, nLst, mOfN, mCon, mVar, mPk, mUn, mOp, mNil, mCons, mTup, mLst, mFn, mAnd, mOr, mNot, mIf, mChn, tVal, tAndM, tOrM, tNotM, outD, o_len, o_eqX, o_neX, o_cmp, o_add, o_sub, o_neg, o_i2, o_ix, o_in, o_gcd, o_tuple, o_list, o_int, o_abs, mCut, pNone, pSome, tupB, intish, boolish, M.run_bind, M.run_ret, Gd.at_0, Gd.at_1, Gd.at_2, Gd.at_3, Gd.at_4, Gd.at_5, M.opt_some, o_isN, noneB, sParP, sPut, nMul, o_lcm, sEnT, tTru, asT, o_mulX, LoopO]
  rintro _ rfl
  refine seq_run (fun Γ => ∃ c, Γ = [.im (lotD r), .im (lotD a), .im (.int (sgn r a)), c]) ?_ ?_
  · refine for_run ?_
    show (forL _ _ (a.map .int) _).run _
    refine M.mono _ ?_ (forL_inv (fun _ => False) (fun _ => False) (fun i Γ => ∃ c, Γ = [.im (lotD r), .im (lotD a), .im (.int (sgn r (a.take i))), c]) ?_ _ ⟨.un, rfl⟩)
    · intro o q
      cases o with
      | nx Γ =>
        rcases q with ⟨c, q⟩ | z
        · rw [List.length_map, List.take_length] at q
          exact ⟨c, q⟩
        · exact z.elim
      | _ => exact q.elim
    · rintro i d Γ e ⟨c, rfl⟩
      rw [List.getElem?_map] at e
      obtain ⟨k, e2, rfl⟩ := Option.map_eq_some_iff.mp e
      obtain ⟨il, e3⟩ := List.getElem?_eq_some_iff.mp e2
      obtain ⟨k0, k1⟩ := ha.inn k (List.mem_of_getElem? e2)
      have s1 := sgn_sg hr (a := a.take i) ⟨ha.asc.sublist (List.take_sublist i a), fun k hk => ha.inn k (List.mem_of_mem_take hk)⟩
      have s2 := hr.at k0 k1
      have e4 : sgn r (a.take (i + 1)) = sgn r (a.take i) * r.getD k.toNat 0 := by
        rw [List.take_succ, e2]
        unfold sgn
        rw [List.foldl_append]
        rfl
      have e5 : atI (r.map PyData.int) k = some (.int (r.getD k.toNat 0)) := by
        have kl : k.toNat < r.length := by rw [hr.len]; omega
        obtain ⟨j, rfl⟩ := Int.eq_ofNat_of_zero_le k0
        have : (r.map PyData.int)[j]? = some (.int (r.getD j 0)) := by
          rw [List.getElem?_map, List.getD_eq_getElem?_getD, List.getElem?_eq_getElem (by simpa using kl)]
          rfl
        exact at_of this
      have cm := sg_cmul s1 s2
      rw [e4]
      simp [fnD, fnW, sNext, sBrk, sCnt, sNever, thenO, sSeq, sIf, sRet, sRetN, sDrop, sRetO, bNm, bNil, bCons, bTup, sAsg, sOwn, sApp, sPar, sPar3, sParO, sFrz, nLst, mOfN, mCon, mVar, mPk, mUn, mOp, mNil, mCons, mTup, mLst, mFn, mAnd, mOr, mNot, mIf, mChn, tVal, tAndM, tOrM, tNotM, outD, o_len, o_eqX, o_neX, o_cmp, o_add, o_sub, o_neg, o_i2, o_ix, o_in, o_gcd, o_tuple, o_list, o_int, o_abs, mCut, pNone, pSome, tupB, intish, boolish, M.run_bind, M.run_ret, Gd.at_0, Gd.at_1, Gd.at_2, Gd.at_3, Gd.at_4, Gd.at_5, M.opt_some, o_isN, noneB, sParP, sPut, nMul, o_lcm, sEnT, tTru, asT, o_mulX, TurnO, lotD, e5]
      simpa using cm
  · rintro _ ⟨c, rfl⟩
    simpa [fnD, fnW, sNext, sBrk, sCnt, sNever, thenO, sSeq, sIf, sRet, sRetN, sDrop, sRetO, bNm, bNil, bCons, bTup, sAsg, sOwn, sApp, sPar, sPar3, sParO, sFrz, nLst, mOfN, mCon, mVar, mPk, mUn, mOp, mNil, mCons, mTup, mLst, mFn, mAnd, mOr, mNot, mIf, mChn, tVal, tAndM, tOrM, tNotM, outD, o_len, o_eqX, o_neX, o_cmp, o_add, o_sub, o_neg, o_i2, o_ix, o_in, o_gcd, o_tuple, o_list, o_int, o_abs, mCut, pNone, pSome, tupB, intish, boolish, M.run_bind, M.run_ret, Gd.at_0, Gd.at_1, Gd.at_2, Gd.at_3, Gd.at_4, Gd.at_5, M.opt_some, o_isN, noneB, sParP, sPut, nMul, o_lcm, sEnT, tTru, asT, o_mulX] using h
theorem eq_sin : ∀ ds p, ds.length = 2 → (g_sin ds).run p → (fnD 2 bd_sign_in.1 ds).run p := eq_sin' (bdx := bd_sign_in.1)
theorem tupI_lot (a : List Int) : tupI (lotD a) = some a := by
  show intsO (a.map .int) = some a
  induction a with
  | nil => rfl
  | cons x a ih => simp [intsO, ih]
theorem eq_odd : ∀ ds p, ds.length = 2 → (g_odd ds).run p → (fnD 0 bd_odd_of.1 ds).run p := by
  intro ds p hl h
  obtain ⟨x, y, rfl⟩ := len2 hl
  obtain ⟨⟨a, b, rfl, rfl, ha, hb⟩, h⟩ := h
  have h : p (lotD (xorI a b)) := by
    have h : p (lotD (xorI (unL (lotD a)) (unL (lotD b)))) := h
    rwa [unL_lot, unL_lot] at h
  simp [fnD, fnW, sNext, sBrk, sCnt, sNever, thenO, sSeq, sIf, sRet, sRetN, sDrop, sRetO, bNm, bNil, bCons, bTup, sAsg, sOwn, sApp, sPar, sPar3, sParO, sFrz, nLst, mOfN, mCon, mVar, mPk, mUn, mOp, mNil, mCons, mTup, mLst, mFn, mAnd, mOr, mNot, mIf, mChn, tVal, tAndM, tOrM, tNotM, outD, o_len, o_eqX, o_neX, o_cmp, o_add, o_sub, o_neg, o_i2, o_ix, o_in, o_gcd, o_tuple, o_list, o_int, o_abs, mCut, pNone, pSome, tupB, intish, boolish, M.run_bind, M.run_ret, Gd.at_0, Gd.at_1, Gd.at_2, Gd.at_3, Gd.at_4, Gd.at_5, M.opt_some, o_isN, noneB, sParP, sPut, nMul, o_lcm, sEnT, tTru, asT, o_mulX, bd_odd_of, mXor, tupI_lot, ha, hb]
  exact h
theorem eq_join : ∀ ds p, ds.length = 2 → (g_join ds).run p → (fnD 0 bd__joined.1 ds).run p := by
  intro ds p hl h
  obtain ⟨x, y, rfl⟩ := len2 hl
  obtain ⟨⟨⟨a, s⟩, ⟨b, t⟩, rfl, rfl, ha, hb, hs, ht⟩, h⟩ := h
  have h : p (wdD (jn (a, s) (b, t))) := by
    have h : p (wdD (jn (unW (wdD (a, s))) (unW (wdD (b, t))))) := h
    rwa [unW_wd, unW_wd] at h
  have e : g_odd [lotD a, lotD b] = .ret (lotD (xorI a b)) := by
    show (M.gd _).bind _ = _
    rw [M.gd_true ⟨a, b, rfl, rfl, ha, hb⟩, unL_lot, unL_lot]
  have cm := sg_cmul hs ht
  simpa [fnD, fnW, sNext, sBrk, sCnt, sNever, thenO, sSeq, sIf, sRet, sRetN, sDrop, sRetO, bNm, bNil, bCons, bTup, sAsg, sOwn, sApp, sPar, sPar3, sParO, sFrz, nLst, mOfN, mCon, mVar, mPk, mUn, mOp, mNil, mCons, mTup, mLst, mFn, mAnd, mOr, mNot, mIf, mChn, tVal, tAndM, tOrM, tNotM, outD, o_len, o_eqX, o_neX, o_cmp, o_add, o_sub, o_neg, o_i2, o_ix, o_in, o_gcd, o_tuple, o_list, o_int, o_abs, mCut, pNone, pSome, tupB, intish, boolish, M.run_bind, M.run_ret, Gd.at_0, Gd.at_1, Gd.at_2, Gd.at_3, Gd.at_4, Gd.at_5, M.opt_some, o_isN, noneB, sParP, sPut, nMul, o_lcm, sEnT, tTru, asT, o_mulX, bd__joined, wdD, atI, ixN, e, cm, jn] using h
end K2

set_option Elab.async false
set_option linter.all false
set_option maxRecDepth 100000
set_option maxHeartbeats 2000000
set_option autoImplicit false
/-! Dt3: comprehensions with a test, with two fors, reckoned. -/
namespace Dl
open PySem PySem.Spec PyProof.Rows L2 Gd RZ
theorem lcL_filt {α : Type} {b : Bg} {t : List Cell → M Bool} {F : List Cell → M PyData} {Γ : List Cell} {h : α → PyData} {e : α → PyData} {k : α → Bool} (Γd : α → List Cell) : ∀ {xs : List α}, (∀ x ∈ xs, b (h x) Γ = .ret (Γd x)) → (∀ x ∈ xs, t (Γd x) = .ret (k x)) → (∀ x ∈ xs, k x = true → F (Γd x) = .ret (e x)) →
    lcL b t F Γ (xs.map h) = .ret ((xs.filter k).map e)
  | [], _, _, _ => rfl
  | x :: xs, h1, h2, h3 => by
    have ih := lcL_filt Γd (xs := xs) (fun x m => h1 x (List.mem_cons_of_mem _ m)) (fun x m => h2 x (List.mem_cons_of_mem _ m)) fun x m => h3 x (List.mem_cons_of_mem _ m)
    have q : lcL b t F Γ ((x :: xs).map h) = (b (h x) Γ).bind fun Γ1 => (t Γ1).bind fun k => if k then (F Γ1).bind fun e => (lcL b t F Γ (xs.map h)).bind fun r => .ret (e :: r) else lcL b t F Γ (xs.map h) := rfl
    rw [q, h1 x (List.mem_cons_self ..), M.ret_bind, h2 x (List.mem_cons_self ..), M.ret_bind, ih, List.filter_cons]
    cases c : k x with
    | true =>
      rw [if_pos rfl, h3 x (List.mem_cons_self ..) c]
      rfl
    | false => rfl
theorem mlc_filt {α : Type} {vs : List Nat} {src : List Cell → M (List PyData)} {b : Bg} {t : List Cell → M Bool} {F : List Cell → M PyData} {Γ : List Cell} {h : α → PyData} {e : α → PyData} {k : α → Bool} {xs : List α} (Γd : α → List Cell) (hs : src Γ = .ret (xs.map h)) (hl : xs.length ≤ 1000)
    (h1 : ∀ x ∈ xs, b (h x) (wipC Γ vs) = .ret (Γd x)) (h2 : ∀ x ∈ xs, t (Γd x) = .ret (k x)) (h3 : ∀ x ∈ xs, k x = true → F (Γd x) = .ret (e x)) : mLc vs src b t F Γ = .ret ((xs.filter k).map e) := by
  unfold mLc
  rw [hs, M.ret_bind, M.gd_true (by rw [List.length_map]; exact hl), lcL_filt Γd h1 h2 h3]
theorem mlc_map {α : Type} {vs : List Nat} {src : List Cell → M (List PyData)} {b : Bg} {F : List Cell → M PyData} {Γ : List Cell} {h : α → PyData} {e : α → PyData} {xs : List α} (Γd : α → List Cell) (hs : src Γ = .ret (xs.map h)) (hl : xs.length ≤ 1000)
    (h1 : ∀ x ∈ xs, b (h x) (wipC Γ vs) = .ret (Γd x)) (h3 : ∀ x ∈ xs, F (Γd x) = .ret (e x)) : mLc vs src b tYesM F Γ = .ret (xs.map e) := by
  rw [mlc_filt (k := fun _ => true) (e := e) Γd hs hl h1 (fun _ _ => rfl) fun x m _ => h3 x m]
  congr 1
  rw [List.filter_eq_self.mpr fun _ _ => rfl]
theorem lc2L_map {α : Type} {b b1 : Bg} {src1 : List Cell → M (List PyData)} {t1 : List Cell → M Bool} {F : List Cell → M PyData} {vs1 : List Nat} {Γ : List Cell} {h : α → PyData} {E : α → List PyData} (Γd : α → List Cell) (es : α → List PyData) : ∀ {xs : List α}, (∀ x ∈ xs, b (h x) Γ = .ret (Γd x)) → (∀ x ∈ xs, src1 (Γd x) = .ret (es x) ∧ (es x).length ≤ 1000) →
    (∀ x ∈ xs, lcL b1 t1 F (wipC (Γd x) vs1) (es x) = .ret (E x)) → lc2L b tYesM src1 b1 t1 F vs1 Γ (xs.map h) = .ret (xs.flatMap E)
  | [], _, _, _ => rfl
  | x :: xs, h1, h2, h3 => by
    have ih := lc2L_map Γd es (xs := xs) (fun x m => h1 x (List.mem_cons_of_mem _ m)) (fun x m => h2 x (List.mem_cons_of_mem _ m)) fun x m => h3 x (List.mem_cons_of_mem _ m)
    have q : lc2L b tYesM src1 b1 t1 F vs1 Γ ((x :: xs).map h) = (b (h x) Γ).bind fun Γ1 => (src1 Γ1).bind fun es => (M.gd (es.length ≤ 1000)).bind fun _ => (lcL b1 t1 F (wipC Γ1 vs1) es).bind fun r => (lc2L b tYesM src1 b1 t1 F vs1 Γ (xs.map h)).bind fun rs => .ret (r ++ rs) := rfl
    rw [q, h1 x (List.mem_cons_self ..), M.ret_bind, (h2 x (List.mem_cons_self ..)).1, M.ret_bind, M.gd_true (h2 x (List.mem_cons_self ..)).2, h3 x (List.mem_cons_self ..), ih]
    rfl
theorem mlc2_map {α : Type} {vs vs1 : List Nat} {src src1 : List Cell → M (List PyData)} {b b1 : Bg} {t1 : List Cell → M Bool} {F : List Cell → M PyData} {Γ : List Cell} {h : α → PyData} {E : α → List PyData} {xs : List α} (Γd : α → List Cell) (es : α → List PyData) (hs : src Γ = .ret (xs.map h)) (hl : xs.length ≤ 1000)
    (h1 : ∀ x ∈ xs, b (h x) (wipC Γ vs) = .ret (Γd x)) (h2 : ∀ x ∈ xs, src1 (Γd x) = .ret (es x) ∧ (es x).length ≤ 1000) (h3 : ∀ x ∈ xs, lcL b1 t1 F (wipC (Γd x) vs1) (es x) = .ret (E x)) : mLc2 vs vs1 src b tYesM src1 b1 t1 F Γ = .ret (xs.flatMap E) := by
  unfold mLc2
  rw [hs, M.ret_bind, M.gd_true (by rw [List.length_map]; exact hl), lc2L_map Γd es h1 h2 h3]
end Dl

set_option Elab.async false
set_option linter.all false
set_option maxRecDepth 100000
set_option maxHeartbeats 4000000
set_option autoImplicit false
namespace K2
open PySem PySem.Spec PyProof.Rows L2 RZ Gd Dl
open Fq
theorem run_bNm {i : Nat} {d : PyData} {Γ : List Cell} {k : List Cell → Prop} : (bNm i d Γ).run k = k (Γ.set i (.im d)) := rfl
theorem ret_sin {n : Nat} {r a : List Int} (hr : Run n r) (ha : Lot n a) : g_sin [lotD r, lotD a] = .ret (.int (sgn r a)) := by
  show (M.gd _).bind _ = _
  rw [M.gd_true ⟨n, r, a, rfl, rfl, hr, ha⟩, unL_lot, unL_lot]
theorem ret_join {n : Int} (n6 : n ≤ 6) {x y : Wd} (hx : Gw n x) (hy : Gw n y) : g_join [wdD x, wdD y] = .ret (wdD (jn x y)) := by
  show (M.gd _).bind _ = _
  rw [M.gd_true ⟨x, y, rfl, rfl, hx.lot.small n6, hy.lot.small n6, hx.sg, hy.sg⟩, unW_wd, unW_wd]
theorem ws_g {n : Int} {l : List Wd} (h : WsOk n l) : ∀ w ∈ l, Gw n w := fun w m => (h.ok w m).g
theorem ws_at {n : Int} {l : List Wd} (h : WsOk n l) (i : Nat) : Grp n (mkP (l.take i)) ∧ (mkP (l.take i)).length ≤ 64 :=
  ⟨mk_grp h.n6 fun w m => ws_g h w (List.mem_of_mem_take m), mk_len (by rw [List.length_take]; have := h.len; omega)⟩
theorem mk_snoc {l : List Wd} {i : Nat} {w : Wd} (e : l[i]? = some w) : mkP (l.take (i + 1)) = grow (mkP (l.take i)) w := by
  unfold mkP
  rw [List.take_succ, e, List.foldl_append]
  rfl
theorem eq_prodof : ∀ ds p, ds.length = 1 → (g_prodof ds).run p → (fnD 4 bd_products_of.1 ds).run p := by
  intro ds p hl h
  obtain ⟨d, rfl⟩ := len1 hl
  obtain ⟨⟨n, l, rfl, hw⟩, h⟩ := h
  have h : p (.list ((mkP l).map wdD)) := by
    have h : p (.list ((mkP (unWs (wdsD l))).map wdD)) := h
    rwa [unWs_wds] at h
  show (bd_products_of.1 [.im (wdsD l), .un, .un, .un, .un]).run fun o => (outD o).run p
  unfold bd_products_of
  refine seq_run (fun Γ => Γ = [.im (wdsD l), .im (.list ([([], 1)].map wdD)), .un, .un, .un]) ?_ ?_
  · simp [fnD, fnW, sNext, sBrk, sCnt, sNever, thenO, sSeq, sIf, sRet, sRetN, sDrop, sRetO, bNm, bNil, bCons, bTup, sAsg, sOwn, sApp, sPar, sPar3, sParO, sFrz, nLst, mOfN, mCon, mVar, mPk, mUn, mOp, mNil, mCons, mTup, mLst, mFn, mAnd, mOr, mNot, mIf, mChn, tVal, tAndM, tOrM, tNotM, outD, o_len, o_eqX, o_neX, o_cmp, o_add, o_sub, o_neg, o_i2, o_ix, o_in, o_gcd, o_tuple, o_list, o_int, o_abs, mCut, pNone, pSome, tupB, intish, boolish, M.run_bind, M.run_ret, Gd.at_0, Gd.at_1, Gd.at_2, Gd.at_3, Gd.at_4, Gd.at_5, M.opt_some, o_isN, noneB, sParP, sPut, nMul, o_lcm, sEnT, tTru, asT, o_mulX, o_sorted, o_inL, LoopO, wdD, lotD]
  rintro _ rfl
  refine seq_run (fun Γ => ∃ c2 c3 c4, Γ = [.im (wdsD l), .im (.list ((mkP l).map wdD)), c2, c3, c4]) ?_ ?_
  · refine for_run ?_
    show (forL _ _ (l.map wdD) _).run _
    refine M.mono _ ?_ (forL_inv (fun _ => False) (fun _ => False) (fun i Γ => ∃ c2 c3 c4, Γ = [.im (wdsD l), .im (.list ((mkP (l.take i)).map wdD)), c2, c3, c4]) ?_ _ ⟨_, _, _, rfl⟩)
    · intro o q
      cases o with
      | nx Γ =>
        rcases q with ⟨c2, c3, c4, q⟩ | z
        · rw [List.length_map, List.take_length] at q
          exact ⟨c2, c3, c4, q⟩
        · exact z.elim
      | _ => exact q.elim
    · rintro i d Γ e ⟨c2, c3, c4, rfl⟩
      rw [List.getElem?_map] at e
      obtain ⟨w, e2, rfl⟩ := Option.map_eq_some_iff.mp e
      have gw := ws_g hw w (List.mem_of_getElem? e2)
      obtain ⟨G, l64⟩ := ws_at hw i
      rw [mk_snoc e2]
      generalize mkP (l.take i) = S at *
      rw [run_bNm]
      simp only [List.set_cons_succ, List.set_cons_zero]
      refine seq_run (fun Γ => Γ = [.im (wdsD l), .im (.list (S.map wdD)), .im (wdD w), .im (.list ((S.map fun x => jn x w).map wdD)), c4]) ?_ ?_
      · have m1 : ∀ F : List Cell → M PyData, (∀ x ∈ S, F [.im (wdsD l), .im (.list (S.map wdD)), .im (wdD w), c3, .im (wdD x)] = .ret (wdD (jn x w))) →
            mLc (List.map (fun x => x.snd) [(Str.ofString "each", 4)]) (sLs (mVar 1)) (bNm 4) tYesM F [.im (wdsD l), .im (.list (S.map wdD)), .im (wdD w), c3, c4] = .ret (S.map fun x => wdD (jn x w)) := fun F hF =>
          mlc_map (h := wdD) (fun x => [.im (wdsD l), .im (.list (S.map wdD)), .im (wdD w), c3, .im (wdD x)]) rfl (by omega) (fun _ _ => rfl) hF
        unfold sSet sAsg mOfN
        simp only [M.run_bind]
        rw [m1]
        · simp only [M.run_ret, bNm, LoopO, List.map_map]
          rfl
        · intro x hx
          have e := ret_join hw.n6 (G.g x hx) gw
          simp [fnD, fnW, sNext, sBrk, sCnt, sNever, thenO, sSeq, sIf, sRet, sRetN, sDrop, sRetO, bNm, bNil, bCons, bTup, sAsg, sOwn, sApp, sPar, sPar3, sParO, sFrz, nLst, mOfN, mCon, mVar, mPk, mUn, mOp, mNil, mCons, mTup, mLst, mFn, mAnd, mOr, mNot, mIf, mChn, tVal, tAndM, tOrM, tNotM, outD, o_len, o_eqX, o_neX, o_cmp, o_add, o_sub, o_neg, o_i2, o_ix, o_in, o_gcd, o_tuple, o_list, o_int, o_abs, mCut, pNone, pSome, tupB, intish, boolish, M.run_bind, M.run_ret, Gd.at_0, Gd.at_1, Gd.at_2, Gd.at_3, Gd.at_4, Gd.at_5, M.opt_some, o_isN, noneB, sParP, sPut, nMul, o_lcm, sEnT, tTru, asT, o_mulX, o_sorted, o_inL, e]
      rintro _ rfl
      · have m1 : ∀ (t : List Cell → M Bool) (F : List Cell → M PyData), (∀ x ∈ S.map fun x => jn x w, t [.im (wdsD l), .im (.list (S.map wdD)), .im (wdD w), .im (.list ((S.map fun x => jn x w).map wdD)), .im (wdD x)] = .ret (!decide (x ∈ S))) → (∀ x ∈ S.map fun x => jn x w, F [.im (wdsD l), .im (.list (S.map wdD)), .im (wdD w), .im (.list ((S.map fun x => jn x w).map wdD)), .im (wdD x)] = .ret (wdD x)) →
            mLc (List.map (fun x => x.snd) [(Str.ofString "each", 4)]) (sLs (mVar 3)) (bNm 4) t F [.im (wdsD l), .im (.list (S.map wdD)), .im (wdD w), .im (.list ((S.map fun x => jn x w).map wdD)), c4] = .ret (((S.map fun x => jn x w).filter fun x => !decide (x ∈ S)).map wdD) := fun t F ht hF =>
          mlc_filt (h := wdD) (e := wdD) (k := fun x => !decide (x ∈ S)) (fun x => [.im (wdsD l), .im (.list (S.map wdD)), .im (wdD w), .im (.list ((S.map fun x => jn x w).map wdD)), .im (wdD x)]) rfl (by rw [List.length_map]; omega) (fun _ _ => rfl) ht fun x m _ => hF x m
        unfold sSet sAsg mOfN mOp
        simp only [M.run_bind]
        have e0 : ∀ c3 c4 c5, mPk 1 [Cell.im (wdsD l), .im (.list (S.map wdD)), c3, c4, c5] = .ret (.list (S.map wdD)) := fun _ _ _ => rfl
        rw [e0, M.run_ret, m1]
        · have lf := List.length_filter_le (fun x => !decide (x ∈ S)) (S.map fun x => jn x w)
          rw [List.length_map] at lf
          have lf2 : (S.map wdD).length + (((S.map fun x => jn x w).filter fun x => !decide (x ∈ S)).map wdD).length ≤ 1000 := by
            rw [List.length_map, List.length_map]
            omega
          simp only [M.run_ret, o_add]
          rw [M.gd_true lf2]
          simp only [M.run_ret, bNm, TurnO]
          refine ⟨.im (wdD w), .im (.list ((S.map fun x => jn x w).map wdD)), c4, ?_⟩
          unfold grow
          rw [List.map_append]
          rfl
        · intro x _
          have s1 := sh_wd x
          have s2 := sh_wds S
          simp [fnD, fnW, sNext, sBrk, sCnt, sNever, thenO, sSeq, sIf, sRet, sRetN, sDrop, sRetO, bNm, bNil, bCons, bTup, sAsg, sOwn, sApp, sPar, sPar3, sParO, sFrz, nLst, mOfN, mCon, mVar, mPk, mUn, mOp, mNil, mCons, mTup, mLst, mFn, mAnd, mOr, mNot, mIf, mChn, tVal, tAndM, tOrM, tNotM, outD, o_len, o_eqX, o_neX, o_cmp, o_add, o_sub, o_neg, o_i2, o_ix, o_in, o_gcd, o_tuple, o_list, o_int, o_abs, mCut, pNone, pSome, tupB, intish, boolish, M.run_bind, M.run_ret, Gd.at_0, Gd.at_1, Gd.at_2, Gd.at_3, Gd.at_4, Gd.at_5, M.opt_some, o_isN, noneB, sParP, sPut, nMul, o_lcm, sEnT, tTru, asT, o_mulX, o_sorted, o_inL, s1, s2]
          rw [← List.any_map, any_wd]
        · intro x _
          simp [fnD, fnW, sNext, sBrk, sCnt, sNever, thenO, sSeq, sIf, sRet, sRetN, sDrop, sRetO, bNm, bNil, bCons, bTup, sAsg, sOwn, sApp, sPar, sPar3, sParO, sFrz, nLst, mOfN, mCon, mVar, mPk, mUn, mOp, mNil, mCons, mTup, mLst, mFn, mAnd, mOr, mNot, mIf, mChn, tVal, tAndM, tOrM, tNotM, outD, o_len, o_eqX, o_neX, o_cmp, o_add, o_sub, o_neg, o_i2, o_ix, o_in, o_gcd, o_tuple, o_list, o_int, o_abs, mCut, pNone, pSome, tupB, intish, boolish, M.run_bind, M.run_ret, Gd.at_0, Gd.at_1, Gd.at_2, Gd.at_3, Gd.at_4, Gd.at_5, M.opt_some, o_isN, noneB, sParP, sPut, nMul, o_lcm, sEnT, tTru, asT, o_mulX, o_sorted, o_inL]
  · rintro _ ⟨c2, c3, c4, rfl⟩
    simpa [fnD, fnW, sNext, sBrk, sCnt, sNever, thenO, sSeq, sIf, sRet, sRetN, sDrop, sRetO, bNm, bNil, bCons, bTup, sAsg, sOwn, sApp, sPar, sPar3, sParO, sFrz, nLst, mOfN, mCon, mVar, mPk, mUn, mOp, mNil, mCons, mTup, mLst, mFn, mAnd, mOr, mNot, mIf, mChn, tVal, tAndM, tOrM, tNotM, outD, o_len, o_eqX, o_neX, o_cmp, o_add, o_sub, o_neg, o_i2, o_ix, o_in, o_gcd, o_tuple, o_list, o_int, o_abs, mCut, pNone, pSome, tupB, intish, boolish, M.run_bind, M.run_ret, Gd.at_0, Gd.at_1, Gd.at_2, Gd.at_3, Gd.at_4, Gd.at_5, M.opt_some, o_isN, noneB, sParP, sPut, nMul, o_lcm, sEnT, tTru, asT, o_mulX, o_sorted, o_inL] using h
theorem bools_words (r : List Int) : ∀ l : List Wd, bools (l.map fun w => PyData.bool (decide (sgn r w.1 = w.2))) = some (l.map fun w => decide (sgn r w.1 = w.2))
  | [] => rfl
  | w :: l => by
    have e : ∀ (b : Bool) (ds : List PyData), bools (.bool b :: ds) = (bools ds).map (b :: ·) := fun _ _ => rfl
    rw [List.map_cons, e, bools_words r l]
    rfl
theorem eq_agrees : ∀ ds p, ds.length = 2 → (g_agrees ds).run p → (fnD 2 bd_agrees.1 ds).run p := by
  intro ds p hl h
  obtain ⟨x, d, rfl⟩ := len2 hl
  obtain ⟨⟨n, r, l, rfl, rfl, hw, hr⟩, h⟩ := h
  have h : p (.bool (agB l r)) := by
    have h : p (.bool (agB (unWs (wdsD l)) (unL (lotD r)))) := h
    rwa [unWs_wds, unL_lot] at h
  have m1 : ∀ F : List Cell → M PyData, (∀ w ∈ l, F [.im (lotD r), .im (wdsD l), .im (lotD w.1), .im (.int w.2)] = .ret (.bool (decide (sgn r w.1 = w.2)))) →
      mLc (List.map (fun x => x.snd) [(Str.ofString "effect", 2), (Str.ofString "sign", 3)]) (sTs (mVar 1)) (bTup 2 (bCons (bNm 2) (bCons (bNm 3) bNil))) tYesM F [.im (lotD r), .im (wdsD l), .un, .un] = .ret (l.map fun w => .bool (decide (sgn r w.1 = w.2))) := fun F hF =>
    mlc_map (h := wdD) (fun w => [.im (lotD r), .im (wdsD l), .im (lotD w.1), .im (.int w.2)]) rfl (by have := hw.len; omega) (fun _ _ => by
      show (M.gd (2 = 2)).bind _ = _
      rw [M.gd_true rfl]
      rfl) hF
  show (bd_agrees.1 [.im (lotD r), .im (wdsD l), .un, .un]).run fun o => (outD o).run p
  unfold bd_agrees sRet mUn mOfN
  simp only [M.run_bind]
  rw [m1]
  · have e := bools_words r l
    simp only [M.run_ret, o_all, e, M.opt_some, M.ret_bind, outD]
    rw [List.all_map]
    exact h
  · intro w m
    have e := ret_sin hr (hw.ok w m).lot
    simp [fnD, fnW, sNext, sBrk, sCnt, sNever, thenO, sSeq, sIf, sRet, sRetN, sDrop, sRetO, bNm, bNil, bCons, bTup, sAsg, sOwn, sApp, sPar, sPar3, sParO, sFrz, nLst, mOfN, mCon, mVar, mPk, mUn, mOp, mNil, mCons, mTup, mLst, mFn, mAnd, mOr, mNot, mIf, mChn, tVal, tAndM, tOrM, tNotM, outD, o_len, o_eqX, o_neX, o_cmp, o_add, o_sub, o_neg, o_i2, o_ix, o_in, o_gcd, o_tuple, o_list, o_int, o_abs, mCut, pNone, pSome, tupB, intish, boolish, M.run_bind, M.run_ret, Gd.at_0, Gd.at_1, Gd.at_2, Gd.at_3, Gd.at_4, Gd.at_5, M.opt_some, o_isN, noneB, sParP, sPut, nMul, o_lcm, sEnT, tTru, asT, o_mulX, o_sorted, o_inL, e]
theorem ret_agrees {n : Nat} {r : List Int} {l : List Wd} (hw : WsOk n l) (hr : Run n r) : g_agrees [lotD r, wdsD l] = .ret (.bool (agB l r)) := by
  show (M.gd _).bind _ = _
  rw [M.gd_true ⟨n, r, l, rfl, rfl, hw, hr⟩, unWs_wds, unL_lot]
theorem eq_pieceof : ∀ ds p, ds.length = 2 → (g_pieceof ds).run p → (fnD 4 bd_piece_of.1 ds).run p := by
  intro ds p hl h
  obtain ⟨x, d, rfl⟩ := len2 hl
  cases x with
  | int n =>
    obtain ⟨⟨l, rfl, hw⟩, h⟩ := h
    have h : p (.tuple (((runsP n.toNat).filter (agB l)).map lotD)) := by
      have h : p (.tuple (((runsP n.toNat).filter (agB (unWs (wdsD l)))).map lotD)) := h
      rwa [unWs_wds] at h
    have n1 := hw.n1
    have n6 := hw.n6
    obtain ⟨m, rfl⟩ := Int.eq_ofNat_of_zero_le (show 0 ≤ n by omega)
    rw [show ((m : Nat) : Int).toNat = m from rfl] at h
    have l64 : ∀ i, i ≤ m → (runsP i).length ≤ 64 := fun i hi => by
      rw [runsP_len]
      exact Nat.le_trans (Nat.pow_le_pow_right (by decide) (show i ≤ 6 by omega)) (by decide)
    show (bd_piece_of.1 [.im (.int m), .im (wdsD l), .un, .un, .un, .un]).run fun o => (outD o).run p
    unfold bd_piece_of
    refine seq_run (fun Γ => Γ = [.im (.int m), .im (wdsD l), .im (.list ((runsP 0).map lotD)), .un, .un, .un]) ?_ ?_
    · simp [fnD, fnW, sNext, sBrk, sCnt, sNever, thenO, sSeq, sIf, sRet, sRetN, sDrop, sRetO, bNm, bNil, bCons, bTup, sAsg, sOwn, sApp, sPar, sPar3, sParO, sFrz, nLst, mOfN, mCon, mVar, mPk, mUn, mOp, mNil, mCons, mTup, mLst, mFn, mAnd, mOr, mNot, mIf, mChn, tVal, tAndM, tOrM, tNotM, outD, o_len, o_eqX, o_neX, o_cmp, o_add, o_sub, o_neg, o_i2, o_ix, o_in, o_gcd, o_tuple, o_list, o_int, o_abs, mCut, pNone, pSome, tupB, intish, boolish, M.run_bind, M.run_ret, Gd.at_0, Gd.at_1, Gd.at_2, Gd.at_3, Gd.at_4, Gd.at_5, M.opt_some, o_isN, noneB, sParP, sPut, nMul, o_lcm, sEnT, tTru, asT, o_mulX, o_sorted, o_inL, LoopO, runsP, lotD]
    rintro _ rfl
    refine seq_run (fun Γ => ∃ c3 c4 c5, Γ = [.im (.int m), .im (wdsD l), .im (.list ((runsP m).map lotD)), c3, c4, c5]) ?_ ?_
    · refine for_run ?_
      simp only [sRg1, mCons, mNil, mVar, M.ret_bind, M.run_bind, M.run_gd, M.run_ret, List.getElem?_cons_succ, List.getElem?_cons_zero]
      refine ⟨by omega, ?_⟩
      refine M.mono _ ?_ (forL_inv (fun _ => False) (fun _ => False) (fun i Γ => ∃ c3 c4 c5, Γ = [.im (.int m), .im (wdsD l), .im (.list ((runsP i).map lotD)), c3, c4, c5]) ?_ _ ⟨_, _, _, rfl⟩)
      · intro o q
        cases o with
        | nx Γ =>
          rcases q with ⟨c3, c4, c5, q⟩ | z
          · rw [List.length_map, List.length_range] at q
            exact ⟨c3, c4, c5, q⟩
          · exact z.elim
        | _ => exact q.elim
      · rintro i d Γ e ⟨c3, c4, c5, rfl⟩
        have il : i < m := by
          have := (List.getElem?_eq_some_iff.mp e).1
          rw [List.length_map, List.length_range] at this
          exact this
        have li := l64 i (by omega)
        have ru := fun r (h : r ∈ runsP i) => runsP_run r h
        rw [show runsP (i + 1) = extR (runsP i) from rfl]
        generalize runsP i = R at *
        have m1 : ∀ (src1 : List Cell → M (List PyData)) (F : List Cell → M PyData), (∀ r ∈ R, src1 [.im (.int m), .im (wdsD l), .im (.list (R.map lotD)), .im d, .im (lotD r), .un] = .ret [.int (-1), .int 1]) → (∀ r ∈ R, ∀ s : Int, F [.im (.int m), .im (wdsD l), .im (.list (R.map lotD)), .im d, .im (lotD r), .im (.int s)] = .ret (lotD (r ++ [s]))) →
            mLc2 (List.map (fun x => x.snd) [(Str.ofString "run", 4), (Str.ofString "sign", 5)]) [5] (sLs (mVar 2)) (bNm 4) tYesM src1 (bNm 5) tYesM F [.im (.int m), .im (wdsD l), .im (.list (R.map lotD)), .im d, c4, c5] = .ret (R.flatMap fun r => [lotD (r ++ [-1]), lotD (r ++ [1])]) := fun src1 F h1 h2 =>
          mlc2_map (h := lotD) (E := fun r => [lotD (r ++ [-1]), lotD (r ++ [1])]) (fun r => [.im (.int m), .im (wdsD l), .im (.list (R.map lotD)), .im d, .im (lotD r), .un]) (fun _ => [.int (-1), .int 1]) rfl (by omega) (fun _ _ => rfl) (fun r hr => ⟨h1 r hr, by simp⟩) fun r hr => by
            show lcL (bNm 5) tYesM F [.im (.int m), .im (wdsD l), .im (.list (R.map lotD)), .im d, .im (lotD r), .un] [.int (-1), .int 1] = _
            rw [lcL_map (e := fun d => lotD (r ++ [intO d])) fun d hd => by
              simp only [List.mem_cons, List.not_mem_nil, or_false] at hd
              rcases hd with rfl | rfl
              · exact h2 r hr (-1)
              · exact h2 r hr 1]
            rfl
        rw [run_bNm]
        simp only [List.set_cons_succ, List.set_cons_zero]
        unfold sSet sAsg mOfN
        simp only [M.run_bind]
        rw [m1]
        · simp only [M.run_ret, bNm, TurnO]
          refine ⟨.im d, c4, c5, ?_⟩
          unfold extR
          rw [List.map_flatMap]
          rfl
        · intro r _
          simp [fnD, fnW, sNext, sBrk, sCnt, sNever, thenO, sSeq, sIf, sRet, sRetN, sDrop, sRetO, bNm, bNil, bCons, bTup, sAsg, sOwn, sApp, sPar, sPar3, sParO, sFrz, nLst, mOfN, mCon, mVar, mPk, mUn, mOp, mNil, mCons, mTup, mLst, mFn, mAnd, mOr, mNot, mIf, mChn, tVal, tAndM, tOrM, tNotM, outD, o_len, o_eqX, o_neX, o_cmp, o_add, o_sub, o_neg, o_i2, o_ix, o_in, o_gcd, o_tuple, o_list, o_int, o_abs, mCut, pNone, pSome, tupB, intish, boolish, M.run_bind, M.run_ret, Gd.at_0, Gd.at_1, Gd.at_2, Gd.at_3, Gd.at_4, Gd.at_5, M.opt_some, o_isN, noneB, sParP, sPut, nMul, o_lcm, sEnT, tTru, asT, o_mulX, o_sorted, o_inL, sTs]
        · intro r hr s
          have := (ru r hr).len
          have l7 : r.length + 1 ≤ 1000 := by omega
          simp [fnD, fnW, sNext, sBrk, sCnt, sNever, thenO, sSeq, sIf, sRet, sRetN, sDrop, sRetO, bNm, bNil, bCons, bTup, sAsg, sOwn, sApp, sPar, sPar3, sParO, sFrz, nLst, mOfN, mCon, mVar, mPk, mUn, mOp, mNil, mCons, mTup, mLst, mFn, mAnd, mOr, mNot, mIf, mChn, tVal, tAndM, tOrM, tNotM, outD, o_len, o_eqX, o_neX, o_cmp, o_add, o_sub, o_neg, o_i2, o_ix, o_in, o_gcd, o_tuple, o_list, o_int, o_abs, mCut, pNone, pSome, tupB, intish, boolish, M.run_bind, M.run_ret, Gd.at_0, Gd.at_1, Gd.at_2, Gd.at_3, Gd.at_4, Gd.at_5, M.opt_some, o_isN, noneB, sParP, sPut, nMul, o_lcm, sEnT, tTru, asT, o_mulX, o_sorted, o_inL, lotD, l7]
    · rintro _ ⟨c3, c4, c5, rfl⟩
      have ru := fun r (h : r ∈ runsP m) => runsP_run r h
      have lm := l64 m (Nat.le_refl _)
      generalize runsP m = R at *
      have m1 : ∀ (t : List Cell → M Bool) (F : List Cell → M PyData), (∀ r ∈ R, t [.im (.int m), .im (wdsD l), .im (.list (R.map lotD)), c3, .im (lotD r), c5] = .ret (agB l r)) → (∀ r ∈ R, F [.im (.int m), .im (wdsD l), .im (.list (R.map lotD)), c3, .im (lotD r), c5] = .ret (lotD r)) →
            mLc (List.map (fun x => x.snd) [(Str.ofString "run", 4)]) (sLs (mVar 2)) (bNm 4) t F [.im (.int m), .im (wdsD l), .im (.list (R.map lotD)), c3, c4, c5] = .ret ((R.filter (agB l)).map lotD) := fun t F ht hF =>
          mlc_filt (h := lotD) (e := lotD) (k := agB l) (fun r => [.im (.int m), .im (wdsD l), .im (.list (R.map lotD)), c3, .im (lotD r), c5]) rfl (by omega) (fun _ _ => rfl) ht fun x m _ => hF x m
      unfold sRet mUn mOfN
      simp only [M.run_bind]
      rw [m1]
      · simpa only [M.run_ret, o_tuple, outD] using h
      · intro r hr
        have e := ret_agrees hw (ru r hr)
        simp [fnD, fnW, sNext, sBrk, sCnt, sNever, thenO, sSeq, sIf, sRet, sRetN, sDrop, sRetO, bNm, bNil, bCons, bTup, sAsg, sOwn, sApp, sPar, sPar3, sParO, sFrz, nLst, mOfN, mCon, mVar, mPk, mUn, mOp, mNil, mCons, mTup, mLst, mFn, mAnd, mOr, mNot, mIf, mChn, tVal, tAndM, tOrM, tNotM, outD, o_len, o_eqX, o_neX, o_cmp, o_add, o_sub, o_neg, o_i2, o_ix, o_in, o_gcd, o_tuple, o_list, o_int, o_abs, mCut, pNone, pSome, tupB, intish, boolish, M.run_bind, M.run_ret, Gd.at_0, Gd.at_1, Gd.at_2, Gd.at_3, Gd.at_4, Gd.at_5, M.opt_some, o_isN, noneB, sParP, sPut, nMul, o_lcm, sEnT, tTru, asT, o_mulX, o_sorted, o_inL, e]
      · intro r _
        rfl
  | _ => exact h.elim
theorem ret_pieceof {n : Int} {l : List Wd} (hw : WsOk n l) : g_pieceof [.int n, wdsD l] = .ret (.tuple (((runsP n.toNat).filter (agB l)).map lotD)) := by
  show (M.gd _).bind _ = _
  rw [M.gd_true ⟨l, rfl, hw⟩, unWs_wds]
theorem ret_prodof {n : Int} {l : List Wd} (hw : WsOk n l) : g_prodof [wdsD l] = .ret (.list ((mkP l).map wdD)) := by
  show (M.gd _).bind _ = _
  rw [M.gd_true ⟨n, l, rfl, hw⟩, unWs_wds]
theorem ret_cwords {n : Int} {l : List Wd} (hw : WsOk n l) : g_cwords [.int n, wdsD l] = .ret .none := by
  show (M.gd _).bind _ = _
  rw [M.gd_true ⟨l, rfl, hw⟩]
theorem ret_ceff {n : Int} {a : List Int} (ha : Lot n a) : g_ceff [.int n, lotD a] = .ret .none := by
  show (M.gd _).bind _ = _
  rw [M.gd_true ⟨a, rfl, ha⟩]
theorem eq_esign : ∀ ds p, ds.length = 2 → (g_esign ds).run p → (fnD 0 bd_effect_sign.1 ds).run p := by
  intro ds p hl h
  obtain ⟨x, y, rfl⟩ := len2 hl
  obtain ⟨⟨n, r, a, rfl, rfl, hr, ha, n1, n6⟩, h⟩ := h
  have h : p (.int (sgn r a)) := by
    have h : p (.int (sgn (unL (lotD r)) (unL (lotD a)))) := h
    rwa [unL_lot, unL_lot] at h
  have e1 : g_isrun [lotD r] = .ret (.bool true) := by
    show (M.gd _).bind _ = _
    rw [M.gd_true ⟨n, r, rfl, hr, n1, n6⟩]
  have e2 := ret_ceff ha
  rw [← hr.len] at e2
  have e3 := ret_sin hr ha
  unfold lotD at e1 e2 e3
  simpa [fnD, fnW, sNext, sBrk, sCnt, sNever, thenO, sSeq, sIf, sRet, sRetN, sDrop, sRetO, bNm, bNil, bCons, bTup, sAsg, sOwn, sApp, sPar, sPar3, sParO, sFrz, nLst, mOfN, mCon, mVar, mPk, mUn, mOp, mNil, mCons, mTup, mLst, mFn, mAnd, mOr, mNot, mIf, mChn, tVal, tAndM, tOrM, tNotM, outD, o_len, o_eqX, o_neX, o_cmp, o_add, o_sub, o_neg, o_i2, o_ix, o_in, o_gcd, o_tuple, o_list, o_int, o_abs, mCut, pNone, pSome, tupB, intish, boolish, M.run_bind, M.run_ret, Gd.at_0, Gd.at_1, Gd.at_2, Gd.at_3, Gd.at_4, Gd.at_5, M.opt_some, o_isN, noneB, sParP, sPut, nMul, o_lcm, sEnT, tTru, asT, o_mulX, o_sorted, o_inL, bd_effect_sign, e1, lotD, e2, e3] using h
theorem eq_oddlot : ∀ ds p, ds.length = 3 → (g_oddlot ds).run p → (fnD 0 bd_odd_lot.1 ds).run p := by
  intro ds p hl h
  obtain ⟨n, x, y, rfl⟩ := len3 hl
  cases n with
  | int n =>
    obtain ⟨⟨a, b, rfl, rfl, ha, hb, n1, n6⟩, h⟩ := h
    have h : p (lotD (xorI a b)) := by
      have h : p (lotD (xorI (unL (lotD a)) (unL (lotD b)))) := h
      rwa [unL_lot, unL_lot] at h
    have e0 : g_cfac [.int n] = .ret .none := by
      show (M.gd _).bind _ = _
      rw [M.gd_true ⟨n1, n6⟩]
    have e1 := ret_ceff ha
    have e2 := ret_ceff hb
    have e3 : g_odd [lotD a, lotD b] = .ret (lotD (xorI a b)) := by
      show (M.gd _).bind _ = _
      rw [M.gd_true ⟨a, b, rfl, rfl, ha.small n6, hb.small n6⟩, unL_lot, unL_lot]
    simpa [fnD, fnW, sNext, sBrk, sCnt, sNever, thenO, sSeq, sIf, sRet, sRetN, sDrop, sRetO, bNm, bNil, bCons, bTup, sAsg, sOwn, sApp, sPar, sPar3, sParO, sFrz, nLst, mOfN, mCon, mVar, mPk, mUn, mOp, mNil, mCons, mTup, mLst, mFn, mAnd, mOr, mNot, mIf, mChn, tVal, tAndM, tOrM, tNotM, outD, o_len, o_eqX, o_neX, o_cmp, o_add, o_sub, o_neg, o_i2, o_ix, o_in, o_gcd, o_tuple, o_list, o_int, o_abs, mCut, pNone, pSome, tupB, intish, boolish, M.run_bind, M.run_ret, Gd.at_0, Gd.at_1, Gd.at_2, Gd.at_3, Gd.at_4, Gd.at_5, M.opt_some, o_isN, noneB, sParP, sPut, nMul, o_lcm, sEnT, tTru, asT, o_mulX, o_sorted, o_inL, bd_odd_lot, e0, e1, e2, e3] using h
  | _ => exact h.elim
theorem eq_products : ∀ ds p, ds.length = 2 → (g_products ds).run p → (fnD 0 bd_products.1 ds).run p := by
  intro ds p hl h
  obtain ⟨x, d, rfl⟩ := len2 hl
  cases x with
  | int n =>
    obtain ⟨⟨l, rfl, hw⟩, h⟩ := h
    have h : p (.tuple (srtD ((mkP l).map wdD))) := by
      have h : p (.tuple (srtD ((mkP (unWs (wdsD l))).map wdD))) := h
      rwa [unWs_wds] at h
    have e1 := ret_cwords hw
    have e2 := ret_prodof hw
    have s := srt_wd (mkP l)
    simpa [fnD, fnW, sNext, sBrk, sCnt, sNever, thenO, sSeq, sIf, sRet, sRetN, sDrop, sRetO, bNm, bNil, bCons, bTup, sAsg, sOwn, sApp, sPar, sPar3, sParO, sFrz, nLst, mOfN, mCon, mVar, mPk, mUn, mOp, mNil, mCons, mTup, mLst, mFn, mAnd, mOr, mNot, mIf, mChn, tVal, tAndM, tOrM, tNotM, outD, o_len, o_eqX, o_neX, o_cmp, o_add, o_sub, o_neg, o_i2, o_ix, o_in, o_gcd, o_tuple, o_list, o_int, o_abs, mCut, pNone, pSome, tupB, intish, boolish, M.run_bind, M.run_ret, Gd.at_0, Gd.at_1, Gd.at_2, Gd.at_3, Gd.at_4, Gd.at_5, M.opt_some, o_isN, noneB, sParP, sPut, nMul, o_lcm, sEnT, tTru, asT, o_mulX, o_sorted, o_inL, bd_products, e1, e2, s] using h
  | _ => exact h.elim
theorem eq_piece : ∀ ds p, ds.length = 2 → (g_piece ds).run p → (fnD 0 bd_piece.1 ds).run p := by
  intro ds p hl h
  obtain ⟨x, d, rfl⟩ := len2 hl
  cases x with
  | int n =>
    obtain ⟨⟨l, rfl, hw⟩, h⟩ := h
    have h : p (.tuple (((runsP n.toNat).filter (agB l)).map lotD)) := by
      have h : p (.tuple (((runsP n.toNat).filter (agB (unWs (wdsD l)))).map lotD)) := h
      rwa [unWs_wds] at h
    have e1 := ret_cwords hw
    have e2 := ret_pieceof hw
    simpa [fnD, fnW, sNext, sBrk, sCnt, sNever, thenO, sSeq, sIf, sRet, sRetN, sDrop, sRetO, bNm, bNil, bCons, bTup, sAsg, sOwn, sApp, sPar, sPar3, sParO, sFrz, nLst, mOfN, mCon, mVar, mPk, mUn, mOp, mNil, mCons, mTup, mLst, mFn, mAnd, mOr, mNot, mIf, mChn, tVal, tAndM, tOrM, tNotM, outD, o_len, o_eqX, o_neX, o_cmp, o_add, o_sub, o_neg, o_i2, o_ix, o_in, o_gcd, o_tuple, o_list, o_int, o_abs, mCut, pNone, pSome, tupB, intish, boolish, M.run_bind, M.run_ret, Gd.at_0, Gd.at_1, Gd.at_2, Gd.at_3, Gd.at_4, Gd.at_5, M.opt_some, o_isN, noneB, sParP, sPut, nMul, o_lcm, sEnT, tTru, asT, o_mulX, o_sorted, o_inL, bd_piece, e1, e2] using h
  | _ => exact h.elim
end K2

set_option Elab.async false
set_option linter.all false
set_option maxRecDepth 100000
set_option maxHeartbeats 4000000
set_option autoImplicit false
namespace K2
open PySem PySem.Spec PyProof.Rows L2 RZ Gd Dl
open Fq
theorem runsL_run {i : Nat} (h : i ≤ 6) : ∀ r ∈ runsL i, Run i r := fun r m => runsP_run r ((runsL_mem h).mp m)
theorem runsL_len {i : Nat} (h : i ≤ 6) : (runsL i).length ≤ 64 := by
  rw [(List.isPerm_iff.mp (runs_ok i h).1).length_eq, runsP_len]
  exact Nat.le_trans (Nat.pow_le_pow_right (by decide) h) (by decide)
theorem eq_lruns : ∀ ds p, ds.length = 1 → (g_lruns ds).run p → (fnD 3 bd__law_runs.1 ds).run p := by
  intro ds p hl h
  obtain ⟨x, rfl⟩ := len1 hl
  cases x with
  | int n =>
    obtain ⟨⟨n1, n6⟩, h⟩ := h
    have h : p (.list ((runsP n.toNat).map lotD)) := h
    obtain ⟨m, rfl⟩ := Int.eq_ofNat_of_zero_le (show 0 ≤ n by omega)
    rw [show ((m : Nat) : Int).toNat = m from rfl] at h
    show (bd__law_runs.1 [.im (.int m), .un, .un, .un]).run fun o => (outD o).run p
    unfold bd__law_runs
    refine seq_run (fun Γ => Γ = [.im (.int m), .im (.list ((runsL 0).map lotD)), .un, .un]) ?_ ?_
    · simp [fnD, fnW, sNext, sBrk, sCnt, sNever, thenO, sSeq, sIf, sRet, sRetN, sDrop, sRetO, bNm, bNil, bCons, bTup, sAsg, sOwn, sApp, sPar, sPar3, sParO, sFrz, nLst, mOfN, mCon, mVar, mPk, mUn, mOp, mNil, mCons, mTup, mLst, mFn, mAnd, mOr, mNot, mIf, mChn, tVal, tAndM, tOrM, tNotM, outD, o_len, o_eqX, o_neX, o_cmp, o_add, o_sub, o_neg, o_i2, o_ix, o_in, o_gcd, o_tuple, o_list, o_int, o_abs, mCut, pNone, pSome, tupB, intish, boolish, M.run_bind, M.run_ret, Gd.at_0, Gd.at_1, Gd.at_2, Gd.at_3, Gd.at_4, Gd.at_5, M.opt_some, o_isN, noneB, sParP, sPut, nMul, o_lcm, sEnT, tTru, asT, o_mulX, o_sorted, o_inL, LoopO, runsL, lotD]
    rintro _ rfl
    refine seq_run (fun Γ => ∃ c2 c3, Γ = [.im (.int m), .im (.list ((runsL m).map lotD)), c2, c3]) ?_ ?_
    · refine for_run ?_
      simp only [sRg1, mCons, mNil, mVar, M.ret_bind, M.run_bind, M.run_gd, M.run_ret, List.getElem?_cons_succ, List.getElem?_cons_zero]
      refine ⟨by omega, ?_⟩
      refine M.mono _ ?_ (forL_inv (fun _ => False) (fun _ => False) (fun i Γ => ∃ c2 c3, Γ = [.im (.int m), .im (.list ((runsL i).map lotD)), c2, c3]) ?_ _ ⟨_, _, rfl⟩)
      · intro o q
        cases o with
        | nx Γ =>
          rcases q with ⟨c3, c4, q⟩ | z
          · rw [List.length_map, List.length_range] at q
            exact ⟨c3, c4, q⟩
          · exact z.elim
        | _ => exact q.elim
      · rintro i d Γ e ⟨c2, c3, rfl⟩
        have il : i < m := by
          have := (List.getElem?_eq_some_iff.mp e).1
          rw [List.length_map, List.length_range] at this
          exact this
        have li := runsL_len (i := i) (by omega)
        have ru := runsL_run (i := i) (by omega)
        rw [show runsL (i + 1) = (runsL i).map (· ++ [-1]) ++ (runsL i).map (· ++ [1]) from rfl]
        generalize runsL i = R at *
        have m1 : ∀ (s : Int) (F : List Cell → M PyData), (∀ r ∈ R, F [.im (.int m), .im (.list (R.map lotD)), .im d, .im (lotD r)] = .ret (lotD (r ++ [s]))) →
            mLc (List.map (fun x => x.snd) [(Str.ofString "_law_run_here", 3)]) (sLs (mVar 1)) (bNm 3) tYesM F [.im (.int m), .im (.list (R.map lotD)), .im d, c3] = .ret (R.map fun r => lotD (r ++ [s])) := fun s F h1 =>
          mlc_map (h := lotD) (fun r => [.im (.int m), .im (.list (R.map lotD)), .im d, .im (lotD r)]) rfl (by omega) (fun _ _ => rfl) h1
        rw [run_bNm]
        simp only [List.set_cons_succ, List.set_cons_zero]
        unfold sSet sAsg mOp mOfN
        simp only [M.run_bind]
        rw [m1 (-1), M.run_ret, M.run_ret, m1 1]
        · have lf2 : (R.map fun r => lotD (r ++ [(-1 : Int)])).length + (R.map fun r => lotD (r ++ [(1 : Int)])).length ≤ 1000 := by
            rw [List.length_map, List.length_map]
            omega
          simp only [M.run_ret, o_add]
          rw [M.gd_true lf2]
          simp only [M.run_ret, bNm, TurnO]
          refine ⟨.im d, c3, ?_⟩
          rw [List.map_append, List.map_map, List.map_map]
          rfl
        · intro r hr
          have := (ru r hr).len
          have l7 : r.length + 1 ≤ 1000 := by omega
          simp [fnD, fnW, sNext, sBrk, sCnt, sNever, thenO, sSeq, sIf, sRet, sRetN, sDrop, sRetO, bNm, bNil, bCons, bTup, sAsg, sOwn, sApp, sPar, sPar3, sParO, sFrz, nLst, mOfN, mCon, mVar, mPk, mUn, mOp, mNil, mCons, mTup, mLst, mFn, mAnd, mOr, mNot, mIf, mChn, tVal, tAndM, tOrM, tNotM, outD, o_len, o_eqX, o_neX, o_cmp, o_add, o_sub, o_neg, o_i2, o_ix, o_in, o_gcd, o_tuple, o_list, o_int, o_abs, mCut, pNone, pSome, tupB, intish, boolish, M.run_bind, M.run_ret, Gd.at_0, Gd.at_1, Gd.at_2, Gd.at_3, Gd.at_4, Gd.at_5, M.opt_some, o_isN, noneB, sParP, sPut, nMul, o_lcm, sEnT, tTru, asT, o_mulX, o_sorted, o_inL, lotD, l7]
        · intro r hr
          have := (ru r hr).len
          have l7 : r.length + 1 ≤ 1000 := by omega
          simp [fnD, fnW, sNext, sBrk, sCnt, sNever, thenO, sSeq, sIf, sRet, sRetN, sDrop, sRetO, bNm, bNil, bCons, bTup, sAsg, sOwn, sApp, sPar, sPar3, sParO, sFrz, nLst, mOfN, mCon, mVar, mPk, mUn, mOp, mNil, mCons, mTup, mLst, mFn, mAnd, mOr, mNot, mIf, mChn, tVal, tAndM, tOrM, tNotM, outD, o_len, o_eqX, o_neX, o_cmp, o_add, o_sub, o_neg, o_i2, o_ix, o_in, o_gcd, o_tuple, o_list, o_int, o_abs, mCut, pNone, pSome, tupB, intish, boolish, M.run_bind, M.run_ret, Gd.at_0, Gd.at_1, Gd.at_2, Gd.at_3, Gd.at_4, Gd.at_5, M.opt_some, o_isN, noneB, sParP, sPut, nMul, o_lcm, sEnT, tTru, asT, o_mulX, o_sorted, o_inL, lotD, l7]
    · rintro _ ⟨c2, c3, rfl⟩
      have so := srt_lot (l := runsL m) fun a ha z => by
        have := (runsL_run (i := m) (by omega) a ha).len
        rw [z] at this
        simp at this
        omega
      have e := srt_runsL (n := m) (by omega)
      simp [fnD, fnW, sNext, sBrk, sCnt, sNever, thenO, sSeq, sIf, sRet, sRetN, sDrop, sRetO, bNm, bNil, bCons, bTup, sAsg, sOwn, sApp, sPar, sPar3, sParO, sFrz, nLst, mOfN, mCon, mVar, mPk, mUn, mOp, mNil, mCons, mTup, mLst, mFn, mAnd, mOr, mNot, mIf, mChn, tVal, tAndM, tOrM, tNotM, outD, o_len, o_eqX, o_neX, o_cmp, o_add, o_sub, o_neg, o_i2, o_ix, o_in, o_gcd, o_tuple, o_list, o_int, o_abs, mCut, pNone, pSome, tupB, intish, boolish, M.run_bind, M.run_ret, Gd.at_0, Gd.at_1, Gd.at_2, Gd.at_3, Gd.at_4, Gd.at_5, M.opt_some, o_isN, noneB, sParP, sPut, nMul, o_lcm, sEnT, tTru, asT, o_mulX, o_sorted, o_inL, so]
      rw [e]
      exact h
  | _ => exact h.elim
theorem eq_lsign : ∀ ds p, ds.length = 2 → (g_sin ds).run p → (fnD 2 bd__law_sign.1 ds).run p := eq_sin
theorem ret_in (i : Int) (a : List Int) : o_in false (.int i) (lotD a) = .ret (.bool (decide (i ∈ a))) := by
  show (M.gd _).bind _ = _
  rw [M.gd_true fun d hd => by
    obtain ⟨k, _, rfl⟩ := List.mem_map.mp hd
    exact ⟨k, rfl⟩]
  congr 2
  show (a.map PyData.int).any (PyData.eqv · (.int i)) = _
  rw [List.any_map]
  induction a with
  | nil => rfl
  | cons y l ih =>
    rw [List.any_cons, ih]
    show ((PyData.int y).eqv (.int i) || _) = _
    rw [eqv_ii]
    simp [eq_comm]
theorem eq_parted : ∀ ds p, ds.length = 2 → (g_parted ds).run p → (fnD 1 bd__law_parted.1 ds).run p := by
  intro ds p hl h
  obtain ⟨x, y, rfl⟩ := len2 hl
  obtain ⟨⟨a, b, rfl, rfl, ha, hb⟩, h⟩ := h
  have h : p (lotD (xorI b a)) := by
    have h : p (lotD (xorI (unL (lotD b)) (unL (lotD a)))) := h
    rwa [unL_lot, unL_lot] at h
  show (bd__law_parted.1 [.im (lotD a), .im (lotD b), .un]).run fun o => (outD o).run p
  unfold bd__law_parted sRet mUn mOfN
  have m1 : ∀ (t : List Cell → M Bool) (F : List Cell → M PyData), (∀ j : Nat, t [.im (lotD a), .im (lotD b), .im (.int (0 + (j : Nat)))] = .ret (decide (((j : Nat) : Int) ∈ a) != decide (((j : Nat) : Int) ∈ b))) → (∀ j : Nat, F [.im (lotD a), .im (lotD b), .im (.int (0 + (j : Nat)))] = .ret (.int (j : Nat))) →
      mLc (List.map (fun x => x.snd) [(Str.ofString "_law_at", 2)]) (sRg1 (mCons (mCon (.int 6)) mNil)) (bNm 2) t F [.im (lotD a), .im (lotD b), .un] = .ret (((List.range 6).filter fun j : Nat => decide (((j : Nat) : Int) ∈ a) != decide (((j : Nat) : Int) ∈ b)).map fun j : Nat => .int (j : Nat)) := fun t F h1 h2 =>
    mlc_filt (h := fun j : Nat => .int (0 + (j : Nat))) (fun j => [.im (lotD a), .im (lotD b), .im (.int (0 + (j : Nat)))]) (by
      show ((M.gd (-(2 ^ 62) ≤ (6 : Int) ∧ (6 : Int) < 2 ^ 62)).bind fun _ => M.ret _) = _
      rw [M.gd_true (by decide)]
      rfl) (by simp) (fun _ _ => rfl) (fun j _ => h1 j) fun j _ _ => h2 j
  simp only [M.run_bind]
  rw [m1]
  · have e : ((List.range 6).filter fun j : Nat => decide (((j : Nat) : Int) ∈ a) != decide (((j : Nat) : Int) ∈ b)).map (fun j : Nat => PyData.int (j : Nat)) = (xorI b a).map .int := by
      unfold xorI
      rw [List.filter_map, List.map_map]
      rfl
    simp only [M.run_ret, o_tuple, outD]
    rw [e]
    exact h
  · intro j
    have e0 : mOp (o_in false) (mPk 2) (mPk 0) [Cell.im (lotD a), Cell.im (lotD b), .im (.int (0 + (j : Nat)))] = .ret (.bool (decide (((j : Nat) : Int) ∈ a))) := by
      show o_in false (.int (0 + (j : Nat))) (lotD a) = _
      rw [ret_in, Int.zero_add]
    have e1 : mOp (o_in false) (mPk 2) (mPk 1) [Cell.im (lotD a), Cell.im (lotD b), .im (.int (0 + (j : Nat)))] = .ret (.bool (decide (((j : Nat) : Int) ∈ b))) := by
      show o_in false (.int (0 + (j : Nat))) (lotD b) = _
      rw [ret_in, Int.zero_add]
    unfold tVal
    rw [mOp, e0, M.ret_bind, e1, M.ret_bind]
    simp only [o_neX]
    rw [M.gd_true ⟨sh_bool _, sh_bool _⟩]
    simp only [M.ret_bind, asB_bool, PyData.eqv]
    generalize decide (((j : Nat) : Int) ∈ a) = x
    generalize decide (((j : Nat) : Int) ∈ b) = y
    cases x <;> cases y <;> rfl
  · intro j
    show M.ret (PyData.int (0 + (j : Nat))) = _
    rw [Int.zero_add]
theorem ret_parted {n : Int} (n6 : n ≤ 6) {a b : List Int} (ha : Lot n a) (hb : Lot n b) : g_parted [lotD a, lotD b] = .ret (lotD (xorI b a)) := by
  show (M.gd _).bind _ = _
  rw [M.gd_true ⟨a, b, rfl, rfl, ha.small n6, hb.small n6⟩, unL_lot, unL_lot]
/-- what the first turns add -/
def adds (S : List Wd) (w : Wd) (j : Nat) : List Wd := ((S.take j).map fun x => jn x w).filter fun x => !decide (x ∈ S)
theorem adds_step {n : Int} (n6 : n ≤ 6) {S : List Wd} {w x : Wd} (G : Grp n S) (gw : Gw n w) {j : Nat} (e : S[j]? = some x) : adds S w (j + 1) = (if jn x w ∈ S ++ adds S w j then adds S w j else adds S w j ++ [jn x w]) := by
  have nm : jn x w ∉ adds S w j := fun z => by
    obtain ⟨y, hy, e2⟩ := List.mem_map.mp (List.mem_filter.mp z).1
    obtain ⟨jl, e3⟩ := List.getElem?_eq_some_iff.mp e
    have e4 := inj_grow n6 G.g gw y (List.mem_of_mem_take hy) x (List.mem_of_getElem? e) e2
    subst e4
    obtain ⟨i, hi, e5⟩ := List.getElem_of_mem hy
    rw [List.length_take] at hi
    rw [List.getElem_take] at e5
    have nd := G.nd
    rw [← e3] at e5
    exact List.pairwise_iff_getElem.mp nd i j (by omega) jl (by omega) e5
  have e1 : adds S w (j + 1) = adds S w j ++ [jn x w].filter fun x => !decide (x ∈ S) := by
    unfold adds
    rw [List.take_succ, e, List.map_append, List.filter_append]
    rfl
  rw [e1]
  by_cases c : jn x w ∈ S
  · rw [if_pos (List.mem_append_left _ c)]
    simp [c]
  · rw [if_neg (fun z => (List.mem_append.mp z).elim c nm)]
    simp [c]
theorem run_bW {i j : Nat} {w : Wd} {Γ : List Cell} : bTup 2 (bCons (bNm i) (bCons (bNm j) bNil)) (wdD w) Γ = .ret ((Γ.set i (.im (lotD w.1))).set j (.im (.int w.2))) := by
  show (M.gd (2 = 2)).bind _ = _
  rw [M.gd_true rfl]
  rfl
theorem eq_lmade : ∀ ds p, ds.length = 1 → (g_lmade ds).run p → (fnD 5 bd__law_made.1 ds).run p := by
  intro ds p hl h
  obtain ⟨d, rfl⟩ := len1 hl
  obtain ⟨⟨n, l, rfl, hw⟩, h⟩ := h
  have h : p (.tuple (srtD ((mkP l).map wdD))) := by
    have h : p (.tuple (srtD ((mkP (unWs (wdsD l))).map wdD))) := h
    rwa [unWs_wds] at h
  show (bd__law_made.1 [.im (wdsD l), .un, .un, .un, .un, .un]).run fun o => (outD o).run p
  unfold bd__law_made
  refine seq_run (fun Γ => Γ = [.im (wdsD l), .ow ([([], 1)].map wdD), .un, .un, .un, .un]) ?_ ?_
  · simp [fnD, fnW, sNext, sBrk, sCnt, sNever, thenO, sSeq, sIf, sRet, sRetN, sDrop, sRetO, bNm, bNil, bCons, bTup, sAsg, sOwn, sApp, sPar, sPar3, sParO, sFrz, nLst, mOfN, mCon, mVar, mPk, mUn, mOp, mNil, mCons, mTup, mLst, mFn, mAnd, mOr, mNot, mIf, mChn, tVal, tAndM, tOrM, tNotM, outD, o_len, o_eqX, o_neX, o_cmp, o_add, o_sub, o_neg, o_i2, o_ix, o_in, o_gcd, o_tuple, o_list, o_int, o_abs, mCut, pNone, pSome, tupB, intish, boolish, M.run_bind, M.run_ret, Gd.at_0, Gd.at_1, Gd.at_2, Gd.at_3, Gd.at_4, Gd.at_5, M.opt_some, o_isN, noneB, sParP, sPut, nMul, o_lcm, sEnT, tTru, asT, o_mulX, o_sorted, o_inL, LoopO, wdD, lotD]
  rintro _ rfl
  refine seq_run (fun Γ => ∃ c2 c3 c4 c5, Γ = [.im (wdsD l), .ow ((mkP l).map wdD), c2, c3, c4, c5]) ?_ ?_
  · refine for_run ?_
    show (forL _ _ (l.map wdD) _).run _
    refine M.mono _ ?_ (forL_inv (fun _ => False) (fun _ => False) (fun i Γ => ∃ c2 c3 c4 c5, Γ = [.im (wdsD l), .ow ((mkP (l.take i)).map wdD), c2, c3, c4, c5]) ?_ _ ⟨_, _, _, _, rfl⟩)
    · intro o q
      cases o with
      | nx Γ =>
        rcases q with ⟨c2, c3, c4, c5, q⟩ | z
        · rw [List.length_map, List.take_length] at q
          exact ⟨c2, c3, c4, c5, q⟩
        · exact z.elim
      | _ => exact q.elim
    · rintro i d Γ e ⟨c2, c3, c4, c5, rfl⟩
      rw [List.getElem?_map] at e
      obtain ⟨w, e2, rfl⟩ := Option.map_eq_some_iff.mp e
      have gw := ws_g hw w (List.mem_of_getElem? e2)
      obtain ⟨G, l64⟩ := ws_at hw i
      rw [mk_snoc e2]
      generalize mkP (l.take i) = S at *
      rw [run_bW, M.run_ret]
      simp only [List.set_cons_succ, List.set_cons_zero]
      refine for_run ?_
      show (forL _ _ (S.map wdD) _).run _
      refine M.mono _ ?_ (forL_inv (fun _ => False) (fun _ => False) (fun j Γ => ∃ c4 c5, Γ = [.im (wdsD l), .ow ((S ++ adds S w j).map wdD), .im (lotD w.1), .im (.int w.2), c4, c5]) ?_ _ ⟨c4, c5, ?_⟩)
      · intro o q
        cases o with
        | nx Γ =>
          rcases q with ⟨c4, c5, q⟩ | z
          · refine ⟨.im (lotD w.1), .im (.int w.2), c4, c5, ?_⟩
            rw [q, List.length_map]
            unfold grow adds
            rw [List.take_length]
          · exact z.elim
        | _ => exact q.elim
      · rintro j d Γ e' ⟨c4, c5, rfl⟩
        rw [List.getElem?_map] at e'
        obtain ⟨x, e3, rfl⟩ := Option.map_eq_some_iff.mp e'
        have gx := G.g x (List.mem_of_getElem? e3)
        have st := adds_step hw.n6 G gw e3
        have la : (adds S w j).length ≤ 64 := by
          unfold adds
          have := List.length_filter_le (fun x => !decide (x ∈ S)) ((S.take j).map fun x => jn x w)
          rw [List.length_map, List.length_take] at this
          omega
        generalize adds S w j = B at *
        rw [run_bNm]
        simp only [List.set_cons_succ, List.set_cons_zero]
        refine seq_run (fun Γ => Γ = [.im (wdsD l), .ow ((S ++ B).map wdD), .im (lotD w.1), .im (.int w.2), .im (wdD x), .im (wdD (jn x w))]) ?_ ?_
        · have e4 := ret_parted hw.n6 gw.lot gx.lot
          have cm := sg_cmul gw.sg gx.sg
          have e5 : wdD (jn x w) = .tuple [lotD (xorI x.1 w.1), .int (w.2 * x.2)] := by
            unfold wdD jn
            rw [Int.mul_comm]
          have e6 : wdD x = .tuple [lotD x.1, .int x.2] := rfl
          rw [e5, e6]
          simp [fnD, fnW, sNext, sBrk, sCnt, sNever, thenO, sSeq, sIf, sRet, sRetN, sDrop, sRetO, bNm, bNil, bCons, bTup, sAsg, sOwn, sApp, sPar, sPar3, sParO, sFrz, nLst, mOfN, mCon, mVar, mPk, mUn, mOp, mNil, mCons, mTup, mLst, mFn, mAnd, mOr, mNot, mIf, mChn, tVal, tAndM, tOrM, tNotM, outD, o_len, o_eqX, o_neX, o_cmp, o_add, o_sub, o_neg, o_i2, o_ix, o_in, o_gcd, o_tuple, o_list, o_int, o_abs, mCut, pNone, pSome, tupB, intish, boolish, M.run_bind, M.run_ret, Gd.at_0, Gd.at_1, Gd.at_2, Gd.at_3, Gd.at_4, Gd.at_5, M.opt_some, o_isN, noneB, sParP, sPut, nMul, o_lcm, sEnT, tTru, asT, o_mulX, o_sorted, o_inL, LoopO, atI, ixN, e4, cm]
        rintro _ rfl
        have s1 := sh_wd (jn x w)
        have s2 := sh_wds (S ++ B)
        have t0 : tVal (mOp (o_inL true) (mPk 5) (mPk 1)) [Cell.im (wdsD l), .ow ((S ++ B).map wdD), .im (lotD w.1), .im (.int w.2), .im (wdD x), .im (wdD (jn x w))] = .ret (!decide (jn x w ∈ S ++ B)) := by
          show ((M.gd (SeqAt.shaped (wdD (jn x w)) = true ∧ SeqAt.shaped (.list ((S ++ B).map wdD)) = true)).bind fun _ => M.ret (.bool (true ^^ ((S ++ B).map wdD).any fun z => z.eqv (wdD (jn x w))))).bind asB = _
          rw [M.gd_true ⟨s1, s2⟩, M.ret_bind, any_wd, asB_bool, Bool.true_xor]
        unfold sIf
        rw [t0, M.ret_bind, st]
        have lb : ((S ++ B).map wdD).length < 1000 := by
          rw [List.length_map, List.length_append]
          omega
        by_cases c : jn x w ∈ S ++ B
        · simp only [c, decide_true, Bool.not_true, if_pos, if_neg, Bool.false_eq_true]
          exact ⟨_, _, rfl⟩
        · simp only [c, decide_false, Bool.not_false, if_pos, if_neg, if_false]
          exact ⟨lb, .im (wdD x), .im (wdD (jn x w)), by simp⟩
      · unfold adds
        simp
  · rintro _ ⟨c2, c3, c4, c5, rfl⟩
    have s := srt_wd (mkP l)
    simpa [fnD, fnW, sNext, sBrk, sCnt, sNever, thenO, sSeq, sIf, sRet, sRetN, sDrop, sRetO, bNm, bNil, bCons, bTup, sAsg, sOwn, sApp, sPar, sPar3, sParO, sFrz, nLst, mOfN, mCon, mVar, mPk, mUn, mOp, mNil, mCons, mTup, mLst, mFn, mAnd, mOr, mNot, mIf, mChn, tVal, tAndM, tOrM, tNotM, outD, o_len, o_eqX, o_neX, o_cmp, o_add, o_sub, o_neg, o_i2, o_ix, o_in, o_gcd, o_tuple, o_list, o_int, o_abs, mCut, pNone, pSome, tupB, intish, boolish, M.run_bind, M.run_ret, Gd.at_0, Gd.at_1, Gd.at_2, Gd.at_3, Gd.at_4, Gd.at_5, M.opt_some, o_isN, noneB, sParP, sPut, nMul, o_lcm, sEnT, tTru, asT, o_mulX, o_sorted, o_inL, s] using h
end K2

set_option Elab.async false
set_option linter.all false
set_option maxRecDepth 100000
set_option maxHeartbeats 4000000
set_option autoImplicit false
namespace K2
open PySem PySem.Spec PyProof.Rows L2 RZ Gd Dl
open Fq
theorem ret_lsign {n : Nat} {r a : List Int} (hr : Run n r) (ha : Lot n a) : g_sin [lotD r, lotD a] = .ret (.int (sgn r a)) := ret_sin hr ha
theorem ag_snoc {l : List Wd} {i : Nat} {w : Wd} (e : l[i]? = some w) (r : List Int) : agB (l.take (i + 1)) r = (agB (l.take i) r && decide (sgn r w.1 = w.2)) := by
  unfold agB
  rw [List.take_succ, e, List.all_append]
  simp
theorem eq_lfitting : ∀ ds p, ds.length = 2 → (g_pieceof ds).run p → (fnD 4 bd__law_fitting.1 ds).run p := by
  intro ds p hl h
  obtain ⟨x, d, rfl⟩ := len2 hl
  cases x with
  | int n =>
    obtain ⟨⟨l, rfl, hw⟩, h⟩ := h
    have h : p (.tuple (((runsP n.toNat).filter (agB l)).map lotD)) := by
      have h : p (.tuple (((runsP n.toNat).filter (agB (unWs (wdsD l)))).map lotD)) := h
      rwa [unWs_wds] at h
    have n1 := hw.n1
    have n6 := hw.n6
    obtain ⟨m, rfl⟩ := Int.eq_ofNat_of_zero_le (show 0 ≤ n by omega)
    rw [show ((m : Nat) : Int).toNat = m from rfl] at h
    have ru := fun r (h : r ∈ runsP m) => runsP_run r h
    have lm : (runsP m).length ≤ 64 := by
      rw [runsP_len]
      exact Nat.le_trans (Nat.pow_le_pow_right (by decide) (show m ≤ 6 by omega)) (by decide)
    have e1 : g_lruns [.int m] = .ret (.list ((runsP m).map lotD)) := by
      show (M.gd _).bind _ = _
      rw [M.gd_true ⟨n1, n6⟩]
      rfl
    generalize runsP m = R at *
    show (bd__law_fitting.1 [.im (.int m), .im (wdsD l), .un, .un, .un, .un]).run fun o => (outD o).run p
    unfold bd__law_fitting
    refine seq_run (fun Γ => Γ = [.im (.int m), .im (wdsD l), .im (.list (R.map lotD)), .un, .un, .un]) ?_ ?_
    · simp [fnD, fnW, sNext, sBrk, sCnt, sNever, thenO, sSeq, sIf, sRet, sRetN, sDrop, sRetO, bNm, bNil, bCons, bTup, sAsg, sOwn, sApp, sPar, sPar3, sParO, sFrz, nLst, mOfN, mCon, mVar, mPk, mUn, mOp, mNil, mCons, mTup, mLst, mFn, mAnd, mOr, mNot, mIf, mChn, tVal, tAndM, tOrM, tNotM, outD, o_len, o_eqX, o_neX, o_cmp, o_add, o_sub, o_neg, o_i2, o_ix, o_in, o_gcd, o_tuple, o_list, o_int, o_abs, mCut, pNone, pSome, tupB, intish, boolish, M.run_bind, M.run_ret, Gd.at_0, Gd.at_1, Gd.at_2, Gd.at_3, Gd.at_4, Gd.at_5, M.opt_some, o_isN, noneB, sParP, sPut, nMul, o_lcm, sEnT, tTru, asT, o_mulX, o_sorted, o_inL, mOne, g_one, LoopO, e1]
    rintro _ rfl
    refine seq_run (fun Γ => ∃ c3 c4 c5, Γ = [.im (.int m), .im (wdsD l), .im (.list ((R.filter (agB l)).map lotD)), c3, c4, c5]) ?_ ?_
    · refine for_run ?_
      show (forL _ _ (l.map wdD) _).run _
      refine M.mono _ ?_ (forL_inv (fun _ => False) (fun _ => False) (fun i Γ => ∃ c3 c4 c5, Γ = [.im (.int m), .im (wdsD l), .im (.list ((R.filter (agB (l.take i))).map lotD)), c3, c4, c5]) ?_ _ ⟨.un, .un, .un, ?_⟩)
      · intro o q
        cases o with
        | nx Γ =>
          rcases q with ⟨c3, c4, c5, q⟩ | z
          · rw [List.length_map, List.take_length] at q
            exact ⟨c3, c4, c5, q⟩
          · exact z.elim
        | _ => exact q.elim
      · rintro i d Γ e ⟨c3, c4, c5, rfl⟩
        rw [List.getElem?_map] at e
        obtain ⟨w, e2, rfl⟩ := Option.map_eq_some_iff.mp e
        have gw := hw.ok w (List.mem_of_getElem? e2)
        rw [run_bW, M.run_ret]
        simp only [List.set_cons_succ, List.set_cons_zero]
        have ef : R.filter (agB (l.take (i + 1))) = (R.filter (agB (l.take i))).filter fun r => decide (sgn r w.1 = w.2) := by
          rw [List.filter_filter]
          congr 1
          funext r
          rw [ag_snoc e2, Bool.and_comm]
        have rs : ∀ r ∈ R.filter (agB (l.take i)), Run m r := fun r hr => ru r (List.mem_filter.mp hr).1
        have ls : (R.filter (agB (l.take i))).length ≤ 1000 := by
          have := List.length_filter_le (agB (l.take i)) R
          omega
        rw [ef]
        generalize R.filter (agB (l.take i)) = B at *
        have m1 : ∀ (t : List Cell → M Bool) (F : List Cell → M PyData), (∀ r ∈ B, t [.im (.int m), .im (wdsD l), .im (.list (B.map lotD)), .im (lotD w.1), .im (.int w.2), .im (lotD r)] = .ret (decide (sgn r w.1 = w.2))) → (∀ r ∈ B, F [.im (.int m), .im (wdsD l), .im (.list (B.map lotD)), .im (lotD w.1), .im (.int w.2), .im (lotD r)] = .ret (lotD r)) →
              mLc (List.map (fun x => x.snd) [(Str.ofString "_law_run_here", 5)]) (sLs (mVar 2)) (bNm 5) t F [.im (.int m), .im (wdsD l), .im (.list (B.map lotD)), .im (lotD w.1), .im (.int w.2), c5] = .ret ((B.filter fun r => decide (sgn r w.1 = w.2)).map lotD) := fun t F ht hF =>
            mlc_filt (h := lotD) (e := lotD) (k := fun r => decide (sgn r w.1 = w.2)) (fun r => [.im (.int m), .im (wdsD l), .im (.list (B.map lotD)), .im (lotD w.1), .im (.int w.2), .im (lotD r)]) rfl ls (fun _ _ => rfl) ht fun x m _ => hF x m
        unfold sSet sAsg mOfN
        simp only [M.run_bind]
        rw [m1]
        · simp only [M.run_ret, bNm, TurnO]
          exact ⟨.im (lotD w.1), .im (.int w.2), c5, rfl⟩
        · intro r hr
          have e := ret_sin (rs r hr) gw.lot
          simp [fnD, fnW, sNext, sBrk, sCnt, sNever, thenO, sSeq, sIf, sRet, sRetN, sDrop, sRetO, bNm, bNil, bCons, bTup, sAsg, sOwn, sApp, sPar, sPar3, sParO, sFrz, nLst, mOfN, mCon, mVar, mPk, mUn, mOp, mNil, mCons, mTup, mLst, mFn, mAnd, mOr, mNot, mIf, mChn, tVal, tAndM, tOrM, tNotM, outD, o_len, o_eqX, o_neX, o_cmp, o_add, o_sub, o_neg, o_i2, o_ix, o_in, o_gcd, o_tuple, o_list, o_int, o_abs, mCut, pNone, pSome, tupB, intish, boolish, M.run_bind, M.run_ret, Gd.at_0, Gd.at_1, Gd.at_2, Gd.at_3, Gd.at_4, Gd.at_5, M.opt_some, o_isN, noneB, sParP, sPut, nMul, o_lcm, sEnT, tTru, asT, o_mulX, o_sorted, o_inL, mOne, g_one, e]
        · intro r _
          rfl
      · have : agB (l.take 0) = fun _ => true := rfl
        rw [this, List.filter_eq_self.mpr fun _ _ => rfl]
    · rintro _ ⟨c3, c4, c5, rfl⟩
      simpa [fnD, fnW, sNext, sBrk, sCnt, sNever, thenO, sSeq, sIf, sRet, sRetN, sDrop, sRetO, bNm, bNil, bCons, bTup, sAsg, sOwn, sApp, sPar, sPar3, sParO, sFrz, nLst, mOfN, mCon, mVar, mPk, mUn, mOp, mNil, mCons, mTup, mLst, mFn, mAnd, mOr, mNot, mIf, mChn, tVal, tAndM, tOrM, tNotM, outD, o_len, o_eqX, o_neX, o_cmp, o_add, o_sub, o_neg, o_i2, o_ix, o_in, o_gcd, o_tuple, o_list, o_int, o_abs, mCut, pNone, pSome, tupB, intish, boolish, M.run_bind, M.run_ret, Gd.at_0, Gd.at_1, Gd.at_2, Gd.at_3, Gd.at_4, Gd.at_5, M.opt_some, o_isN, noneB, sParP, sPut, nMul, o_lcm, sEnT, tTru, asT, o_mulX, o_sorted, o_inL, mOne, g_one] using h
  | _ => exact h.elim
theorem Run.snoc {n : Nat} {r : List Int} {s : Int} (h : Run n r) (hs : Sg1 s) : Run (n + 1) (r ++ [s]) := ⟨by rw [List.length_append, h.len]; rfl, fun t ht => by
  rcases List.mem_append.mp ht with ht | ht
  · exact h.sg t ht
  · rw [List.mem_singleton.mp ht]; exact hs⟩
theorem eq_lrun : ∀ ds p, ds.length = 1 → (g_lrun ds).run p → (fnW 2 bd__law_run.1 ds).run p := by
  intro ds p hl h
  obtain ⟨d, rfl⟩ := len1 hl
  cases d with
  | int n =>
    obtain ⟨⟨n1, n6⟩, h⟩ := h
    have h : ∀ d, (∃ r, Run n.toNat r ∧ d = lotD r) → p d := h
    obtain ⟨m, rfl⟩ := Int.eq_ofNat_of_zero_le (show 0 ≤ n by omega)
    rw [show ((m : Nat) : Int).toNat = m from rfl] at h
    show (bd__law_run.1 [.well, .im (.int m), .un, .un]).run fun o => (outD o).run p
    unfold bd__law_run
    refine seq_run (fun Γ => Γ = [.well, .im (.int m), .im (lotD []), .un]) ?_ ?_
    · simp [fnD, fnW, sNext, sBrk, sCnt, sNever, thenO, sSeq, sIf, sRet, sRetN, sDrop, sRetO, bNm, bNil, bCons, bTup, sAsg, sOwn, sApp, sPar, sPar3, sParO, sFrz, nLst, mOfN, mCon, mVar, mPk, mUn, mOp, mNil, mCons, mTup, mLst, mFn, mAnd, mOr, mNot, mIf, mChn, tVal, tAndM, tOrM, tNotM, outD, o_len, o_eqX, o_neX, o_cmp, o_add, o_sub, o_neg, o_i2, o_ix, o_in, o_gcd, o_tuple, o_list, o_int, o_abs, mCut, pNone, pSome, tupB, intish, boolish, M.run_bind, M.run_ret, Gd.at_0, Gd.at_1, Gd.at_2, Gd.at_3, Gd.at_4, Gd.at_5, M.opt_some, o_isN, noneB, sParP, sPut, nMul, o_lcm, sEnT, tTru, asT, o_mulX, o_sorted, o_inL, mOne, g_one, LoopO, lotD]
    rintro _ rfl
    refine seq_run (fun Γ => ∃ (r : List Int) (c3 : Cell), Γ = [.well, .im (.int m), .im (lotD r), c3] ∧ Run m r) ?_ ?_
    · refine for_run ?_
      simp only [sRg1, mCons, mNil, mVar, M.ret_bind, M.run_bind, M.run_gd, M.run_ret, List.getElem?_cons_succ, List.getElem?_cons_zero]
      refine ⟨by omega, ?_⟩
      refine M.mono _ ?_ (forL_inv (fun _ => False) (fun _ => False) (fun i Γ => ∃ (r : List Int) (c3 : Cell), Γ = [.well, .im (.int m), .im (lotD r), c3] ∧ Run i r) ?_ _ ⟨[], .un, rfl, rfl, fun _ h => nomatch h⟩)
      · intro o q
        cases o with
        | nx Γ =>
          rcases q with ⟨l, c3, rfl, q⟩ | z
          · rw [List.length_map, List.length_range] at q
            exact ⟨l, c3, rfl, q⟩
          · exact z.elim
        | _ => exact q.elim
      · rintro i d Γ e ⟨r, c3, rfl, q⟩
        have il : i < m := by
          have := (List.getElem?_eq_some_iff.mp e).1
          rw [List.length_map, List.length_range] at this
          exact this
        have l2 : r.length ≤ 999 := by
          rw [q.len]
          omega
        simp [fnD, fnW, sNext, sBrk, sCnt, sNever, thenO, sSeq, sIf, sRet, sRetN, sDrop, sRetO, bNm, bNil, bCons, bTup, sAsg, sOwn, sApp, sPar, sPar3, sParO, sFrz, nLst, mOfN, mCon, mVar, mPk, mUn, mOp, mNil, mCons, mTup, mLst, mFn, mAnd, mOr, mNot, mIf, mChn, tVal, tAndM, tOrM, tNotM, outD, o_len, o_eqX, o_neX, o_cmp, o_add, o_sub, o_neg, o_i2, o_ix, o_in, o_gcd, o_tuple, o_list, o_int, o_abs, mCut, pNone, pSome, tupB, intish, boolish, M.run_bind, M.run_ret, Gd.at_0, Gd.at_1, Gd.at_2, Gd.at_3, Gd.at_4, Gd.at_5, M.opt_some, o_isN, noneB, sParP, sPut, nMul, o_lcm, sEnT, tTru, asT, o_mulX, o_sorted, o_inL, mOne, g_one, TurnO, lotD]
        have key : ∀ s : Int, Sg1 s → ∃ r' : List Int, r.map PyData.int ++ [.int s] = r'.map PyData.int ∧ Run (i + 1) r' := fun s hs => ⟨r ++ [s], by rw [List.map_append]; rfl, q.snoc hs⟩
        exact ⟨⟨l2, key 1 (.inl rfl)⟩, ⟨l2, key (-1) (.inr rfl)⟩⟩
    · rintro _ ⟨r, c3, rfl, q⟩
      simpa [fnD, fnW, sNext, sBrk, sCnt, sNever, thenO, sSeq, sIf, sRet, sRetN, sDrop, sRetO, bNm, bNil, bCons, bTup, sAsg, sOwn, sApp, sPar, sPar3, sParO, sFrz, nLst, mOfN, mCon, mVar, mPk, mUn, mOp, mNil, mCons, mTup, mLst, mFn, mAnd, mOr, mNot, mIf, mChn, tVal, tAndM, tOrM, tNotM, outD, o_len, o_eqX, o_neX, o_cmp, o_add, o_sub, o_neg, o_i2, o_ix, o_in, o_gcd, o_tuple, o_list, o_int, o_abs, mCut, pNone, pSome, tupB, intish, boolish, M.run_bind, M.run_ret, Gd.at_0, Gd.at_1, Gd.at_2, Gd.at_3, Gd.at_4, Gd.at_5, M.opt_some, o_isN, noneB, sParP, sPut, nMul, o_lcm, sEnT, tTru, asT, o_mulX, o_sorted, o_inL, mOne, g_one] using h _ ⟨r, q, rfl⟩
  | _ => exact h.elim
theorem Lot.next {i : Nat} {a : List Int} (h : Lot i a) : Lot (i + 1 : Nat) a := ⟨h.asc, fun k hk => by have := h.inn k hk; omega⟩
theorem Lot.snoc {i : Nat} {a : List Int} (h : Lot i a) : Lot (i + 1 : Nat) (a ++ [(i : Int)]) := ⟨by
  rw [List.pairwise_append]
  refine ⟨h.asc, by simp, fun x hx y hy => ?_⟩
  rw [List.mem_singleton.mp hy]
  exact (h.inn x hx).2, fun k hk => by
  rcases List.mem_append.mp hk with hk | hk
  · have := h.inn k hk; omega
  · rw [List.mem_singleton.mp hk]; omega⟩
theorem eq_leff : ∀ ds p, ds.length = 1 → (g_leff ds).run p → (fnW 2 bd__law_effect.1 ds).run p := by
  intro ds p hl h
  obtain ⟨d, rfl⟩ := len1 hl
  cases d with
  | int n =>
    obtain ⟨⟨n1, n6⟩, h⟩ := h
    have h : ∀ d, (∃ a, Lot n a ∧ d = lotD a) → p d := h
    obtain ⟨m, rfl⟩ := Int.eq_ofNat_of_zero_le (show 0 ≤ n by omega)
    show (bd__law_effect.1 [.well, .im (.int m), .un, .un]).run fun o => (outD o).run p
    unfold bd__law_effect
    refine seq_run (fun Γ => Γ = [.well, .im (.int m), .im (lotD []), .un]) ?_ ?_
    · simp [fnD, fnW, sNext, sBrk, sCnt, sNever, thenO, sSeq, sIf, sRet, sRetN, sDrop, sRetO, bNm, bNil, bCons, bTup, sAsg, sOwn, sApp, sPar, sPar3, sParO, sFrz, nLst, mOfN, mCon, mVar, mPk, mUn, mOp, mNil, mCons, mTup, mLst, mFn, mAnd, mOr, mNot, mIf, mChn, tVal, tAndM, tOrM, tNotM, outD, o_len, o_eqX, o_neX, o_cmp, o_add, o_sub, o_neg, o_i2, o_ix, o_in, o_gcd, o_tuple, o_list, o_int, o_abs, mCut, pNone, pSome, tupB, intish, boolish, M.run_bind, M.run_ret, Gd.at_0, Gd.at_1, Gd.at_2, Gd.at_3, Gd.at_4, Gd.at_5, M.opt_some, o_isN, noneB, sParP, sPut, nMul, o_lcm, sEnT, tTru, asT, o_mulX, o_sorted, o_inL, mOne, g_one, LoopO, lotD]
    rintro _ rfl
    refine seq_run (fun Γ => ∃ (a : List Int) (c3 : Cell), Γ = [.well, .im (.int m), .im (lotD a), c3] ∧ Lot m a) ?_ ?_
    · refine for_run ?_
      simp only [sRg1, mCons, mNil, mVar, M.ret_bind, M.run_bind, M.run_gd, M.run_ret, List.getElem?_cons_succ, List.getElem?_cons_zero]
      refine ⟨by omega, ?_⟩
      refine M.mono _ ?_ (forL_inv (fun _ => False) (fun _ => False) (fun i Γ => ∃ (a : List Int) (c3 : Cell), Γ = [.well, .im (.int m), .im (lotD a), c3] ∧ Lot i a) ?_ _ ⟨[], .un, rfl, .nil⟩)
      · intro o q
        cases o with
        | nx Γ =>
          rcases q with ⟨l, c3, rfl, q⟩ | z
          · rw [List.length_map, List.length_range] at q
            exact ⟨l, c3, rfl, q⟩
          · exact z.elim
        | _ => exact q.elim
      · rintro i d Γ e ⟨a, c3, rfl, q⟩
        rw [List.getElem?_map] at e
        obtain ⟨j, e1, rfl⟩ := Option.map_eq_some_iff.mp e
        obtain ⟨l1, e2⟩ := List.getElem?_eq_some_iff.mp e1
        rw [List.getElem_range] at e2
        subst e2
        rw [List.length_range] at l1
        have l2 : a.length ≤ 999 := by
          have := (q.small (by omega)).1
          omega
        simp [fnD, fnW, sNext, sBrk, sCnt, sNever, thenO, sSeq, sIf, sRet, sRetN, sDrop, sRetO, bNm, bNil, bCons, bTup, sAsg, sOwn, sApp, sPar, sPar3, sParO, sFrz, nLst, mOfN, mCon, mVar, mPk, mUn, mOp, mNil, mCons, mTup, mLst, mFn, mAnd, mOr, mNot, mIf, mChn, tVal, tAndM, tOrM, tNotM, outD, o_len, o_eqX, o_neX, o_cmp, o_add, o_sub, o_neg, o_i2, o_ix, o_in, o_gcd, o_tuple, o_list, o_int, o_abs, mCut, pNone, pSome, tupB, intish, boolish, M.run_bind, M.run_ret, Gd.at_0, Gd.at_1, Gd.at_2, Gd.at_3, Gd.at_4, Gd.at_5, M.opt_some, o_isN, noneB, sParP, sPut, nMul, o_lcm, sEnT, tTru, asT, o_mulX, o_sorted, o_inL, mOne, g_one, TurnO, g_draw, lotD]
        rintro _ k k0 k2 rfl
        have k3 : k = 0 ∨ k = 1 := by omega
        rcases k3 with rfl | rfl
        · simp
          exact ⟨a, rfl, q.next⟩
        · simp
          exact ⟨l2, a ++ [(i : Int)], by simp, q.snoc⟩
    · rintro _ ⟨a, c3, rfl, q⟩
      simpa [fnD, fnW, sNext, sBrk, sCnt, sNever, thenO, sSeq, sIf, sRet, sRetN, sDrop, sRetO, bNm, bNil, bCons, bTup, sAsg, sOwn, sApp, sPar, sPar3, sParO, sFrz, nLst, mOfN, mCon, mVar, mPk, mUn, mOp, mNil, mCons, mTup, mLst, mFn, mAnd, mOr, mNot, mIf, mChn, tVal, tAndM, tOrM, tNotM, outD, o_len, o_eqX, o_neX, o_cmp, o_add, o_sub, o_neg, o_i2, o_ix, o_in, o_gcd, o_tuple, o_list, o_int, o_abs, mCut, pNone, pSome, tupB, intish, boolish, M.run_bind, M.run_ret, Gd.at_0, Gd.at_1, Gd.at_2, Gd.at_3, Gd.at_4, Gd.at_5, M.opt_some, o_isN, noneB, sParP, sPut, nMul, o_lcm, sEnT, tTru, asT, o_mulX, o_sorted, o_inL, mOne, g_one] using h _ ⟨a, q, rfl⟩
  | _ => exact h.elim
theorem eq_lwords : ∀ ds p, ds.length = 3 → (g_lwords ds).run p → (fnW 4 bd__law_words.1 ds).run p := by
  intro ds p hl h
  obtain ⟨x, y, z, rfl⟩ := len3 hl
  unfold g_lwords at h
  split at h
  · rename_i n b e
    cases e
    obtain ⟨⟨n1, n6⟩, h⟩ := h
    have h : ∀ d, (∃ l, WsOk n l ∧ d = wdsD l) → p d := h
    obtain ⟨m, rfl⟩ := Int.eq_ofNat_of_zero_le (show 0 ≤ n by omega)
    have e1 : g_lrun [.int m] = M.any fun d => ∃ r, Run m r ∧ d = lotD r := by
      show (M.gd _).bind _ = _
      rw [M.gd_true ⟨n1, n6⟩]
      rfl
    have e2 : g_leff [.int m] = M.any fun d => ∃ a, Lot m a ∧ d = lotD a := by
      show (M.gd _).bind _ = _
      rw [M.gd_true ⟨n1, n6⟩]
    show (bd__law_words.1 [.well, .im (.int m), .im (.int 6), .im (.bool b), .un, .un, .un, .un]).run fun o => (outD o).run p
    unfold bd__law_words
    refine seq_run (fun Γ => ∃ r, Run m r ∧ Γ = [.well, .im (.int m), .im (.int 6), .im (.bool b), .im (lotD r), .im (wdsD []), .un, .un]) ?_ ?_
    · simp [fnD, fnW, sNext, sBrk, sCnt, sNever, thenO, sSeq, sIf, sRet, sRetN, sDrop, sRetO, bNm, bNil, bCons, bTup, sAsg, sOwn, sApp, sPar, sPar3, sParO, sFrz, nLst, mOfN, mCon, mVar, mPk, mUn, mOp, mNil, mCons, mTup, mLst, mFn, mAnd, mOr, mNot, mIf, mChn, tVal, tAndM, tOrM, tNotM, outD, o_len, o_eqX, o_neX, o_cmp, o_add, o_sub, o_neg, o_i2, o_ix, o_in, o_gcd, o_tuple, o_list, o_int, o_abs, mCut, pNone, pSome, tupB, intish, boolish, M.run_bind, M.run_ret, Gd.at_0, Gd.at_1, Gd.at_2, Gd.at_3, Gd.at_4, Gd.at_5, M.opt_some, o_isN, noneB, sParP, sPut, nMul, o_lcm, sEnT, tTru, asT, o_mulX, o_sorted, o_inL, mOne, g_one, LoopO, e1, wdsD]
    rintro _ ⟨r, hr, rfl⟩
    refine seq_run (fun Γ => ∃ (l : List Wd) (c6 c7 : Cell), Γ = [.well, .im (.int m), .im (.int 6), .im (.bool b), .im (lotD r), .im (wdsD l), c6, c7] ∧ WsOk m l) ?_ ?_
    · refine for_run (M.mono _ (p := fun ds => ∃ k : Nat, k ≤ 6 ∧ ds = (List.range k).map fun j : Nat => .int (0 + (j : Nat))) ?_ ?_)
      rotate_left
      · simp only [sRg1, mCons, mNil, mFn, mOp, mVar, mPk, mCon, o_add, M.ret_bind, M.run_bind, M.run_gd, M.run_ret, M.run_any, g_draw, List.getElem?_cons_succ, List.getElem?_cons_zero, List.length_cons, List.length_nil]
        refine ⟨trivial, by decide, ?_⟩
        rintro _ ⟨k, k0, k1, rfl⟩
        exact ⟨by omega, k.toNat, by omega, rfl⟩
      rintro _ ⟨k, k6, rfl⟩
      refine M.mono _ ?_ (forL_inv (fun _ => False) (fun _ => False) (fun i Γ => ∃ (l : List Wd) (c6 c7 : Cell), Γ = [.well, .im (.int m), .im (.int 6), .im (.bool b), .im (lotD r), .im (wdsD l), c6, c7] ∧ l.length = i ∧ ∀ w ∈ l, Wok m w) ?_ _ ⟨[], .un, .un, rfl, rfl, fun _ h => nomatch h⟩)
      · intro o q
        cases o with
        | nx Γ =>
          rcases q with ⟨l, c6, c7, rfl, q1, q2⟩ | z
          · rw [List.length_map, List.length_range] at q1
            exact ⟨l, c6, c7, rfl, n1, n6, by omega, q2⟩
          · exact z.elim
        | _ => exact q.elim
      · rintro i d Γ e ⟨l, c6, c7, rfl, q1, q2⟩
        have il : i < k := by
          have := (List.getElem?_eq_some_iff.mp e).1
          rw [List.length_map, List.length_range] at this
          exact this
        rw [run_bNm]
        simp only [List.set_cons_succ, List.set_cons_zero]
        refine seq_run (fun Γ => ∃ a, Lot m a ∧ Γ = [.well, .im (.int m), .im (.int 6), .im (.bool b), .im (lotD r), .im (wdsD l), .im d, .im (lotD a)]) ?_ ?_
        · simp [fnD, fnW, sNext, sBrk, sCnt, sNever, thenO, sSeq, sIf, sRet, sRetN, sDrop, sRetO, bNm, bNil, bCons, bTup, sAsg, sOwn, sApp, sPar, sPar3, sParO, sFrz, nLst, mOfN, mCon, mVar, mPk, mUn, mOp, mNil, mCons, mTup, mLst, mFn, mAnd, mOr, mNot, mIf, mChn, tVal, tAndM, tOrM, tNotM, outD, o_len, o_eqX, o_neX, o_cmp, o_add, o_sub, o_neg, o_i2, o_ix, o_in, o_gcd, o_tuple, o_list, o_int, o_abs, mCut, pNone, pSome, tupB, intish, boolish, M.run_bind, M.run_ret, Gd.at_0, Gd.at_1, Gd.at_2, Gd.at_3, Gd.at_4, Gd.at_5, M.opt_some, o_isN, noneB, sParP, sPut, nMul, o_lcm, sEnT, tTru, asT, o_mulX, o_sorted, o_inL, mOne, g_one, LoopO, e2]
        rintro _ ⟨a, ha, rfl⟩
        refine seq_run (fun Γ => ∃ a, Lot m a ∧ Γ = [.well, .im (.int m), .im (.int 6), .im (.bool b), .im (lotD r), .im (wdsD l), .im d, .im (lotD a)]) ?_ ?_
        · by_cases c : (1 : Int) < l.length
          · simp [fnD, fnW, sNext, sBrk, sCnt, sNever, thenO, sSeq, sIf, sRet, sRetN, sDrop, sRetO, bNm, bNil, bCons, bTup, sAsg, sOwn, sApp, sPar, sPar3, sParO, sFrz, nLst, mOfN, mCon, mVar, mPk, mUn, mOp, mNil, mCons, mTup, mLst, mFn, mAnd, mOr, mNot, mIf, mChn, tVal, tAndM, tOrM, tNotM, outD, o_len, o_eqX, o_neX, o_cmp, o_add, o_sub, o_neg, o_i2, o_ix, o_in, o_gcd, o_tuple, o_list, o_int, o_abs, mCut, pNone, pSome, tupB, intish, boolish, M.run_bind, M.run_ret, Gd.at_0, Gd.at_1, Gd.at_2, Gd.at_3, Gd.at_4, Gd.at_5, M.opt_some, o_isN, noneB, sParP, sPut, nMul, o_lcm, sEnT, tTru, asT, o_mulX, o_sorted, o_inL, mOne, g_one, LoopO, g_draw, wdsD, c]
            have l0 : ¬ l = [] := by
              rintro rfl
              simp at c
            have lm : l.length ≤ 1000000 := by omega
            rintro _ x x0 x3 rfl
            refine ⟨sh_int x, ?_⟩
            split
            · refine ⟨⟨l0, lm⟩, ?_⟩
              rintro _ u s hu rfl
              show (M.opt (atI [lotD u, PyData.int s] 0)).run _
              have ea : atI [lotD u, PyData.int s] 0 = some (lotD u) := rfl
              rw [ea]
              refine ⟨⟨l0, lm⟩, ?_⟩
              rintro _ v t hv rfl
              show (M.opt (atI [lotD v, PyData.int t] 0)).run _
              have eb : atI [lotD v, PyData.int t] 0 = some (lotD v) := rfl
              rw [eb]
              have e4 := ret_parted n6 (q2 _ hu).lot (q2 _ hv).lot
              show (g_parted [lotD u, lotD v]).run _
              rw [e4]
              exact ⟨_, (q2 _ hv).lot.xor n6 (q2 _ hu).lot, rfl⟩
            · exact ⟨a, ha, rfl⟩
          · simp [fnD, fnW, sNext, sBrk, sCnt, sNever, thenO, sSeq, sIf, sRet, sRetN, sDrop, sRetO, bNm, bNil, bCons, bTup, sAsg, sOwn, sApp, sPar, sPar3, sParO, sFrz, nLst, mOfN, mCon, mVar, mPk, mUn, mOp, mNil, mCons, mTup, mLst, mFn, mAnd, mOr, mNot, mIf, mChn, tVal, tAndM, tOrM, tNotM, outD, o_len, o_eqX, o_neX, o_cmp, o_add, o_sub, o_neg, o_i2, o_ix, o_in, o_gcd, o_tuple, o_list, o_int, o_abs, mCut, pNone, pSome, tupB, intish, boolish, M.run_bind, M.run_ret, Gd.at_0, Gd.at_1, Gd.at_2, Gd.at_3, Gd.at_4, Gd.at_5, M.opt_some, o_isN, noneB, sParP, sPut, nMul, o_lcm, sEnT, tTru, asT, o_mulX, o_sorted, o_inL, mOne, g_one, LoopO, g_draw, wdsD, c]
            exact ⟨a, ha, rfl⟩
        rintro _ ⟨a, ha, rfl⟩
        refine seq_run (fun Γ => ∃ a, Lot m a ∧ a ≠ [] ∧ Γ = [.well, .im (.int m), .im (.int 6), .im (.bool b), .im (lotD r), .im (wdsD l), .im d, .im (lotD a)]) ?_ ?_
        · by_cases c : a = []
          · subst c
            simp [fnD, fnW, sNext, sBrk, sCnt, sNever, thenO, sSeq, sIf, sRet, sRetN, sDrop, sRetO, bNm, bNil, bCons, bTup, sAsg, sOwn, sApp, sPar, sPar3, sParO, sFrz, nLst, mOfN, mCon, mVar, mPk, mUn, mOp, mNil, mCons, mTup, mLst, mFn, mAnd, mOr, mNot, mIf, mChn, tVal, tAndM, tOrM, tNotM, outD, o_len, o_eqX, o_neX, o_cmp, o_add, o_sub, o_neg, o_i2, o_ix, o_in, o_gcd, o_tuple, o_list, o_int, o_abs, mCut, pNone, pSome, tupB, intish, boolish, M.run_bind, M.run_ret, Gd.at_0, Gd.at_1, Gd.at_2, Gd.at_3, Gd.at_4, Gd.at_5, M.opt_some, o_isN, noneB, sParP, sPut, nMul, o_lcm, sEnT, tTru, asT, o_mulX, o_sorted, o_inL, mOne, g_one, LoopO, g_draw, lotD]
            refine ⟨⟨by omega, by omega⟩, ?_⟩
            rintro _ x x0 x1 rfl
            exact ⟨[x], ⟨by simp, fun k hk => by rw [List.mem_singleton.mp hk]; exact ⟨x0, x1⟩⟩, by simp, rfl⟩
          · simp [fnD, fnW, sNext, sBrk, sCnt, sNever, thenO, sSeq, sIf, sRet, sRetN, sDrop, sRetO, bNm, bNil, bCons, bTup, sAsg, sOwn, sApp, sPar, sPar3, sParO, sFrz, nLst, mOfN, mCon, mVar, mPk, mUn, mOp, mNil, mCons, mTup, mLst, mFn, mAnd, mOr, mNot, mIf, mChn, tVal, tAndM, tOrM, tNotM, outD, o_len, o_eqX, o_neX, o_cmp, o_add, o_sub, o_neg, o_i2, o_ix, o_in, o_gcd, o_tuple, o_list, o_int, o_abs, mCut, pNone, pSome, tupB, intish, boolish, M.run_bind, M.run_ret, Gd.at_0, Gd.at_1, Gd.at_2, Gd.at_3, Gd.at_4, Gd.at_5, M.opt_some, o_isN, noneB, sParP, sPut, nMul, o_lcm, sEnT, tTru, asT, o_mulX, o_sorted, o_inL, mOne, g_one, LoopO, lotD, c]
            exact ⟨a, ha, c, rfl⟩
        rintro _ ⟨a, ha, a0, rfl⟩
        have e3 := ret_sin hr ha
        have l9 : l.length ≤ 999 := by omega
        have key : ∀ s, Sg1 s → ∃ l' : List Wd, l.map wdD ++ [PyData.tuple [lotD a, PyData.int s]] = l'.map wdD ∧ l'.length = i + 1 ∧ ∀ (x : List Int) (y : Int), (x, y) ∈ l' → Wok m (x, y) := fun s hs => ⟨l ++ [(a, s)], by rw [List.map_append]; rfl, by rw [List.length_append, q1]; rfl, fun x y hw => by
          rcases List.mem_append.mp hw with hw | hw
          · exact q2 _ hw
          · rw [List.mem_singleton.mp hw]
            exact ⟨ha, a0, hs⟩⟩
        cases b with
        | true =>
          simp [fnD, fnW, sNext, sBrk, sCnt, sNever, thenO, sSeq, sIf, sRet, sRetN, sDrop, sRetO, bNm, bNil, bCons, bTup, sAsg, sOwn, sApp, sPar, sPar3, sParO, sFrz, nLst, mOfN, mCon, mVar, mPk, mUn, mOp, mNil, mCons, mTup, mLst, mFn, mAnd, mOr, mNot, mIf, mChn, tVal, tAndM, tOrM, tNotM, outD, o_len, o_eqX, o_neX, o_cmp, o_add, o_sub, o_neg, o_i2, o_ix, o_in, o_gcd, o_tuple, o_list, o_int, o_abs, mCut, pNone, pSome, tupB, intish, boolish, M.run_bind, M.run_ret, Gd.at_0, Gd.at_1, Gd.at_2, Gd.at_3, Gd.at_4, Gd.at_5, M.opt_some, o_isN, noneB, sParP, sPut, nMul, o_lcm, sEnT, tTru, asT, o_mulX, o_sorted, o_inL, mOne, g_one, TurnO, wdsD, e3, l9]
          exact key _ (sgn_sg hr ha)
        | false =>
          simp [fnD, fnW, sNext, sBrk, sCnt, sNever, thenO, sSeq, sIf, sRet, sRetN, sDrop, sRetO, bNm, bNil, bCons, bTup, sAsg, sOwn, sApp, sPar, sPar3, sParO, sFrz, nLst, mOfN, mCon, mVar, mPk, mUn, mOp, mNil, mCons, mTup, mLst, mFn, mAnd, mOr, mNot, mIf, mChn, tVal, tAndM, tOrM, tNotM, outD, o_len, o_eqX, o_neX, o_cmp, o_add, o_sub, o_neg, o_i2, o_ix, o_in, o_gcd, o_tuple, o_list, o_int, o_abs, mCut, pNone, pSome, tupB, intish, boolish, M.run_bind, M.run_ret, Gd.at_0, Gd.at_1, Gd.at_2, Gd.at_3, Gd.at_4, Gd.at_5, M.opt_some, o_isN, noneB, sParP, sPut, nMul, o_lcm, sEnT, tTru, asT, o_mulX, o_sorted, o_inL, mOne, g_one, TurnO, wdsD, e3, l9]
          exact ⟨key _ (.inl rfl), key _ (.inr rfl)⟩
    · rintro _ ⟨l, c6, c7, rfl, q⟩
      simpa [fnD, fnW, sNext, sBrk, sCnt, sNever, thenO, sSeq, sIf, sRet, sRetN, sDrop, sRetO, bNm, bNil, bCons, bTup, sAsg, sOwn, sApp, sPar, sPar3, sParO, sFrz, nLst, mOfN, mCon, mVar, mPk, mUn, mOp, mNil, mCons, mTup, mLst, mFn, mAnd, mOr, mNot, mIf, mChn, tVal, tAndM, tOrM, tNotM, outD, o_len, o_eqX, o_neX, o_cmp, o_add, o_sub, o_neg, o_i2, o_ix, o_in, o_gcd, o_tuple, o_list, o_int, o_abs, mCut, pNone, pSome, tupB, intish, boolish, M.run_bind, M.run_ret, Gd.at_0, Gd.at_1, Gd.at_2, Gd.at_3, Gd.at_4, Gd.at_5, M.opt_some, o_isN, noneB, sParP, sPut, nMul, o_lcm, sEnT, tTru, asT, o_mulX, o_sorted, o_inL, mOne, g_one] using h _ ⟨l, q, rfl⟩
  · exact h.elim
end K2

set_option Elab.async false
set_option linter.all false
set_option maxRecDepth 100000
set_option maxHeartbeats 4000000
set_option autoImplicit false
namespace K2
open PySem PySem.Spec PyProof.Rows L2 RZ Gd Dl
open Fq
theorem ret_esign {n : Nat} {r a : List Int} (hr : Run n r) (ha : Lot n a) (n1 : 1 ≤ n) (n6 : n ≤ 6) : g_esign [lotD r, lotD a] = .ret (.int (sgn r a)) := by
  show (M.gd _).bind _ = _
  rw [M.gd_true ⟨n, r, a, rfl, rfl, hr, ha, n1, n6⟩, unL_lot, unL_lot]
theorem ret_oddlot {n : Int} {a b : List Int} (ha : Lot n a) (hb : Lot n b) (n1 : 1 ≤ n) (n6 : n ≤ 6) : g_oddlot [.int n, lotD a, lotD b] = .ret (lotD (xorI a b)) := by
  show (M.gd _).bind _ = _
  rw [M.gd_true ⟨a, b, rfl, rfl, ha, hb, n1, n6⟩, unL_lot, unL_lot]
theorem ret_products {n : Int} {l : List Wd} (hw : WsOk n l) : g_products [.int n, wdsD l] = .ret (.tuple (srtD ((mkP l).map wdD))) := by
  show (M.gd _).bind _ = _
  rw [M.gd_true ⟨l, rfl, hw⟩, unWs_wds]
theorem ret_piece {n : Int} {l : List Wd} (hw : WsOk n l) : g_piece [.int n, wdsD l] = .ret (.tuple (((runsP n.toNat).filter (agB l)).map lotD)) := ret_pieceof hw
theorem ret_lmade {n : Int} {l : List Wd} (hw : WsOk n l) : g_lmade [wdsD l] = .ret (.tuple (srtD ((mkP l).map wdD))) := by
  show (M.gd _).bind _ = _
  rw [M.gd_true ⟨n, l, rfl, hw⟩, unWs_wds]
theorem sn_ints {l : List Int} (h : l.length ≤ 6) (m : ∀ k ∈ l, -7 ≤ k ∧ k ≤ 7) : Sn 19000 90 (.list (l.map .int)) := by
  refine (SnL.lst (n := 6) (c := 0) (k := 0) ⟨by rw [List.length_map]; exact h, fun d hd => ?_⟩).up (by decide) (by decide)
  obtain ⟨k, hk, rfl⟩ := List.mem_map.mp hd
  refine sn_int (Nat.lt_of_lt_of_le (show k.natAbs < 2 ^ 10 by have := m k hk; omega) (Nat.pow_le_pow_right (by decide) (by decide)))
theorem sn_made {n : Int} {l : List Wd} (hw : WsOk n l) : Sn 9000 80 (.tuple (srtD ((mkP l).map wdD))) := by
  refine (sn_srt (c := 14) (k := 2) (by rw [List.length_map]; exact mk_len hw.len) fun d hd => ?_).up (by decide) (by decide)
  obtain ⟨w, m, rfl⟩ := List.mem_map.mp hd
  exact ((mk_grp hw.n6 (ws_g hw)).g w m).sn hw.n6
theorem sn_piece {n : Int} (n1 : 1 ≤ n) (n6 : n ≤ 6) (l : List Wd) : Sn 9000 80 (.tuple (((runsP n.toNat).filter (agB l)).map lotD)) := by
  refine (SnL.tup (n := 64) (c := 6) (k := 1) ⟨?_, fun d hd => ?_⟩).up (by decide) (by decide)
  · rw [List.length_map]
    refine Nat.le_trans (List.length_filter_le _ _) ?_
    rw [runsP_len]
    exact Nat.le_trans (Nat.pow_le_pow_right (by decide) (show n.toNat ≤ 6 by omega)) (by decide)
  · obtain ⟨r, hr, rfl⟩ := List.mem_map.mp hd
    exact (runsP_run r (List.mem_filter.mp hr).1).sn (by omega)
theorem rep_nil : o_repr (.tuple []) = .ret (.str "()") := by
  rw [o_repr_okT ((SnL.tup (n := 0) (c := 0) (k := 0) (ds := []) ⟨Nat.le_refl _, fun _ h => nomatch h⟩).up (by decide) (by decide))]
  have e : (PyData.tuple []).shown = "()" := by decide +kernel
  rw [e]
theorem sIf_t {t : List Cell → M Bool} {g1 g2 : Sg} {Γ : List Cell} {P : Out → Prop} (h : t Γ = .ret true) (h2 : (g1 Γ).run P) : (sIf t g1 g2 Γ).run P := by
  unfold sIf
  rw [h]
  exact h2
theorem sIf_f {t : List Cell → M Bool} {g1 g2 : Sg} {Γ : List Cell} {P : Out → Prop} (h : t Γ = .ret false) (h2 : (g2 Γ).run P) : (sIf t g1 g2 Γ).run P := by
  unfold sIf
  rw [h]
  exact h2
theorem eq_right : ∀ ds p, ds.length = 0 → (g_right ds).run p → (fnW 12 bd__law_right.1 ds).run p := by
  intro ds p hl h
  obtain rfl : ds = [] := List.eq_nil_of_length_eq_zero hl
  have h : p (.bool true) := h
  show (bd__law_right.1 (.well :: List.replicate 12 .un)).run fun o => (outD o).run p
  unfold bd__law_right
  let I : List Cell → Prop := fun Γ => ∃ c1 c2 c3 c4 c5 c6 c7 c8 c9 c10 c11 c12, Γ = [.well, c1, c2, c3, c4, c5, c6, c7, c8, c9, c10, c11, c12]
  refine seq_run I ?_ ?_
  · refine for_run ?_
    simp only [sRg1, mCons, mNil, mCon, M.ret_bind, M.run_bind, M.run_gd, M.run_ret]
    refine ⟨by decide, ?_⟩
    refine M.mono _ ?_ (forL_inv (fun _ => False) (fun _ => False) (fun _ => I) ?_ _ ⟨_, _, _, _, _, _, _, _, _, _, _, _, rfl⟩)
    · intro o q
      cases o with
      | nx Γ => exact q.resolve_right id
      | _ => exact q.elim
    rintro i x Γ - ⟨c1, c2, c3, c4, c5, c6, c7, c8, c9, c10, c11, c12, rfl⟩
    simp only [bNm, M.run_ret, List.set_cons_succ, List.set_cons_zero]
    refine seq_run (fun Γ => ∃ n : Int, 1 ≤ n ∧ n ≤ 6 ∧ Γ = [.well, .im x, .im (.int n), c3, c4, c5, c6, c7, c8, c9, c10, c11, c12]) ?_ ?_
    · simp [fnD, fnW, sNext, sBrk, sCnt, sNever, thenO, sSeq, sIf, sRet, sRetN, sDrop, sRetO, bNm, bNil, bCons, bTup, sAsg, sOwn, sApp, sPar, sPar3, sParO, sFrz, nLst, mOfN, mCon, mVar, mPk, mUn, mOp, mNil, mCons, mTup, mLst, mFn, mAnd, mOr, mNot, mIf, mChn, tVal, tAndM, tOrM, tNotM, outD, o_len, o_eqX, o_neX, o_cmp, o_add, o_sub, o_neg, o_i2, o_ix, o_in, o_gcd, o_tuple, o_list, o_int, o_abs, mCut, pNone, pSome, tupB, intish, boolish, M.run_bind, M.run_ret, Gd.at_0, Gd.at_1, Gd.at_2, Gd.at_3, Gd.at_4, Gd.at_5, M.opt_some, o_isN, noneB, sParP, sPut, nMul, o_lcm, sEnT, tTru, asT, o_mulX, o_sorted, o_inL, mOne, g_one, LoopO, g_draw]
      rintro _ k k0 k1 rfl
      exact ⟨1 + k, by omega, by omega, rfl⟩
    rintro _ ⟨n, n1, n6, rfl⟩
    have e1 : ∀ b, g_lwords [.int n, .int 6, .bool b] = M.any fun d => ∃ l, WsOk n l ∧ d = wdsD l := fun b => by
      show (M.gd _).bind _ = _
      rw [M.gd_true ⟨n1, n6⟩]
    refine seq_run (fun Γ => ∃ l, WsOk n l ∧ Γ = [.well, .im x, .im (.int n), .im (wdsD l), c4, c5, c6, c7, c8, c9, c10, c11, c12]) ?_ ?_
    · simp [fnD, fnW, sNext, sBrk, sCnt, sNever, thenO, sSeq, sIf, sRet, sRetN, sDrop, sRetO, bNm, bNil, bCons, bTup, sAsg, sOwn, sApp, sPar, sPar3, sParO, sFrz, nLst, mOfN, mCon, mVar, mPk, mUn, mOp, mNil, mCons, mTup, mLst, mFn, mAnd, mOr, mNot, mIf, mChn, tVal, tAndM, tOrM, tNotM, outD, o_len, o_eqX, o_neX, o_cmp, o_add, o_sub, o_neg, o_i2, o_ix, o_in, o_gcd, o_tuple, o_list, o_int, o_abs, mCut, pNone, pSome, tupB, intish, boolish, M.run_bind, M.run_ret, Gd.at_0, Gd.at_1, Gd.at_2, Gd.at_3, Gd.at_4, Gd.at_5, M.opt_some, o_isN, noneB, sParP, sPut, nMul, o_lcm, sEnT, tTru, asT, o_mulX, o_sorted, o_inL, mOne, g_one, LoopO, g_draw]
      rintro _ k k0 k1 rfl
      simp [e1]
    rintro _ ⟨l, hw, rfl⟩
    have e2 : g_lrun [.int n] = M.any fun d => ∃ r, Run n.toNat r ∧ d = lotD r := by
      show (M.gd _).bind _ = _
      rw [M.gd_true ⟨n1, n6⟩]
    have e3 : g_leff [.int n] = M.any fun d => ∃ a, Lot n a ∧ d = lotD a := by
      show (M.gd _).bind _ = _
      rw [M.gd_true ⟨n1, n6⟩]
    refine seq_run (fun Γ => ∃ r a b, Run n.toNat r ∧ Lot n a ∧ Lot n b ∧ Γ = [.well, .im x, .im (.int n), .im (wdsD l), .im (lotD r), .im (lotD a), .im (lotD b), c7, c8, c9, c10, c11, c12]) ?_ ?_
    · simp [fnD, fnW, sNext, sBrk, sCnt, sNever, thenO, sSeq, sIf, sRet, sRetN, sDrop, sRetO, bNm, bNil, bCons, bTup, sAsg, sOwn, sApp, sPar, sPar3, sParO, sFrz, nLst, mOfN, mCon, mVar, mPk, mUn, mOp, mNil, mCons, mTup, mLst, mFn, mAnd, mOr, mNot, mIf, mChn, tVal, tAndM, tOrM, tNotM, outD, o_len, o_eqX, o_neX, o_cmp, o_add, o_sub, o_neg, o_i2, o_ix, o_in, o_gcd, o_tuple, o_list, o_int, o_abs, mCut, pNone, pSome, tupB, intish, boolish, M.run_bind, M.run_ret, Gd.at_0, Gd.at_1, Gd.at_2, Gd.at_3, Gd.at_4, Gd.at_5, M.opt_some, o_isN, noneB, sParP, sPut, nMul, o_lcm, sEnT, tTru, asT, o_mulX, o_sorted, o_inL, mOne, g_one, LoopO, e2, e3]
      rintro _ r hr rfl _ a ha rfl _ b hb rfl
      exact ⟨r, hr, a, ha, b, hb, rfl, rfl, rfl⟩
    rintro _ ⟨r, a, b, hr, ha, hb, rfl⟩
    have en : ((n.toNat : Nat) : Int) = n := Int.toNat_of_nonneg (by omega)
    have ha' : Lot (n.toNat : Nat) a := by rw [en]; exact ha
    have hb' : Lot (n.toNat : Nat) b := by rw [en]; exact hb
    have hx := ha.xor n6 hb
    have hx' : Lot (n.toNat : Nat) (xorI a b) := by rw [en]; exact hx
    have m6 : ((n.toNat : Nat) : Int) ≤ 6 := by omega
    have e4 := ret_parted n6 ha hb
    rw [xorI_comm] at e4
    refine seq_run (fun Γ => Γ = [.well, .im x, .im (.int n), .im (wdsD l), .im (lotD r), .im (lotD a), .im (lotD b), .im (lotD (xorI a b)), c8, c9, c10, c11, c12]) ?_ ?_
    · simp [fnD, fnW, sNext, sBrk, sCnt, sNever, thenO, sSeq, sIf, sRet, sRetN, sDrop, sRetO, bNm, bNil, bCons, bTup, sAsg, sOwn, sApp, sPar, sPar3, sParO, sFrz, nLst, mOfN, mCon, mVar, mPk, mUn, mOp, mNil, mCons, mTup, mLst, mFn, mAnd, mOr, mNot, mIf, mChn, tVal, tAndM, tOrM, tNotM, outD, o_len, o_eqX, o_neX, o_cmp, o_add, o_sub, o_neg, o_i2, o_ix, o_in, o_gcd, o_tuple, o_list, o_int, o_abs, mCut, pNone, pSome, tupB, intish, boolish, M.run_bind, M.run_ret, Gd.at_0, Gd.at_1, Gd.at_2, Gd.at_3, Gd.at_4, Gd.at_5, M.opt_some, o_isN, noneB, sParP, sPut, nMul, o_lcm, sEnT, tTru, asT, o_mulX, o_sorted, o_inL, mOne, g_one, LoopO, e4]
    rintro _ rfl
    have e5 := ret_oddlot ha hb n1 n6
    have e6 := ret_oddlot hb ha n1 n6
    rw [xorI_comm] at e6
    have sx : Sn 9000 80 (lotD (xorI a b)) := (hx.sn n6).up (by decide) (by decide)
    refine seq_run (fun Γ => Γ = [.well, .im x, .im (.int n), .im (wdsD l), .im (lotD r), .im (lotD a), .im (lotD b), .im (lotD (xorI a b)), c8, c9, c10, c11, c12]) ?_ ?_
    · simp [fnD, fnW, sNext, sBrk, sCnt, sNever, thenO, sSeq, sIf, sRet, sRetN, sDrop, sRetO, bNm, bNil, bCons, bTup, sAsg, sOwn, sApp, sPar, sPar3, sParO, sFrz, nLst, mOfN, mCon, mVar, mPk, mUn, mOp, mNil, mCons, mTup, mLst, mFn, mAnd, mOr, mNot, mIf, mChn, tVal, tAndM, tOrM, tNotM, outD, o_len, o_eqX, o_neX, o_cmp, o_add, o_sub, o_neg, o_i2, o_ix, o_in, o_gcd, o_tuple, o_list, o_int, o_abs, mCut, pNone, pSome, tupB, intish, boolish, M.run_bind, M.run_ret, Gd.at_0, Gd.at_1, Gd.at_2, Gd.at_3, Gd.at_4, Gd.at_5, M.opt_some, o_isN, noneB, sParP, sPut, nMul, o_lcm, sEnT, tTru, asT, o_mulX, o_sorted, o_inL, mOne, g_one, LoopO, e5, e6, o_repr_ok (sn_two sx)]
    rintro _ rfl
    have e7 := ret_sin hr ha'
    have e8 := ret_sin hr hb'
    refine seq_run (fun Γ => Γ = [.well, .im x, .im (.int n), .im (wdsD l), .im (lotD r), .im (lotD a), .im (lotD b), .im (lotD (xorI a b)), .im (.list [.int (sgn r a), .int (sgn r b)]), c9, c10, c11, c12]) ?_ ?_
    · simp [fnD, fnW, sNext, sBrk, sCnt, sNever, thenO, sSeq, sIf, sRet, sRetN, sDrop, sRetO, bNm, bNil, bCons, bTup, sAsg, sOwn, sApp, sPar, sPar3, sParO, sFrz, nLst, mOfN, mCon, mVar, mPk, mUn, mOp, mNil, mCons, mTup, mLst, mFn, mAnd, mOr, mNot, mIf, mChn, tVal, tAndM, tOrM, tNotM, outD, o_len, o_eqX, o_neX, o_cmp, o_add, o_sub, o_neg, o_i2, o_ix, o_in, o_gcd, o_tuple, o_list, o_int, o_abs, mCut, pNone, pSome, tupB, intish, boolish, M.run_bind, M.run_ret, Gd.at_0, Gd.at_1, Gd.at_2, Gd.at_3, Gd.at_4, Gd.at_5, M.opt_some, o_isN, noneB, sParP, sPut, nMul, o_lcm, sEnT, tTru, asT, o_mulX, o_sorted, o_inL, mOne, g_one, LoopO, e7, e8]
    rintro _ rfl
    have e9 := ret_esign hr ha' (by omega) (by omega)
    have e10 := ret_esign hr hb' (by omega) (by omega)
    have e11 := ret_esign hr hx' (by omega) (by omega)
    rw [sgn_xor m6 hr ha' hb'] at e11
    refine seq_run (fun Γ => Γ = [.well, .im x, .im (.int n), .im (wdsD l), .im (lotD r), .im (lotD a), .im (lotD b), .im (lotD (xorI a b)), .im (.list [.int (sgn r a), .int (sgn r b)]), .im (.list [.int (sgn r a), .int (sgn r b), .int (sgn r a * sgn r b)]), c10, c11, c12]) ?_ ?_
    · simp [fnD, fnW, sNext, sBrk, sCnt, sNever, thenO, sSeq, sIf, sRet, sRetN, sDrop, sRetO, bNm, bNil, bCons, bTup, sAsg, sOwn, sApp, sPar, sPar3, sParO, sFrz, nLst, mOfN, mCon, mVar, mPk, mUn, mOp, mNil, mCons, mTup, mLst, mFn, mAnd, mOr, mNot, mIf, mChn, tVal, tAndM, tOrM, tNotM, outD, o_len, o_eqX, o_neX, o_cmp, o_add, o_sub, o_neg, o_i2, o_ix, o_in, o_gcd, o_tuple, o_list, o_int, o_abs, mCut, pNone, pSome, tupB, intish, boolish, M.run_bind, M.run_ret, Gd.at_0, Gd.at_1, Gd.at_2, Gd.at_3, Gd.at_4, Gd.at_5, M.opt_some, o_isN, noneB, sParP, sPut, nMul, o_lcm, sEnT, tTru, asT, o_mulX, o_sorted, o_inL, mOne, g_one, LoopO, e9, e10, e11]
    rintro _ rfl
    have ga := sgn_sg hr ha'
    have gb := sgn_sg hr hb'
    have cm := sg_cmul ga gb
    have gc := ga.mul gb
    have st := sn_ints (l := [sgn r a, sgn r b, sgn r a * sgn r b]) (by simp) fun k hk => by
      simp only [List.mem_cons, List.not_mem_nil, or_false] at hk
      rcases hk with rfl | rfl | rfl
      · exact ga.rng
      · exact gb.rng
      · exact gc.rng
    refine seq_run (fun Γ => Γ = [.well, .im x, .im (.int n), .im (wdsD l), .im (lotD r), .im (lotD a), .im (lotD b), .im (lotD (xorI a b)), .im (.list [.int (sgn r a), .int (sgn r b)]), .im (.list [.int (sgn r a), .int (sgn r b), .int (sgn r a * sgn r b)]), c10, c11, c12]) ?_ ?_
    · have st := o_repr_ok st
      simp only [List.map_cons, List.map_nil] at st
      simp [fnD, fnW, sNext, sBrk, sCnt, sNever, thenO, sSeq, sIf, sRet, sRetN, sDrop, sRetO, bNm, bNil, bCons, bTup, sAsg, sOwn, sApp, sPar, sPar3, sParO, sFrz, nLst, mOfN, mCon, mVar, mPk, mUn, mOp, mNil, mCons, mTup, mLst, mFn, mAnd, mOr, mNot, mIf, mChn, tVal, tAndM, tOrM, tNotM, outD, o_len, o_eqX, o_neX, o_cmp, o_add, o_sub, o_neg, o_i2, o_ix, o_in, o_gcd, o_tuple, o_list, o_int, o_abs, mCut, pNone, pSome, tupB, intish, boolish, M.run_bind, M.run_ret, Gd.at_0, Gd.at_1, Gd.at_2, Gd.at_3, Gd.at_4, Gd.at_5, M.opt_some, o_isN, noneB, sParP, sPut, nMul, o_lcm, sEnT, tTru, asT, o_mulX, o_sorted, o_inL, mOne, g_one, LoopO, atI, ixN, cm, st]
    rintro _ rfl
    have f1 := ret_lmade hw
    have f2 := ret_pieceof hw
    refine seq_run (fun Γ => Γ = [.well, .im x, .im (.int n), .im (wdsD l), .im (lotD r), .im (lotD a), .im (lotD b), .im (lotD (xorI a b)), .im (.list [.int (sgn r a), .int (sgn r b)]), .im (.list [.int (sgn r a), .int (sgn r b), .int (sgn r a * sgn r b)]), .im (.tuple (srtD ((mkP l).map wdD))), .im (.tuple (((runsP n.toNat).filter (agB l)).map lotD)), c12]) ?_ ?_
    · simp [fnD, fnW, sNext, sBrk, sCnt, sNever, thenO, sSeq, sIf, sRet, sRetN, sDrop, sRetO, bNm, bNil, bCons, bTup, sAsg, sOwn, sApp, sPar, sPar3, sParO, sFrz, nLst, mOfN, mCon, mVar, mPk, mUn, mOp, mNil, mCons, mTup, mLst, mFn, mAnd, mOr, mNot, mIf, mChn, tVal, tAndM, tOrM, tNotM, outD, o_len, o_eqX, o_neX, o_cmp, o_add, o_sub, o_neg, o_i2, o_ix, o_in, o_gcd, o_tuple, o_list, o_int, o_abs, mCut, pNone, pSome, tupB, intish, boolish, M.run_bind, M.run_ret, Gd.at_0, Gd.at_1, Gd.at_2, Gd.at_3, Gd.at_4, Gd.at_5, M.opt_some, o_isN, noneB, sParP, sPut, nMul, o_lcm, sEnT, tTru, asT, o_mulX, o_sorted, o_inL, mOne, g_one, LoopO, f1, f2]
    rintro _ rfl
    have f3 := ret_products hw
    have f4 := ret_piece hw
    have sm := sn_made hw
    have sp := sn_piece n1 n6 l
    refine seq_run (fun Γ => Γ = [.well, .im x, .im (.int n), .im (wdsD l), .im (lotD r), .im (lotD a), .im (lotD b), .im (lotD (xorI a b)), .im (.list [.int (sgn r a), .int (sgn r b)]), .im (.list [.int (sgn r a), .int (sgn r b), .int (sgn r a * sgn r b)]), .im (.tuple (srtD ((mkP l).map wdD))), .im (.tuple (((runsP n.toNat).filter (agB l)).map lotD)), c12]) ?_ ?_
    · simp [fnD, fnW, sNext, sBrk, sCnt, sNever, thenO, sSeq, sIf, sRet, sRetN, sDrop, sRetO, bNm, bNil, bCons, bTup, sAsg, sOwn, sApp, sPar, sPar3, sParO, sFrz, nLst, mOfN, mCon, mVar, mPk, mUn, mOp, mNil, mCons, mTup, mLst, mFn, mAnd, mOr, mNot, mIf, mChn, tVal, tAndM, tOrM, tNotM, outD, o_len, o_eqX, o_neX, o_cmp, o_add, o_sub, o_neg, o_i2, o_ix, o_in, o_gcd, o_tuple, o_list, o_int, o_abs, mCut, pNone, pSome, tupB, intish, boolish, M.run_bind, M.run_ret, Gd.at_0, Gd.at_1, Gd.at_2, Gd.at_3, Gd.at_4, Gd.at_5, M.opt_some, o_isN, noneB, sParP, sPut, nMul, o_lcm, sEnT, tTru, asT, o_mulX, o_sorted, o_inL, mOne, g_one, LoopO, f3, o_repr_ok (sn_two sm)]
    rintro _ rfl
    refine seq_run (fun Γ => Γ = [.well, .im x, .im (.int n), .im (wdsD l), .im (lotD r), .im (lotD a), .im (lotD b), .im (lotD (xorI a b)), .im (.list [.int (sgn r a), .int (sgn r b)]), .im (.list [.int (sgn r a), .int (sgn r b), .int (sgn r a * sgn r b)]), .im (.tuple (srtD ((mkP l).map wdD))), .im (.tuple (((runsP n.toNat).filter (agB l)).map lotD)), c12]) ?_ ?_
    · simp [fnD, fnW, sNext, sBrk, sCnt, sNever, thenO, sSeq, sIf, sRet, sRetN, sDrop, sRetO, bNm, bNil, bCons, bTup, sAsg, sOwn, sApp, sPar, sPar3, sParO, sFrz, nLst, mOfN, mCon, mVar, mPk, mUn, mOp, mNil, mCons, mTup, mLst, mFn, mAnd, mOr, mNot, mIf, mChn, tVal, tAndM, tOrM, tNotM, outD, o_len, o_eqX, o_neX, o_cmp, o_add, o_sub, o_neg, o_i2, o_ix, o_in, o_gcd, o_tuple, o_list, o_int, o_abs, mCut, pNone, pSome, tupB, intish, boolish, M.run_bind, M.run_ret, Gd.at_0, Gd.at_1, Gd.at_2, Gd.at_3, Gd.at_4, Gd.at_5, M.opt_some, o_isN, noneB, sParP, sPut, nMul, o_lcm, sEnT, tTru, asT, o_mulX, o_sorted, o_inL, mOne, g_one, LoopO, f4, o_repr_ok (sn_two sp)]
    rintro _ rfl
    refine seq_run (fun Γ => ∃ m, m ∈ mkP l ∧ Γ = [.well, .im x, .im (.int n), .im (wdsD l), .im (lotD r), .im (lotD a), .im (lotD b), .im (lotD (xorI a b)), .im (.list [.int (sgn r a), .int (sgn r b)]), .im (.list [.int (sgn r a), .int (sgn r b), .int (sgn r a * sgn r b)]), .im (.tuple (srtD ((mkP l).map wdD))), .im (.tuple (((runsP n.toNat).filter (agB l)).map lotD)), .im (wdD m)]) ?_ ?_
    · have mem : ∀ d, d ∈ srtD ((mkP l).map wdD) → ∃ m, m ∈ mkP l ∧ d = wdD m := fun d hd => by
        unfold srtD at hd
        obtain ⟨m, hm, rfl⟩ := List.mem_map.mp ((List.mergeSort_perm _ _).mem_iff.mp hd)
        exact ⟨m, hm, rfl⟩
      have ll : (srtD ((mkP l).map wdD)).length = (mkP l).length := by
        unfold srtD
        rw [List.length_mergeSort, List.length_map]
      have le := mk_len hw.len
      have ne : srtD ((mkP l).map wdD) ≠ [] := fun z => by
        rw [z] at ll
        have := (mk_grp n6 (ws_g hw)).one
        rw [List.eq_nil_of_length_eq_zero ll.symm] at this
        cases this
      refine ⟨⟨ne, by omega⟩, fun d hd => ?_⟩
      obtain ⟨m, hm, rfl⟩ := mem d hd
      exact ⟨m, hm, rfl⟩
    rintro _ ⟨m, hm, rfl⟩
    have gm := (mk_grp n6 (ws_g hw)).g m hm
    by_cases c1 : (l.length : Int) < 6
    · by_cases c2 : m.1 = []
      · refine sIf_f ?_ ⟨_, _, _, _, _, _, _, _, _, _, _, _, rfl⟩
        simp [fnD, fnW, sNext, sBrk, sCnt, sNever, thenO, sSeq, sIf, sRet, sRetN, sDrop, sRetO, bNm, bNil, bCons, bTup, sAsg, sOwn, sApp, sPar, sPar3, sParO, sFrz, nLst, mOfN, mCon, mVar, mPk, mUn, mOp, mNil, mCons, mTup, mLst, mFn, mAnd, mOr, mNot, mIf, mChn, tVal, tAndM, tOrM, tNotM, outD, o_len, o_eqX, o_neX, o_cmp, o_add, o_sub, o_neg, o_i2, o_ix, o_in, o_gcd, o_tuple, o_list, o_int, o_abs, mCut, pNone, pSome, tupB, intish, boolish, M.run_bind, M.run_ret, Gd.at_0, Gd.at_1, Gd.at_2, Gd.at_3, Gd.at_4, Gd.at_5, M.opt_some, o_isN, noneB, sParP, sPut, nMul, o_lcm, sEnT, tTru, asT, o_mulX, o_sorted, o_inL, mOne, g_one, wdsD, c1, wdD, lotD, atI, ixN, c2]
      · refine sIf_t ?_ ?_
        · simp [fnD, fnW, sNext, sBrk, sCnt, sNever, thenO, sSeq, sIf, sRet, sRetN, sDrop, sRetO, bNm, bNil, bCons, bTup, sAsg, sOwn, sApp, sPar, sPar3, sParO, sFrz, nLst, mOfN, mCon, mVar, mPk, mUn, mOp, mNil, mCons, mTup, mLst, mFn, mAnd, mOr, mNot, mIf, mChn, tVal, tAndM, tOrM, tNotM, outD, o_len, o_eqX, o_neX, o_cmp, o_add, o_sub, o_neg, o_i2, o_ix, o_in, o_gcd, o_tuple, o_list, o_int, o_abs, mCut, pNone, pSome, tupB, intish, boolish, M.run_bind, M.run_ret, Gd.at_0, Gd.at_1, Gd.at_2, Gd.at_3, Gd.at_4, Gd.at_5, M.opt_some, o_isN, noneB, sParP, sPut, nMul, o_lcm, sEnT, tTru, asT, o_mulX, o_sorted, o_inL, mOne, g_one, wdsD, c1, wdD, lotD, atI, ixN, c2]
        have l6 : l.length + 1 ≤ 6 := by omega
        have gw' : ∀ w ∈ l, Gw (n.toNat : Nat) w := by
          rw [en]
          exact ws_g hw
        have W : ∀ s, Sg1 s → WsOk n (l ++ [(m.1, s)]) := fun s hs => ⟨n1, n6, by rw [List.length_append]; exact l6, fun w hw2 => by
          rcases List.mem_append.mp hw2 with h2 | h2
          · exact hw.ok w h2
          · rw [List.mem_singleton.mp h2]
            exact ⟨gm.lot, c2, hs⟩⟩
        have eD : ∀ s, wdsD (l ++ [(m.1, s)]) = .tuple (l.map wdD ++ [.tuple [lotD m.1, .int s]]) := fun s => by
          unfold wdsD
          rw [List.map_append]
          rfl
        have p1 := ret_piece (W m.2 gm.sg)
        have p2 := ret_products (W m.2 gm.sg)
        have g0 : Sg1 (0 - m.2) := by
          rcases gm.sg with z | z <;> rw [z] <;> simp [Sg1]
        have p3 := ret_piece (W (0 - m.2) g0)
        have q1 : (runsP n.toNat).filter (agB (l ++ [(m.1, m.2)])) = (runsP n.toNat).filter (agB l) := List.filter_congr fun r hr => ag_more m6 (runsP_run r hr) gw' hm
        have q2 : mkP (l ++ [(m.1, m.2)]) = mkP l := mk_more n6 (ws_g hw) hm
        have q3 : (runsP n.toNat).filter (agB (l ++ [(m.1, 0 - m.2)])) = [] := by
          rw [List.filter_eq_nil_iff]
          intro r hr z
          rw [ag_less m6 (runsP_run r hr) gw' hm] at z
          cases z
        rw [q1, eD] at p1
        rw [q2, eD] at p2
        rw [q3, eD, Int.zero_sub] at p3
        have r1 := o_repr_okT (sp.up (c' := 19000) (k' := 90) (by decide) (by decide))
        have r2 := o_repr_okT (sm.up (c' := 19000) (k' := 90) (by decide) (by decide))
        have l9 : l.length ≤ 999 := by omega
        have em : wdD m = .tuple [lotD m.1, .int m.2] := rfl
        refine seq_run (fun Γ => Γ = [.well, .im x, .im (.int n), .im (wdsD l), .im (lotD r), .im (lotD a), .im (lotD b), .im (lotD (xorI a b)), .im (.list [.int (sgn r a), .int (sgn r b)]), .im (.list [.int (sgn r a), .int (sgn r b), .int (sgn r a * sgn r b)]), .im (.tuple (srtD ((mkP l).map wdD))), .im (.tuple (((runsP n.toNat).filter (agB l)).map lotD)), .im (wdD m)]) ?_ ?_
        · simp [fnD, fnW, sNext, sBrk, sCnt, sNever, thenO, sSeq, sIf, sRet, sRetN, sDrop, sRetO, bNm, bNil, bCons, bTup, sAsg, sOwn, sApp, sPar, sPar3, sParO, sFrz, nLst, mOfN, mCon, mVar, mPk, mUn, mOp, mNil, mCons, mTup, mLst, mFn, mAnd, mOr, mNot, mIf, mChn, tVal, tAndM, tOrM, tNotM, outD, o_len, o_eqX, o_neX, o_cmp, o_add, o_sub, o_neg, o_i2, o_ix, o_in, o_gcd, o_tuple, o_list, o_int, o_abs, mCut, pNone, pSome, tupB, intish, boolish, M.run_bind, M.run_ret, Gd.at_0, Gd.at_1, Gd.at_2, Gd.at_3, Gd.at_4, Gd.at_5, M.opt_some, o_isN, noneB, sParP, sPut, nMul, o_lcm, sEnT, tTru, asT, o_mulX, o_sorted, o_inL, mOne, g_one, LoopO, wdsD, em, l9, p1, p2, r1, r2]
        rintro _ rfl
        refine sIf_f ?_ ⟨_, _, _, _, _, _, _, _, _, _, _, _, rfl⟩
        simp [fnD, fnW, sNext, sBrk, sCnt, sNever, thenO, sSeq, sIf, sRet, sRetN, sDrop, sRetO, bNm, bNil, bCons, bTup, sAsg, sOwn, sApp, sPar, sPar3, sParO, sFrz, nLst, mOfN, mCon, mVar, mPk, mUn, mOp, mNil, mCons, mTup, mLst, mFn, mAnd, mOr, mNot, mIf, mChn, tVal, tAndM, tOrM, tNotM, outD, o_len, o_eqX, o_neX, o_cmp, o_add, o_sub, o_neg, o_i2, o_ix, o_in, o_gcd, o_tuple, o_list, o_int, o_abs, mCut, pNone, pSome, tupB, intish, boolish, M.run_bind, M.run_ret, Gd.at_0, Gd.at_1, Gd.at_2, Gd.at_3, Gd.at_4, Gd.at_5, M.opt_some, o_isN, noneB, sParP, sPut, nMul, o_lcm, sEnT, tTru, asT, o_mulX, o_sorted, o_inL, mOne, g_one, wdsD, em, l9, atI, ixN, p3, rep_nil]
    · refine sIf_f ?_ ⟨_, _, _, _, _, _, _, _, _, _, _, _, rfl⟩
      simp [fnD, fnW, sNext, sBrk, sCnt, sNever, thenO, sSeq, sIf, sRet, sRetN, sDrop, sRetO, bNm, bNil, bCons, bTup, sAsg, sOwn, sApp, sPar, sPar3, sParO, sFrz, nLst, mOfN, mCon, mVar, mPk, mUn, mOp, mNil, mCons, mTup, mLst, mFn, mAnd, mOr, mNot, mIf, mChn, tVal, tAndM, tOrM, tNotM, outD, o_len, o_eqX, o_neX, o_cmp, o_add, o_sub, o_neg, o_i2, o_ix, o_in, o_gcd, o_tuple, o_list, o_int, o_abs, mCut, pNone, pSome, tupB, intish, boolish, M.run_bind, M.run_ret, Gd.at_0, Gd.at_1, Gd.at_2, Gd.at_3, Gd.at_4, Gd.at_5, M.opt_some, o_isN, noneB, sParP, sPut, nMul, o_lcm, sEnT, tTru, asT, o_mulX, o_sorted, o_inL, mOne, g_one, wdsD, c1]
  · rintro _ ⟨c1, c2, c3, c4, c5, c6, c7, c8, c9, c10, c11, c12, rfl⟩
    exact h
end K2

set_option Elab.async false
set_option linter.all false
set_option maxRecDepth 100000
set_option maxHeartbeats 4000000
set_option autoImplicit false
namespace K2
open PySem PySem.Spec PyProof.Rows L2 RZ Gd Dl
/-! promises by hand, as promises by data -/
section
variable {K : PySem.W.Frag} {T : Addr → Prop} {vs : List V} {H : Hp} {Q : VK} {E : XK}
theorem ch_kp {W : Addr → Prop} {H' : Hp} {w : Addr} (lw : LW T W H) (wl0 : Wl H w) (k : Kp w H H') (wl : Wl H' w) : Ch (fc K T (some w) W H) H H' :=
  ⟨fun b o n t h => k b o (fun z => n (by rw [z])) h, fun a t => (by
    obtain ⟨ps, e, r⟩ := lw.t a t
    refine ⟨ps, k a _ ?_ e, r⟩
    rintro rfl
    obtain ⟨_, _, _, q, _⟩ := wl0
    rw [e] at q
    cases q), fun v e => by cases e; exact wl⟩
theorem ch_same {W : Addr → Prop} {H' : Hp} (lw : LW T W H) (s : Same H H') : Ch (fc K T none W H) H H' := ⟨fun b o n t h => s b o h, fun a t => tabG_same s (lw.t a t), fun v e => nomatch e⟩
mutual
theorem tt_da {W : Addr → Prop} : ∀ {v : V} {d : PyData}, Tt K H v d → Da W K H v d
  | _, _, .non => .non
  | _, _, .bl b => .bl b
  | _, _, .int i => .int i
  | _, _, .str x => .str x
  | _, _, .tup h r => .tup h (ttl_da r)
theorem ttl_da {W : Addr → Prop} : ∀ {vs : List V} {ds : List PyData}, TtL K H vs ds → DaL W K H vs ds
  | _, _, .nil => .nil
  | _, _, .cons h r => .cons (tt_da h) (ttl_da r)
end
theorem draw_w (h : spW K T 1 g_draw vs H Q E) : spDraw vs H Q E := by
  obtain ⟨w, W, ds, us, rfl, hw, wl, h1, lw, l, q⟩ := h
  obtain ⟨d, rfl⟩ := len1 l
  cases d with
  | int few =>
    cases h1 with | cons a r => cases r; cases a; exact ⟨w, few, rfl, q.1.1, q.1.2, wl, fun k k0 k1 H' kp wl' => q.2 _ ⟨k, k0, k1, rfl⟩ H' _ (ch_kp lw wl kp wl') (.int k)⟩
  | _ => exact q.elim
end
end K2

set_option Elab.async false
set_option linter.all false
set_option maxRecDepth 100000
set_option maxHeartbeats 4000000
set_option autoImplicit false
namespace K1
open PySem PySem.Spec PyProof.Rows L2 RZ Gd
local macro_rules | `(tactic| wtm_at "ix") => `(tactic| first | exact at_0 | exact at_1 | exact at_2 | exact at_3 | exact at_4 | exact at_5 | exact ix_0 | exact ix_1 | exact ix_2 | exact ix_3)
local macro_rules | `(tactic| wtm_at "st") => `(tactic| first | assumption | exact upd_same | (with_reducible refine' hold_new ?hA ?hB; (case hB => assumption); (case hA => wtm_at "st")))
local macro_rules | `(tactic| wtm_at "rl") => `(tactic| first | assumption | (refine' SqL.of ?hC; (case hC => wtm_at "st")) | (refine' SqT.of ?hC; (case hC => wtm_at "st")))
local macro_rules | `(tactic| wtm_at "rd") => `(tactic| first
  | with_reducible refine w_seq ?_
  | with_reducible refine w_asg ?_
  | with_reducible refine w_ret ?_
  | with_reducible refine w_op ?_
  | with_reducible refine w_cb ?_
  | with_reducible refine w_cons ?_
  | with_reducible refine w_nil ?_
  | with_reducible refine w_c ?_
  | with_reducible refine w_if ?_
  | with_reducible refine w_test ?_
  | with_reducible refine w_un ?_
  | with_reducible refine w_tup ?_
  | with_reducible refine w_lst ?_
  | with_reducible refine w_call ?_
  | with_reducible refine w_and ?_
  | with_reducible refine w_or ?_
  | with_reducible refine w_not ?_
  | with_reducible refine w_ife ?_
  | with_reducible refine w_tB ?_
  | with_reducible refine w_andV ?_
  | with_reducible refine w_orV ?_
  | with_reducible refine w_notV ?_
  | with_reducible refine w_sub ?_
  | with_reducible refine w_gcons ?_
  | with_reducible refine w_gnil ?_
  | with_reducible refine w_next ?_
  | with_reducible refine w_drop ?_
  | with_reducible refine w_retN ?_
  | with_reducible refine w_brk ?_
  | with_reducible refine w_cont ?_
  | with_reducible refine w_bl ?_
  | with_reducible refine w_gt ?_
  | with_reducible refine w_ge ?_
  | with_reducible refine w_lt ?_
  | with_reducible refine w_le ?_
  | with_reducible refine w_subI ?_
  | with_reducible refine w_neg ?_
  | with_reducible refine w_addI ?_
  | with_reducible refine w_int ?_
  | with_reducible refine w_intB ?_
  | with_reducible refine w_abs ?_
  | with_reducible refine w_iteT ?_
  | with_reducible refine w_iteF ?_
  | with_reducible refine w_par ?_
  | with_reducible refine w_par3 ?_
  | with_reducible refine w_sl ?_
  | with_reducible refine w_nop ?_
  | with_reducible refine w_part ?_
  | with_reducible refine w_vint ?_
  | with_reducible refine w_vbl2 ?_
  | with_reducible refine w_vbl3 ?_
  | with_reducible refine w_lc ?_
  | with_reducible refine w_list ?_
  | with_reducible refine w_enum ?_
  | with_reducible refine w_fld ?_
  | with_reducible refine w_mk ?_
  | with_reducible refine w_yes ?_
  | with_reducible refine w_iz ?_
  | with_reducible refine w_var0 ?_
  | with_reducible refine w_var1 ?_
  | with_reducible refine w_var2 ?_
  | with_reducible refine w_var3 ?_
  | with_reducible refine w_var4 ?_
  | with_reducible refine w_var5 ?_
  | with_reducible refine w_var6 ?_
  | with_reducible refine w_var7 ?_
  | with_reducible refine w_var8 ?_
  | with_reducible refine w_var9 ?_
  | with_reducible refine w_var10 ?_
  | with_reducible refine w_var11 ?_
  | with_reducible refine w_var12 ?_
  | with_reducible refine w_var13 ?_
  | with_reducible refine w_var14 ?_
  | with_reducible refine w_var15 ?_
  | with_reducible refine w_nam0 ?_
  | with_reducible refine w_nam1 ?_
  | with_reducible refine w_nam2 ?_
  | with_reducible refine w_nam3 ?_
  | with_reducible refine w_nam4 ?_
  | with_reducible refine w_nam5 ?_
  | with_reducible refine w_nam6 ?_
  | with_reducible refine w_nam7 ?_
  | with_reducible refine w_nam8 ?_
  | with_reducible refine w_nam9 ?_
  | with_reducible refine w_nam10 ?_
  | with_reducible refine w_nam11 ?_
  | with_reducible refine w_nam12 ?_
  | with_reducible refine w_nam13 ?_
  | with_reducible refine w_nam14 ?_
  | with_reducible refine w_nam15 ?_
  | (with_reducible refine' w_eqS ?hs ?_; (case hs => with_unfolding_all rfl))
  | (with_reducible refine' w_neS ?hs ?_; (case hs => with_unfolding_all rfl))
  | (with_reducible refine' w_len ?hs ?_; (case hs => (simp only [List.length_cons, List.length_nil]; omega)))
  | (with_reducible refine' w_slL ?hs ?_; (case hs => wtm_at "rl"))
  | (with_reducible refine' w_mulI ?hs ?_; (case hs => (first | (refine cmul_r ?_; (constructor <;> omega)) | (refine cmul_l ?_; (constructor <;> omega)) | assumption)))
  | (with_reducible refine' w_mod ?hs ?_; (case hs => (first | omega | assumption)))
  | (with_reducible refine' w_div ?hs ?_; (case hs => (first | assumption | (refine cdiv_s ?_ ?_ <;> omega))))
  | (with_reducible refine' w_ixL ?hs ?ht ?_; (case hs => wtm_at "rl"); (case ht => wtm_at "ix"))
  | (with_reducible refine' w_ixT ?hs ?ht ?_; (case hs => wtm_at "rl"); (case ht => wtm_at "ix"))
  | (with_reducible refine' w_set0 ?hs ?_; (case hs => wtm_at "st"))
  | (with_reducible refine' w_set1 ?hs ?_; (case hs => wtm_at "st"))
  | (with_reducible refine' w_set2 ?hs ?_; (case hs => wtm_at "st"))
  | (with_reducible refine' w_lenL ?hs ?_; (case hs => wtm_at "rl"))
  | (with_reducible refine' w_lenT ?hs ?_; (case hs => wtm_at "rl"))
  | (with_reducible refine' w_gtup ?hs ?ht ?_; (case hs => wtm_at "rl"); (case ht => with_unfolding_all rfl))
  | rw [List.set_cons_zero]
  | rw [List.set_cons_succ]
  | rw [Bool.not_true]
  | rw [Bool.not_false])
local macro_rules | `(tactic| wtm_at "go") => `(tactic| repeat wtm_at "rd")
section
variable {P : Program} {w : World} {K : PySem.W.Frag} {mg : Str → Option Value} {base : Heap}
open Dl
local macro_rules | `(tactic| wtm_at "rs") => `(tactic| first
  | with_reducible refine w_seq ?_
  | with_reducible refine w_asg ?_
  | with_reducible refine w_ret ?_
  | with_reducible refine w_op ?_
  | with_reducible refine w_cb ?_
  | with_reducible refine w_cons ?_
  | with_reducible refine w_nil ?_
  | with_reducible refine w_c ?_
  | with_reducible refine w_if ?_
  | with_reducible refine w_test ?_
  | with_reducible refine w_un ?_
  | with_reducible refine w_tup ?_
  | with_reducible refine w_call ?_
  | with_reducible refine w_and ?_
  | with_reducible refine w_or ?_
  | with_reducible refine w_not ?_
  | with_reducible refine w_ife ?_
  | with_reducible refine w_tB ?_
  | with_reducible refine w_andV ?_
  | with_reducible refine w_orV ?_
  | with_reducible refine w_notV ?_
  | with_reducible refine w_sub ?_
  | with_reducible refine w_gcons ?_
  | with_reducible refine w_gnil ?_
  | with_reducible refine w_next ?_
  | with_reducible refine w_drop ?_
  | with_reducible refine w_retN ?_
  | with_reducible refine w_brk ?_
  | with_reducible refine w_cont ?_
  | with_reducible refine w_bl ?_
  | with_reducible refine w_gt ?_
  | with_reducible refine w_ge ?_
  | with_reducible refine w_lt ?_
  | with_reducible refine w_le ?_
  | with_reducible refine w_subI ?_
  | with_reducible refine w_neg ?_
  | with_reducible refine w_addI ?_
  | with_reducible refine w_int ?_
  | with_reducible refine w_intB ?_
  | with_reducible refine w_abs ?_
  | with_reducible refine w_iteT ?_
  | with_reducible refine w_iteF ?_
  | with_reducible refine w_par ?_
  | with_reducible refine w_par3 ?_
  | with_reducible refine w_sl ?_
  | with_reducible refine w_nop ?_
  | with_reducible refine w_part ?_
  | with_reducible refine w_vint ?_
  | with_reducible refine w_vbl2 ?_
  | with_reducible refine w_vbl3 ?_
  | with_reducible refine w_lc ?_
  | with_reducible refine w_list ?_
  | with_reducible refine w_enum ?_
  | with_reducible refine w_fld ?_
  | with_reducible refine w_mk ?_
  | with_reducible refine w_yes ?_
  | with_reducible refine w_iz ?_
  | with_reducible refine w_var0 ?_
  | with_reducible refine w_var1 ?_
  | with_reducible refine w_var2 ?_
  | with_reducible refine w_var3 ?_
  | with_reducible refine w_var4 ?_
  | with_reducible refine w_var5 ?_
  | with_reducible refine w_var6 ?_
  | with_reducible refine w_var7 ?_
  | with_reducible refine w_var8 ?_
  | with_reducible refine w_var9 ?_
  | with_reducible refine w_var10 ?_
  | with_reducible refine w_var11 ?_
  | with_reducible refine w_var12 ?_
  | with_reducible refine w_var13 ?_
  | with_reducible refine w_var14 ?_
  | with_reducible refine w_var15 ?_
  | with_reducible refine w_nam0 ?_
  | with_reducible refine w_nam1 ?_
  | with_reducible refine w_nam2 ?_
  | with_reducible refine w_nam3 ?_
  | with_reducible refine w_nam4 ?_
  | with_reducible refine w_nam5 ?_
  | with_reducible refine w_nam6 ?_
  | with_reducible refine w_nam7 ?_
  | with_reducible refine w_nam8 ?_
  | with_reducible refine w_nam9 ?_
  | with_reducible refine w_nam10 ?_
  | with_reducible refine w_nam11 ?_
  | with_reducible refine w_nam12 ?_
  | with_reducible refine w_nam13 ?_
  | with_reducible refine w_nam14 ?_
  | with_reducible refine w_nam15 ?_
  | (with_reducible refine' w_eqS ?hs ?_; (case hs => with_unfolding_all rfl))
  | (with_reducible refine' w_neS ?hs ?_; (case hs => with_unfolding_all rfl))
  | (with_reducible refine' w_len ?hs ?_; (case hs => (simp only [List.length_cons, List.length_nil]; omega)))
  | (with_reducible refine' w_slL ?hs ?_; (case hs => wtm_at "rl"))
  | (with_reducible refine' w_mulI ?hs ?_; (case hs => (first | (refine cmul_r ?_; (constructor <;> omega)) | (refine cmul_l ?_; (constructor <;> omega)) | assumption)))
  | (with_reducible refine' w_mod ?hs ?_; (case hs => (first | omega | assumption)))
  | (with_reducible refine' w_div ?hs ?_; (case hs => (first | assumption | (refine cdiv_s ?_ ?_ <;> omega))))
  | (with_reducible refine' w_ixL ?hs ?ht ?_; (case hs => wtm_at "rl"); (case ht => wtm_at "ix"))
  | (with_reducible refine' w_ixT ?hs ?ht ?_; (case hs => wtm_at "rl"); (case ht => wtm_at "ix"))
  | (with_reducible refine' w_set0 ?hs ?_; (case hs => wtm_at "st"))
  | (with_reducible refine' w_set1 ?hs ?_; (case hs => wtm_at "st"))
  | (with_reducible refine' w_set2 ?hs ?_; (case hs => wtm_at "st"))
  | (with_reducible refine' w_lenL ?hs ?_; (case hs => wtm_at "rl"))
  | (with_reducible refine' w_lenT ?hs ?_; (case hs => wtm_at "rl"))
  | (with_reducible refine' w_gtup ?hs ?ht ?_; (case hs => wtm_at "rl"); (case ht => with_unfolding_all rfl))
  | rw [List.set_cons_zero]
  | rw [List.set_cons_succ]
  | rw [Bool.not_true]
  | rw [Bool.not_false])
local macro_rules | `(tactic| wtm_at "gs") => `(tactic| repeat wtm_at "rs")

/-- all but the tables stands, the tables are tables -/
structure GrT (T : Addr → Prop) (H H' : Hp) : Prop where
  kp : ∀ b o, ¬ T b → H b = some o → H' b = some o
  tb : ∀ a, T a → GxR.TabG H' a
theorem GrT.no {T : Addr → Prop} {H H' : Hp} (g : GrT T H H') {a : Addr} {o : HO} (e : H' a = some o) (n : ∀ ps, o ≠ .tbl ps) : ¬ T a := fun w => by
  obtain ⟨ps, e2, _⟩ := g.tb a w
  rw [e] at e2
  exact n _ (Option.some.inj e2)
theorem no_tb {T : Addr → Prop} {H : Hp} (tb : ∀ a, T a → GxR.TabG H a) {a : Addr} {o : HO} (e : H a = some o) (n : ∀ ps, o ≠ .tbl ps) : ¬ T a := fun w => by
  obtain ⟨ps, e2, _⟩ := tb a w
  rw [e] at e2
  exact n _ (Option.some.inj e2)
theorem no_tbN {T : Addr → Prop} {H : Hp} (tb : ∀ a, T a → GxR.TabG H a) {a : Addr} (e : H a = none) : ¬ T a := fun w => by
  obtain ⟨ps, e2, _⟩ := tb a w
  rw [e] at e2
  cases e2
theorem GrT.seq {T : Addr → Prop} {H H' : Hp} {a : Addr} {xs : List V} {K : PySem.W.Frag} (tb : ∀ a, T a → GxR.TabG H a) (g : GrT T H H') (h : SqL K H a xs) : SqL K H' a xs := by
  rcases h with (h | ⟨o, h⟩) | h
  · exact .inl (.inl (g.kp _ _ (no_tb tb h fun _ z => by cases z) h))
  · exact .inl (.inr ⟨o, g.kp _ _ (no_tb tb h fun _ z => by cases z) h⟩)
  · exact .inr h
theorem GrT.same {T : Addr → Prop} {H H1 H2 : Hp} (g : GrT T H H1) (s : Same H1 H2) : GrT T H H2 := ⟨fun b o n e => s _ _ (g.kp b o n e), fun a t => tabG_same s (g.tb a t)⟩
def spRightT (T : Addr → Prop) : Sp := fun vs H Q _ => ∃ w, vs = [.ref w] ∧ Wl H w ∧ (∀ a, T a → GxR.TabG H a) ∧ ∀ H', (∀ b o, b ≠ w → ¬ T b → H b = some o → H' b = some o) → (∀ a, T a → GxR.TabG H' a) → Q (.bl true) H'
def spLawT (K : PySem.W.Frag) (T : Addr → Prop) : Sp := fun vs H Q _ => ∃ (a : Addr) (ns : List Int), vs = [.ref a] ∧ SqL K H a (ns.map V.int) ∧ ns.length ≤ 1000000000 ∧ (∀ a, T a → GxR.TabG H a) ∧ ∀ H', Q (.bl true) H'
structure PvT (T : Addr → Prop) (Ac : Nat → List V → Prop) (H1 : Hp) (D : Addr) (i : Nat) (H : Hp) : Prop where
  ex : ∃ acc, H D = some (.lst acc) ∧ acc.length ≤ i ∧ Ac i acc ∧ GrT T H1 H
theorem rep_snocT {α : Type} {a : α} {k : Nat} : List.replicate k a ++ [a] = List.replicate (k + 1) a := List.replicate_succ'.symm
/-- over a range, tables growing -/
theorem c_rngT {g : TG} {tt : TT} {te : TE} {vs : List Nat} {σ : L2.St} {H1 : Hp} {D : Addr} {Qd : Hp → Prop} {lo : Int} {n : Nat} (T : Addr → Prop) (tb : ∀ a, T a → GxR.TabG H1 a) (Ac : Nat → List V → Prop) (hD : H1 D = none) (h0 : Ac 0 [])
    (hs : ∀ (i : Nat) acc H, i < n → H D = some (.lst acc) → acc.length ≤ i → Ac i acc → GrT T H1 H → LcT g tt te vs σ D (PvT T Ac H1 D (i + 1)) (.int (lo + i)) H)
    (hd : ∀ acc H, H D = some (.lst acc) → Ac n acc → GrT T H1 H → Qd H) : LcW (Itr lo n) g tt te vs σ H1 D Qd := by
  have s0 : Same H1 (upd H1 D (.lst [])) := same_put hD (Same.refl _)
  refine ⟨fun i m H => m = n - i ∧ i ≤ n ∧ PvT T Ac H1 D i H, ⟨n, by simp, Nat.zero_le _, ⟨[], upd_same, Nat.le_refl _, h0, ⟨fun b o _ e => s0 b o e, fun a t => tabG_same s0 (tb a t)⟩⟩⟩, ?_⟩
  rintro i m H ⟨rfl, hi, ⟨acc, e, l, ac, s⟩⟩
  by_cases hlt : i < n
  · refine .inr ⟨hlt, PvT T Ac H1 D (i + 1), fun H' p' => ⟨n - (i + 1), by omega, rfl, hlt, p'⟩, ?_⟩
    rintro x _ ⟨rfl, rfl⟩
    exact hs i acc _ hlt e l ac s
  · obtain rfl : i = n := by omega
    exact .inl ⟨Nat.le_refl _, hd acc H e ac s⟩
theorem PvT.put {T : Addr → Prop} {Ac : Nat → List V → Prop} {H1 : Hp} {D : Addr} {i : Nat} {acc : List V} {H H4 : Hp} {y : V} (hD : H1 D = none) (e : H D = some (.lst acc)) (l : acc.length ≤ i) (s : GrT T H1 H) (hi : i ≤ 1000) (k4 : ∀ b o, ¬ T b → H b = some o → H4 b = some o) (t4 : ∀ a, T a → GxR.TabG H4 a) (h : Ac (i + 1) (acc ++ [y])) :
    ∃ acc, H4 D = some (.lst acc) ∧ acc.length < sizeLine ∧ PvT T Ac H1 D (i + 1) (upd H4 D (.lst (acc ++ [y]))) := by
  have nD : ¬ T D := no_tb s.tb e fun _ z => by cases z
  refine ⟨acc, k4 _ _ nD e, Nat.lt_of_le_of_lt (Nat.le_trans l hi) (by decide), ⟨acc ++ [y], upd_same, by rw [List.length_append]; simpa using l, h, ⟨fun b o n e1 => ?_, fun a t => ?_⟩⟩⟩
  · rw [upd_ne (ne_of_none e1 hD)]
    exact k4 _ _ n (s.kp b o n e1)
  · obtain ⟨ps, e1, e2⟩ := t4 a t
    refine ⟨ps, ?_, e2⟩
    rw [upd_ne (fun z => nD (by rw [← z]; exact t))]
    exact e1
theorem cal_law (T : Txt mg) (D : Def1 K mg "law" s_law) {TT : Addr → Prop} (c__law_right : Cal P w K mg base "_law_right" 10 P__law_right (spRightT TT)) (c__law_well : Cal P w K mg base "_law_well" 1 P__law_well (spWell K)) : Cal P w K mg base "law" 11 P_law (spLawT K TT) := by
  have nd := sc_law.nd
  refine D.cal (k := 11-1) sc_law (fun vs H Q E h => ?_) (fun _ _ _ _ _ _ us hl => match us, hl with | [_], _ => rfl) fun f cdv A outer s H vs Q E hG hr h => have hu := hr.units; have hu2 := u150 hr; ⟨_, (pss_one (ps_ret (pe_callB (k_all (K := K) rfl rfl) rfl T.n_all (by decide +kernel) (pa_cons (pe_lc (own := [("_law_lap", 1)]) (by rfl) nd (pi_range1 rfl T.n_range (pa_cons (pe_callB (call_max2 rfl) rfl T.n_max (by decide +kernel) (pa_cons pe_int (pa_cons (pe_callB (call_min2 rfl) rfl T.n_min (by decide +kernel) (pa_cons (pe_callB (k_len (K := K) rfl) rfl T.n_len (by decide +kernel) (pa_cons (pv 0) pa_nil)) (pa_cons pe_int pa_nil))) pa_nil))) pa_nil)) (blkOk_by (own := [("_law_lap", 1)]) (N := N_law) (sc := defScope s_law) (by decide +kernel)) (fun _ _ _ _ _ => (pg_name (i := 1) nd rfl (Or.inl rfl))) (fun _ _ _ _ _ => pts_nil) (fun _ _ _ _ _ => (pe_cal c__law_right hG (hr.mono (by decide)) rfl (pa_cons (pe_cal c__law_well hG (hr.mono (by decide)) rfl (pa_cons (pv 0) (pa_cons (pv 1) pa_nil))) pa_nil)))) pa_nil)))), ?_⟩
  · obtain ⟨a, ns, rfl, _⟩ := h; rfl
  obtain ⟨a, ns, rfl, hs, hn, tb, hQ⟩ := h
  rw [show L2.start N_law [V.ref a] = [some (V.ref a), none] from rfl]
  wtm_at "gs"
  refine w_rng1 ?_
  wtm_at "gs"
  refine ⟨_, _, rfl, ?_⟩
  refine ⟨_, _, rfl, ?_⟩
  generalize hm : (if (if (4 : Int) < ((ns.map V.int).length : Nat) then (4 : Int) else ((ns.map V.int).length : Nat)) > 2 then (if (4 : Int) < ((ns.map V.int).length : Nat) then (4 : Int) else ((ns.map V.int).length : Nat)) else 2) = m
  have m4 : 0 ≤ m ∧ m ≤ 4 := by
    subst hm
    split <;> split <;> omega
  wtm_at "gs"
  refine ⟨m, rfl, by omega, by omega, fun D hD => c_rngT TT tb (fun k acc => acc = List.replicate k (V.bl true)) hD rfl ?_ ?_⟩
  · intro i acc H5 hi eD la ac s
    unfold LcT
    rw [show wipe [some (V.ref a), none] (List.map (fun x => x.snd) [(Str.ofString "_law_lap", 1)]) = [some (V.ref a), none] from rfl]
    wtm_at "gs"
    refine ⟨rfl, ?_⟩
    wtm_at "gs"
    refine ⟨a, ns, _, rfl, s.seq tb hs, by omega, by omega, fun w H6 nw s6 wl => ?_⟩
    wtm_at "gs"
    refine ⟨w, rfl, wl, fun a t => tabG_same s6 (s.tb a t), fun H7 k7 t7 => ?_⟩
    exact PvT.put hD eD la s (by omega) (fun b o n e => k7 b o (ne_of_none e nw) n (s6 _ _ e)) t7 (by rw [ac, rep_snocT])
  · intro acc H5 eD ac s
    wtm_at "gs"
    refine w_all (bs := List.replicate m.toNat true) (by rw [List.map_replicate, ← ac]; exact SqL.of eD) ?_
    rw [show (List.replicate m.toNat true).all id = true by simp [List.all_replicate]]
    exact hQ _

theorem right_w {TT : Addr → Prop} {vs : List V} {H : Hp} {Q : VK} {E : XK} (h : spRightT TT vs H Q E) : spW K TT 0 K2.g_right vs H Q E := by
  obtain ⟨w, rfl, wl, tb, q⟩ := h
  refine ⟨w, (· = w), [], [], rfl, rfl, wl, .nil, ⟨?_, tb⟩, rfl, ?_⟩
  · rintro a rfl
    obtain ⟨a, m, n, e, _⟩ := wl
    exact ⟨_, e⟩
  · show ∀ H' v, Ch (fc K TT (some w) (· = w) H) H H' → Da (· = w) K H' v (.bool true) → Q v H'
    intro H' v k d
    cases d
    exact q H' (fun b o n t e => k.kp b o (fun z => n (Option.some.inj z)) t e) k.tb
theorem tabB_of {base : Heap} {mg : Str → Option Value} {c P : Addr} (h : LamX.TabB base mg c P) : GxR.TabB base mg c P := ⟨h.1, h.2, h.3⟩
theorem defT_of {TT : Addr → Prop} {h : Heap} (X : K.In h) (G : h.Ns mainGlobals mg) {x : Str} {st : Stmt} (g : (He.Fa.glo x).ok K = true) (d : ∃ fd, FunD K x x (defArgs st) (defBody st) (defScope st) [] [] (He.ga K x) fd) (t : TT (He.cT K (x, none)).2) (B : LamX.TabB base mg (He.cT K (x, none)).1 (He.cT K (x, none)).2) (eA : He.fAd K (x, none) = He.ga K x) : DefT TT base K mg x st := by
  obtain ⟨fd, F⟩ := d
  refine ⟨_, fd, F, He.glo_ok X G g, fun c fd' lk hc => ?_⟩
  obtain ⟨oc, od, dV, kV, doc, pm, an, cdv, ct, osl, rfl, lk2, hcd, _⟩ := F.ex
  rw [lk2] at lk
  cases lk
  cases hc
  obtain ⟨cc, e⟩ := He.codeIn_ref hcd
  have e2 : He.codeOf K (x, none) = cc := He.codeOf_eq (by rw [eA]; exact lk2) e
  refine ⟨_, _, t, ?_, tabB_of B⟩
  show cdv = .ref (He.codeOf K (x, none))
  rw [e, e2]
end
end K1

set_option Elab.async false
set_option linter.all false
set_option maxRecDepth 100000
set_option maxHeartbeats 2000000
set_option autoImplicit false
/-! Hg: constants of the top, told by a Bool. -/
namespace Dl
open PySem PySem.Spec PyProof.Rows L2 Gd RZ
mutual
def datB (K : PySem.W.Frag) : PyData → Value → Bool
  | .none, u => (match u with
    | .none => true
    | _ => false)
  | .bool b, u => (match u with
    | .bool c => decide (b = c)
    | _ => false)
  | .int i, u => (match u with
    | .int j _ => decide (i = j)
    | _ => false)
  | .str x, u => (match u with
    | .str y _ => decide (x = y)
    | _ => false)
  | .tuple ds, u => (match u with
    | .ref a => (match K.lookup a with
      | some ⟨.type t, _, .seq its _, _⟩ => decide (t = "tuple") && (decide (its.size ≤ sizeLine) && datAll K ds its.toList)
      | _ => false)
    | _ => false)
  | _, _ => false
def datAll (K : PySem.W.Frag) : List PyData → List Value → Bool
  | [], us => us.isEmpty
  | d :: ds, us => (match us with
    | u :: us => datB K d u && datAll K ds us
    | [] => false)
end
mutual
theorem datB_ok {K : PySem.W.Frag} : ∀ {d : PyData} {u : Value}, datB K d u = true → ∃ v, RelV v u ∧ ∀ W H, Da W K H v d
  | .none, u, h => by
    unfold datB at h
    split at h
    · exact ⟨.non, rfl, fun _ _ => .non⟩
    · cases h
  | .bool b, u, h => by
    unfold datB at h
    split at h
    · rw [of_decide_eq_true h]
      exact ⟨.bl _, rfl, fun _ _ => .bl _⟩
    · cases h
  | .int i, u, h => by
    unfold datB at h
    split at h
    · rw [of_decide_eq_true h]
      exact ⟨.int _, ⟨_, rfl⟩, fun _ _ => .int _⟩
    · cases h
  | .str x, u, h => by
    unfold datB at h
    split at h
    · rw [of_decide_eq_true h]
      exact ⟨.str _, ⟨_, rfl⟩, fun _ _ => .str _⟩
    · cases h
  | .tuple ds, u, h => by
    unfold datB at h
    split at h
    · rename_i a
      split at h
      · rename_i t _ its n _ e
        simp only [Bool.and_eq_true, decide_eq_true_eq] at h
        obtain ⟨rfl, h2, h3⟩ := h
        obtain ⟨vs, rv, hd⟩ := datAll_ok h3
        exact ⟨.ref a, rfl, fun W H => .tup (.inr ⟨_, its, _, e, rfl, rfl, h2, rv⟩) (hd W H)⟩
      · cases h
    · cases h
  | .list _, u, h => by unfold datB at h; cases h
  | .dict _, u, h => by unfold datB at h; cases h
theorem datAll_ok {K : PySem.W.Frag} : ∀ {ds : List PyData} {us : List Value}, datAll K ds us = true → ∃ vs, Vals vs us ∧ ∀ W H, DaL W K H vs ds
  | [], us, h => by
    unfold datAll at h
    cases us with
    | nil => exact ⟨[], .nil, fun _ _ => .nil⟩
    | cons => cases h
  | d :: ds, us, h => by
    unfold datAll at h
    split at h
    · rename_i u us
      obtain ⟨h1, h2⟩ := Bool.and_eq_true_iff.mp h
      obtain ⟨v, r1, d1⟩ := datB_ok h1
      obtain ⟨vs, r2, d2⟩ := datAll_ok h2
      exact ⟨v :: vs, .cons r1 r2, fun W H => .cons (d1 W H) (d2 W H)⟩
    · cases h
end
/-- the name x of the top stands for the datum d -/
def gdB (K : PySem.W.Frag) (x : Str) (d : PyData) : Bool := match PySem.W.nsIn K mainGlobals x with
  | some (some u) => datB K d u
  | _ => false
theorem gdat_of {K : PySem.W.Frag} {h : Heap} {mg : Str → Option Value} {x : Str} {d : PyData} (X : K.In h) (G : h.Ns mainGlobals mg) (e : gdB K x d = true) : GDat K mg x d := by
  unfold gdB at e
  split at e
  · rename_i u e1
    obtain ⟨v, r, hd⟩ := datB_ok e
    exact ⟨v, u, PySem.W.mg_of X G e1, r, hd⟩
  · cases e
/-- the name x of the top stands for that builtin -/
def gbB (K : PySem.W.Frag) (x : Str) (b : String) : Bool := match PySem.W.nsIn K mainGlobals x with
  | some (some (.builtin c)) => decide (c = b)
  | _ => false
theorem gbi_of {K : PySem.W.Frag} {h : Heap} {mg : Str → Option Value} {x : Str} {b : String} (X : K.In h) (G : h.Ns mainGlobals mg) (e : gbB K x b = true) : mg x = some (.builtin b) := by
  unfold gbB at e
  split at e
  · rename_i c e1
    rw [PySem.W.mg_of X G e1, of_decide_eq_true e]
  · cases e
end Dl

set_option Elab.async false
set_option linter.all false
set_option maxRecDepth 100000
set_option maxHeartbeats 0
set_option autoImplicit false
namespace K1
open PySem PySem.Spec PyProof.Rows L2 RZ Gd
def d_is_whole : He.DefD := ⟨("is_whole", none), "is_whole", "is_whole", defArgs s_is_whole, defBody s_is_whole, defScope s_is_whole, [], []⟩
def d_wrong_in_lot : He.DefD := ⟨("wrong_in_lot", none), "wrong_in_lot", "wrong_in_lot", defArgs s_wrong_in_lot, defBody s_wrong_in_lot, defScope s_wrong_in_lot, [], []⟩
def d_is_lot : He.DefD := ⟨("is_lot", none), "is_lot", "is_lot", defArgs s_is_lot, defBody s_is_lot, defScope s_is_lot, [], []⟩
def d_effect_sign : He.DefD := ⟨("effect_sign", none), "effect_sign", "effect_sign", defArgs s_effect_sign, defBody s_effect_sign, defScope s_effect_sign, [], []⟩
def d_odd_lot : He.DefD := ⟨("odd_lot", none), "odd_lot", "odd_lot", defArgs s_odd_lot, defBody s_odd_lot, defScope s_odd_lot, [], []⟩
def d_products : He.DefD := ⟨("products", none), "products", "products", defArgs s_products, defBody s_products, defScope s_products, [], []⟩
def d_piece : He.DefD := ⟨("piece", none), "piece", "piece", defArgs s_piece, defBody s_piece, defScope s_piece, [], []⟩
def d_check_effect : He.DefD := ⟨("check_effect", none), "check_effect", "check_effect", defArgs s_check_effect, defBody s_check_effect, defScope s_check_effect, [], []⟩
def d_check_words : He.DefD := ⟨("check_words", none), "check_words", "check_words", defArgs s_check_words, defBody s_check_words, defScope s_check_words, [], []⟩
def d_is_run : He.DefD := ⟨("is_run", none), "is_run", "is_run", defArgs s_is_run, defBody s_is_run, defScope s_is_run, [], []⟩
def d_is_sign : He.DefD := ⟨("is_sign", none), "is_sign", "is_sign", defArgs s_is_sign, defBody s_is_sign, defScope s_is_sign, [], []⟩
def d_sign_in : He.DefD := ⟨("sign_in", none), "sign_in", "sign_in", defArgs s_sign_in, defBody s_sign_in, defScope s_sign_in, [], []⟩
def d_odd_of : He.DefD := ⟨("odd_of", none), "odd_of", "odd_of", defArgs s_odd_of, defBody s_odd_of, defScope s_odd_of, [], []⟩
def d_products_of : He.DefD := ⟨("products_of", none), "products_of", "products_of", defArgs s_products_of, defBody s_products_of, defScope s_products_of, [], []⟩
def d_piece_of : He.DefD := ⟨("piece_of", none), "piece_of", "piece_of", defArgs s_piece_of, defBody s_piece_of, defScope s_piece_of, [], []⟩
def d_agrees : He.DefD := ⟨("agrees", none), "agrees", "agrees", defArgs s_agrees, defBody s_agrees, defScope s_agrees, [], []⟩
def d__check_factors : He.DefD := ⟨("_check_factors", none), "_check_factors", "_check_factors", defArgs s__check_factors, defBody s__check_factors, defScope s__check_factors, [], []⟩
def d__is_word : He.DefD := ⟨("_is_word", none), "_is_word", "_is_word", defArgs s__is_word, defBody s__is_word, defScope s__is_word, [], []⟩
def d__joined : He.DefD := ⟨("_joined", none), "_joined", "_joined", defArgs s__joined, defBody s__joined, defScope s__joined, [], []⟩
def d__law_well : He.DefD := ⟨("_law_well", none), "_law_well", "_law_well", defArgs s__law_well, defBody s__law_well, defScope s__law_well, [], []⟩
def d__law_draw : He.DefD := ⟨("_law_draw", none), "_law_draw", "_law_draw", defArgs s__law_draw, defBody s__law_draw, defScope s__law_draw, [], []⟩
def d__law_one : He.DefD := ⟨("_law_one", none), "_law_one", "_law_one", defArgs s__law_one, defBody s__law_one, defScope s__law_one, [], []⟩
def d__law_run : He.DefD := ⟨("_law_run", none), "_law_run", "_law_run", defArgs s__law_run, defBody s__law_run, defScope s__law_run, [], []⟩
def d__law_effect : He.DefD := ⟨("_law_effect", none), "_law_effect", "_law_effect", defArgs s__law_effect, defBody s__law_effect, defScope s__law_effect, [], []⟩
def d__law_runs : He.DefD := ⟨("_law_runs", none), "_law_runs", "_law_runs", defArgs s__law_runs, defBody s__law_runs, defScope s__law_runs, [], []⟩
def d__law_sign : He.DefD := ⟨("_law_sign", none), "_law_sign", "_law_sign", defArgs s__law_sign, defBody s__law_sign, defScope s__law_sign, [], []⟩
def d__law_parted : He.DefD := ⟨("_law_parted", none), "_law_parted", "_law_parted", defArgs s__law_parted, defBody s__law_parted, defScope s__law_parted, [], []⟩
def d__law_made : He.DefD := ⟨("_law_made", none), "_law_made", "_law_made", defArgs s__law_made, defBody s__law_made, defScope s__law_made, [], []⟩
def d__law_fitting : He.DefD := ⟨("_law_fitting", none), "_law_fitting", "_law_fitting", defArgs s__law_fitting, defBody s__law_fitting, defScope s__law_fitting, [], []⟩
def d__law_words : He.DefD := ⟨("_law_words", none), "_law_words", "_law_words", defArgs s__law_words, defBody s__law_words, defScope s__law_words, [], []⟩
def d__law_right : He.DefD := ⟨("_law_right", none), "_law_right", "_law_right", defArgs s__law_right, defBody s__law_right, defScope s__law_right, [], []⟩
def d_law : He.DefD := ⟨("law", none), "law", "law", defArgs s_law, defBody s_law, defScope s_law, [], []⟩
def fn : List He.DefD := [d_is_whole, d_wrong_in_lot, d_is_lot, d_effect_sign, d_odd_lot, d_products, d_piece, d_check_effect, d_check_words, d_is_run, d_is_sign, d_sign_in, d_odd_of, d_products_of, d_piece_of, d_agrees, d__check_factors, d__is_word, d__joined, d__law_well, d__law_draw, d__law_one, d__law_run, d__law_effect, d__law_runs, d__law_sign, d__law_parted, d__law_made, d__law_fitting, d__law_words, d__law_right, d_law]
def fa : List He.Fa := [.glo "is_whole", .glo "wrong_in_lot", .glo "is_lot", .glo "effect_sign", .glo "odd_lot", .glo "products", .glo "piece", .glo "check_effect", .glo "check_words", .glo "is_run", .glo "is_sign", .glo "sign_in", .glo "odd_of", .glo "products_of", .glo "piece_of", .glo "agrees", .glo "_check_factors", .glo "_is_word", .glo "_joined", .glo "_law_well", .glo "_law_draw", .glo "_law_one", .glo "_law_run", .glo "_law_effect", .glo "_law_runs", .glo "_law_sign", .glo "_law_parted", .glo "_law_made", .glo "_law_fitting", .glo "_law_words", .glo "_law_right", .glo "law", .free "IndexError", .free "KeyError", .free "RuntimeError", .free "TypeError", .free "ValueError", .free "ZeroDivisionError", .free "abs", .free "all", .free "any", .free "bool", .free "divmod", .free "enumerate", .free "int", .free "isinstance", .free "len", .free "list", .free "max", .free "min", .free "range", .free "repr", .free "set", .free "sorted", .free "tuple", .free "zip", .int "MOST_FACTORS" 6, .int "MOST_WORDS" 6]
def tf : List He.Defn := [("is_run", none)]
def ex (K : PySem.W.Frag) : Bool := Dl.gdB K "NOTHING_SAID" (.tuple [.tuple [], .int 1])
abbrev R : PySem.W.OpenRow := PySem.W.OpenLaw.row PySem.Challenge.rw_trialground_k28_signs_odd_lots_products
abbrev hk : PySem.W.Hook := He.hookX 6 fa fn [] tf ex
def ob (s : PySem.W.SharedT) : He.AlX := He.obsX 6 fa fn [] tf ex (HandSHeadRun.getT s)
theorem ob_eq (s : PySem.W.SharedT) : ob s = hk.obs s.abs := He.obsX_eq (HandSHeadRun.getT_eq s)
end K1

set_option Elab.async false
set_option linter.all false
set_option maxRecDepth 100000
set_option maxHeartbeats 0
set_option autoImplicit false
namespace K1
open PySem PySem.Spec PyProof.Rows L2 RZ Gd
def LO : List PySem.Str := [PySem.Str.ofString "TrialError", PySem.Str.ofString "InvalidNumber", PySem.Str.ofString "InvalidLot", PySem.Str.ofString "InvalidWords", PySem.Str.ofString "InvalidRuns", PySem.Str.ofString "NOTHING_SAID", PySem.Str.ofString "MOST_FACTORS", PySem.Str.ofString "MOST_WORDS", PySem.Str.ofString "is_whole", PySem.Str.ofString "wrong_in_lot", PySem.Str.ofString "is_lot", PySem.Str.ofString "effect_sign", PySem.Str.ofString "odd_lot", PySem.Str.ofString "products", PySem.Str.ofString "piece", PySem.Str.ofString "check_effect", PySem.Str.ofString "check_words", PySem.Str.ofString "is_run", PySem.Str.ofString "is_sign", PySem.Str.ofString "sign_in", PySem.Str.ofString "odd_of", PySem.Str.ofString "products_of", PySem.Str.ofString "piece_of", PySem.Str.ofString "agrees", PySem.Str.ofString "_check_factors", PySem.Str.ofString "_is_word", PySem.Str.ofString "_joined", PySem.Str.ofString "_law_well", PySem.Str.ofString "_law_draw", PySem.Str.ofString "_law_one", PySem.Str.ofString "_law_run", PySem.Str.ofString "_law_effect", PySem.Str.ofString "_law_runs", PySem.Str.ofString "_law_sign", PySem.Str.ofString "_law_parted", PySem.Str.ofString "_law_made", PySem.Str.ofString "_law_fitting", PySem.Str.ofString "_law_words", PySem.Str.ofString "_law_right"]
theorem run (w : World) : HandSHeadRun.RunEqI R (PySem.W.view R.prog [44]) hk ob 6000 LO w := by
  unfold HandSHeadRun.RunEqI
  kernel_rfl
end K1

set_option Elab.async false
set_option linter.all false
set_option maxRecDepth 100000
set_option maxHeartbeats 8000000
set_option autoImplicit false
namespace K1
open PySem PySem.Spec PyProof.Rows L2 RZ Gd
/-! the head's facts, put together -/
section
variable {P : Program} {w : World} {K : PySem.W.Frag} {mg : Str → Option Value} {base : Heap}
theorem def1 {h : Heap} (X : K.In h) (G : h.Ns mainGlobals mg) {x : Str} {st : Stmt} (g : (He.Fa.glo x).ok K = true) (d : ∃ fd, FunD K x x (defArgs st) (defBody st) (defScope st) [] [] (He.ga K x) fd) : Def1 K mg x st := by
  obtain ⟨fd, F⟩ := d
  exact ⟨_, fd, F, He.glo_ok X G g⟩
theorem txt1 {h : Heap} (X : K.In h) (G : h.Ns mainGlobals mg) (c : He.SaysD fa fn K) : Txt mg := ⟨He.free_ok X G (c.fact 44 (f := .free "int") rfl), He.free_ok X G (c.fact 46 (f := .free "len") rfl), He.free_ok X G (c.fact 38 (f := .free "abs") rfl), He.free_ok X G (c.fact 42 (f := .free "divmod") rfl), He.free_ok X G (c.fact 50 (f := .free "range") rfl), He.free_ok X G (c.fact 54 (f := .free "tuple") rfl), He.free_ok X G (c.fact 47 (f := .free "list") rfl), He.free_ok X G (c.fact 55 (f := .free "zip") rfl), He.free_ok X G (c.fact 43 (f := .free "enumerate") rfl), He.free_ok X G (c.fact 51 (f := .free "repr") rfl), He.free_ok X G (c.fact 45 (f := .free "isinstance") rfl), He.free_ok X G (c.fact 39 (f := .free "all") rfl), He.free_ok X G (c.fact 40 (f := .free "any") rfl), He.free_ok X G (c.fact 48 (f := .free "max") rfl), He.free_ok X G (c.fact 49 (f := .free "min") rfl), He.free_ok X G (c.fact 41 (f := .free "bool") rfl), He.free_ok X G (c.fact 36 (f := .free "ValueError") rfl), He.free_ok X G (c.fact 35 (f := .free "TypeError") rfl), He.free_ok X G (c.fact 33 (f := .free "KeyError") rfl), He.free_ok X G (c.fact 32 (f := .free "IndexError") rfl), He.free_ok X G (c.fact 37 (f := .free "ZeroDivisionError") rfl), He.free_ok X G (c.fact 34 (f := .free "RuntimeError") rfl)⟩
theorem txt2 {h : Heap} (X : K.In h) (G : h.Ns mainGlobals mg) (c : He.SaysD fa fn K) (m : ex K = true) : K2.Txt K mg := by
  unfold ex at m
  exact ⟨He.free_ok X G (c.fact 44 (f := .free "int") rfl), He.free_ok X G (c.fact 46 (f := .free "len") rfl), He.free_ok X G (c.fact 38 (f := .free "abs") rfl), He.free_ok X G (c.fact 42 (f := .free "divmod") rfl), He.free_ok X G (c.fact 50 (f := .free "range") rfl), He.free_ok X G (c.fact 54 (f := .free "tuple") rfl), He.free_ok X G (c.fact 47 (f := .free "list") rfl), He.free_ok X G (c.fact 55 (f := .free "zip") rfl), He.free_ok X G (c.fact 43 (f := .free "enumerate") rfl), He.free_ok X G (c.fact 51 (f := .free "repr") rfl), He.free_ok X G (c.fact 45 (f := .free "isinstance") rfl), He.free_ok X G (c.fact 39 (f := .free "all") rfl), He.free_ok X G (c.fact 40 (f := .free "any") rfl), He.free_ok X G (c.fact 48 (f := .free "max") rfl), He.free_ok X G (c.fact 49 (f := .free "min") rfl), He.free_ok X G (c.fact 41 (f := .free "bool") rfl), He.free_ok X G (c.fact 53 (f := .free "sorted") rfl), He.free_ok X G (c.fact 52 (f := .free "set") rfl), He.int_ok X G (c.fact 56 (f := .int "MOST_FACTORS" 6) rfl), He.int_ok X G (c.fact 57 (f := .int "MOST_WORDS" 6) rfl), Dl.gdat_of X G m⟩
abbrev TT (K : PySem.W.Frag) : Addr → Prop := fun a => ∃ p ∈ tf.map (He.cT K), p.2 = a
theorem m_is_run : (("is_run", none) : He.Defn) ∈ tf := .head _
theorem law_cal {h : Heap} (X : K.In h) (G : h.Ns mainGlobals mg) (c : He.SaysD fa fn K) (m : ex K = true) (S : SysM base) (B : ∀ p ∈ tf.map (He.cT K), LamX.TabB base mg p.1 p.2) : Cal P w K mg base "law" 11 P_law (spLawT K (TT K)) := by
  have T1 := txt1 X G c
  have T2 := txt2 X G c m
  have Dis_whole : Def1 K mg "is_whole" K2.s_is_whole := def1 (st := s_is_whole) X G (c.fact 0 (f := .glo "is_whole") rfl) (c.def_ 0 (d := d_is_whole) rfl)
  have Dwrong_in_lot : Def1 K mg "wrong_in_lot" K2.s_wrong_in_lot := def1 (st := s_wrong_in_lot) X G (c.fact 1 (f := .glo "wrong_in_lot") rfl) (c.def_ 1 (d := d_wrong_in_lot) rfl)
  have Dis_lot : Def1 K mg "is_lot" K2.s_is_lot := def1 (st := s_is_lot) X G (c.fact 2 (f := .glo "is_lot") rfl) (c.def_ 2 (d := d_is_lot) rfl)
  have Deffect_sign : Def1 K mg "effect_sign" K2.s_effect_sign := def1 (st := s_effect_sign) X G (c.fact 3 (f := .glo "effect_sign") rfl) (c.def_ 3 (d := d_effect_sign) rfl)
  have Dodd_lot : Def1 K mg "odd_lot" K2.s_odd_lot := def1 (st := s_odd_lot) X G (c.fact 4 (f := .glo "odd_lot") rfl) (c.def_ 4 (d := d_odd_lot) rfl)
  have Dproducts : Def1 K mg "products" K2.s_products := def1 (st := s_products) X G (c.fact 5 (f := .glo "products") rfl) (c.def_ 5 (d := d_products) rfl)
  have Dpiece : Def1 K mg "piece" K2.s_piece := def1 (st := s_piece) X G (c.fact 6 (f := .glo "piece") rfl) (c.def_ 6 (d := d_piece) rfl)
  have Dcheck_effect : Def1 K mg "check_effect" K2.s_check_effect := def1 (st := s_check_effect) X G (c.fact 7 (f := .glo "check_effect") rfl) (c.def_ 7 (d := d_check_effect) rfl)
  have Dcheck_words : Def1 K mg "check_words" K2.s_check_words := def1 (st := s_check_words) X G (c.fact 8 (f := .glo "check_words") rfl) (c.def_ 8 (d := d_check_words) rfl)
  have Dis_run : Dl.DefT (TT K) base K mg "is_run" K2.s_is_run := defT_of (st := s_is_run) X G (c.fact 9 (f := .glo "is_run") rfl) (c.def_ 9 (d := d_is_run) rfl) ⟨_, List.mem_map.mpr ⟨_, m_is_run, rfl⟩, rfl⟩ (B _ (List.mem_map.mpr ⟨_, m_is_run, rfl⟩)) rfl
  have Dis_sign : Def1 K mg "is_sign" K2.s_is_sign := def1 (st := s_is_sign) X G (c.fact 10 (f := .glo "is_sign") rfl) (c.def_ 10 (d := d_is_sign) rfl)
  have Dsign_in : Def1 K mg "sign_in" K2.s_sign_in := def1 (st := s_sign_in) X G (c.fact 11 (f := .glo "sign_in") rfl) (c.def_ 11 (d := d_sign_in) rfl)
  have Dodd_of : Def1 K mg "odd_of" K2.s_odd_of := def1 (st := s_odd_of) X G (c.fact 12 (f := .glo "odd_of") rfl) (c.def_ 12 (d := d_odd_of) rfl)
  have Dproducts_of : Def1 K mg "products_of" K2.s_products_of := def1 (st := s_products_of) X G (c.fact 13 (f := .glo "products_of") rfl) (c.def_ 13 (d := d_products_of) rfl)
  have Dpiece_of : Def1 K mg "piece_of" K2.s_piece_of := def1 (st := s_piece_of) X G (c.fact 14 (f := .glo "piece_of") rfl) (c.def_ 14 (d := d_piece_of) rfl)
  have Dagrees : Def1 K mg "agrees" K2.s_agrees := def1 (st := s_agrees) X G (c.fact 15 (f := .glo "agrees") rfl) (c.def_ 15 (d := d_agrees) rfl)
  have D_check_factors : Def1 K mg "_check_factors" K2.s__check_factors := def1 (st := s__check_factors) X G (c.fact 16 (f := .glo "_check_factors") rfl) (c.def_ 16 (d := d__check_factors) rfl)
  have D_is_word : Def1 K mg "_is_word" K2.s__is_word := def1 (st := s__is_word) X G (c.fact 17 (f := .glo "_is_word") rfl) (c.def_ 17 (d := d__is_word) rfl)
  have D_joined : Def1 K mg "_joined" K2.s__joined := def1 (st := s__joined) X G (c.fact 18 (f := .glo "_joined") rfl) (c.def_ 18 (d := d__joined) rfl)
  have D_law_well : Def1 K mg "_law_well" s__law_well := def1 X G (c.fact 19 (f := .glo "_law_well") rfl) (c.def_ 19 (d := d__law_well) rfl)
  have D_law_draw : Def1 K mg "_law_draw" s__law_draw := def1 X G (c.fact 20 (f := .glo "_law_draw") rfl) (c.def_ 20 (d := d__law_draw) rfl)
  have D_law_one : Def1 K mg "_law_one" s__law_one := def1 X G (c.fact 21 (f := .glo "_law_one") rfl) (c.def_ 21 (d := d__law_one) rfl)
  have D_law_run : Def1 K mg "_law_run" K2.s__law_run := def1 (st := s__law_run) X G (c.fact 22 (f := .glo "_law_run") rfl) (c.def_ 22 (d := d__law_run) rfl)
  have D_law_effect : Def1 K mg "_law_effect" K2.s__law_effect := def1 (st := s__law_effect) X G (c.fact 23 (f := .glo "_law_effect") rfl) (c.def_ 23 (d := d__law_effect) rfl)
  have D_law_runs : Def1 K mg "_law_runs" K2.s__law_runs := def1 (st := s__law_runs) X G (c.fact 24 (f := .glo "_law_runs") rfl) (c.def_ 24 (d := d__law_runs) rfl)
  have D_law_sign : Def1 K mg "_law_sign" K2.s__law_sign := def1 (st := s__law_sign) X G (c.fact 25 (f := .glo "_law_sign") rfl) (c.def_ 25 (d := d__law_sign) rfl)
  have D_law_parted : Def1 K mg "_law_parted" K2.s__law_parted := def1 (st := s__law_parted) X G (c.fact 26 (f := .glo "_law_parted") rfl) (c.def_ 26 (d := d__law_parted) rfl)
  have D_law_made : Def1 K mg "_law_made" K2.s__law_made := def1 (st := s__law_made) X G (c.fact 27 (f := .glo "_law_made") rfl) (c.def_ 27 (d := d__law_made) rfl)
  have D_law_fitting : Def1 K mg "_law_fitting" K2.s__law_fitting := def1 (st := s__law_fitting) X G (c.fact 28 (f := .glo "_law_fitting") rfl) (c.def_ 28 (d := d__law_fitting) rfl)
  have D_law_words : Def1 K mg "_law_words" K2.s__law_words := def1 (st := s__law_words) X G (c.fact 29 (f := .glo "_law_words") rfl) (c.def_ 29 (d := d__law_words) rfl)
  have D_law_right : Def1 K mg "_law_right" K2.s__law_right := def1 (st := s__law_right) X G (c.fact 30 (f := .glo "_law_right") rfl) (c.def_ 30 (d := d__law_right) rfl)
  have Dlaw : Def1 K mg "law" s_law := def1 X G (c.fact 31 (f := .glo "law") rfl) (c.def_ 31 (d := d_law) rfl)
  have o_draw := cal__law_draw (P := P) (w := w) (base := base) T1 D_law_draw
  have o_well := cal__law_well (P := P) (w := w) (base := base) T1 D_law_well
  have o_one := cal__law_one T1 D_law_one o_draw
  have c__law_one := o_one
  have c__law_draw : Cal P w K mg base "_law_draw" 1 P__law_draw (Dl.spW K (TT K) 1 K2.g_draw) := o_draw.imp fun _ _ _ _ q => K2.draw_w q
  have c__law_run := K2.cal__law_run (P := P) (w := w) (base := base) (T := TT K) T2 D_law_run c__law_one K2.eq_lrun
  have c__law_effect := K2.cal__law_effect (P := P) (w := w) (base := base) (T := TT K) T2 D_law_effect c__law_draw K2.eq_leff
  have c__law_parted := K2.cal__law_parted (P := P) (w := w) (base := base) (T := TT K) T2 D_law_parted  K2.eq_parted
  have c__law_sign := K2.cal__law_sign (P := P) (w := w) (base := base) (T := TT K) T2 D_law_sign  K2.eq_lsign
  have c__law_words := K2.cal__law_words (P := P) (w := w) (base := base) (T := TT K) T2 D_law_words c__law_run c__law_draw c__law_effect c__law_parted c__law_one c__law_sign K2.eq_lwords
  have c_is_whole := K2.cal_is_whole (P := P) (w := w) (base := base) (T := TT K) T2 Dis_whole  K2.eq_whole
  have c_wrong_in_lot := K2.cal_wrong_in_lot (P := P) (w := w) (base := base) (T := TT K) T2 Dwrong_in_lot c_is_whole K2.eq_wil
  have c_check_effect := K2.cal_check_effect (P := P) (w := w) (base := base) (T := TT K) T2 Dcheck_effect c_wrong_in_lot K2.eq_ceff
  have c_sign_in := K2.cal_sign_in (P := P) (w := w) (base := base) (T := TT K) T2 Dsign_in  K2.eq_sin
  have c_is_sign := K2.cal_is_sign (P := P) (w := w) (base := base) (T := TT K) T2 Dis_sign c_is_whole K2.eq_sign
  have c_is_run := K2.cal_is_run (P := P) (w := w) (base := base) (T := TT K) T2 Dis_run c_is_sign K2.eq_isrun
  have c_effect_sign := K2.cal_effect_sign (P := P) (w := w) (base := base) (T := TT K) T2 Deffect_sign c_check_effect c_sign_in c_is_run K2.eq_esign
  have k_effect_sign := K2.calk_effect_sign (P := P) (w := w) (base := base) (T := TT K) T2 Deffect_sign c_check_effect c_sign_in c_is_run K2.eq_esign
  have c__law_made := K2.cal__law_made (P := P) (w := w) (base := base) (T := TT K) T2 D_law_made c__law_parted K2.eq_lmade
  have c__law_runs := K2.cal__law_runs (P := P) (w := w) (base := base) (T := TT K) T2 D_law_runs  K2.eq_lruns
  have c__law_fitting := K2.cal__law_fitting (P := P) (w := w) (base := base) (T := TT K) T2 D_law_fitting c__law_runs c__law_sign K2.eq_lfitting
  have c__check_factors := K2.cal__check_factors (P := P) (w := w) (base := base) (T := TT K) T2 D_check_factors c_is_whole K2.eq_cfac
  have c_odd_of := K2.cal_odd_of (P := P) (w := w) (base := base) (T := TT K) T2 Dodd_of  K2.eq_odd
  have c_odd_lot := K2.cal_odd_lot (P := P) (w := w) (base := base) (T := TT K) T2 Dodd_lot c__check_factors c_check_effect c_odd_of K2.eq_oddlot
  have k_odd_lot := K2.calk_odd_lot (P := P) (w := w) (base := base) (T := TT K) T2 Dodd_lot c__check_factors c_check_effect c_odd_of K2.eq_oddlot
  have c_is_lot := K2.cal_is_lot (P := P) (w := w) (base := base) (T := TT K) T2 Dis_lot c_wrong_in_lot K2.eq_islot
  have c__is_word := K2.cal__is_word (P := P) (w := w) (base := base) (T := TT K) T2 D_is_word c_is_lot c_is_sign K2.eq_isword
  have c_check_words := K2.cal_check_words (P := P) (w := w) (base := base) (T := TT K) T2 Dcheck_words c__check_factors c__is_word K2.eq_cwords
  have c__joined := K2.cal__joined (P := P) (w := w) (base := base) (T := TT K) T2 D_joined c_odd_of K2.eq_join
  have c_products_of := K2.cal_products_of (P := P) (w := w) (base := base) (T := TT K) T2 Dproducts_of c__joined K2.eq_prodof
  have c_products := K2.cal_products (P := P) (w := w) (base := base) (T := TT K) T2 Dproducts c_check_words c_products_of K2.eq_products
  have k_products := K2.calk_products (P := P) (w := w) (base := base) (T := TT K) T2 Dproducts c_check_words c_products_of K2.eq_products
  have c_agrees := K2.cal_agrees (P := P) (w := w) (base := base) (T := TT K) T2 Dagrees c_sign_in K2.eq_agrees
  have c_piece_of := K2.cal_piece_of (P := P) (w := w) (base := base) (T := TT K) T2 Dpiece_of c_agrees K2.eq_pieceof
  have c_piece := K2.cal_piece (P := P) (w := w) (base := base) (T := TT K) T2 Dpiece c_check_words c_piece_of K2.eq_piece
  have k_piece := K2.calk_piece (P := P) (w := w) (base := base) (T := TT K) T2 Dpiece c_check_words c_piece_of K2.eq_piece
  have c__law_right := K2.cal__law_right (P := P) (w := w) (base := base) (T := TT K) T2 S D_law_right c__law_words c__law_parted c__law_one c__law_draw c__law_run c__law_effect c__law_sign c_effect_sign k_effect_sign c__law_made c__law_fitting c_odd_lot k_odd_lot c_products k_products c_piece k_piece K2.eq_right
  have r : Cal P w K mg base "_law_right" 10 P__law_right (spRightT (TT K)) := c__law_right.imp fun _ _ _ _ q => right_w q
  exact cal_law T1 Dlaw r o_well
end
end K1
open PySem PySem.W PySem.Calls PyProof.Rows
theorem PySem.Challenge.cw_trialground_k28_signs_odd_lots_products_holds : PySem.Challenge.rw_trialground_k28_signs_odd_lots_products.Holds := by
  w_on; o_law
  refine HandSHeadRun.head_imp (r := K1.R) (q := view K1.R.prog [44]) (H := K1.hk) (ob := K1.ob) (M := 6000) (loose := K1.LO) (d := HandSHeadRun.topDef K1.R.prog 44) (kwd := []) K1.ob_eq
    K1.run (by kernel_rfl) (by kernel_rfl) (by kernel_rfl) (by rfl) (by first | assumption | decide +kernel) (by decide +kernel) ⟨rfl, rfl, rfl, rfl, rfl, by decide +kernel⟩ ?hw ?hc
  case hw => w_witness2
  case hc =>
    refine Gd.walk_g (l := PySem.Challenge.rw_trialground_k28_signs_odd_lots_products) (n := 63) (k := 11) (x := "_law_script") (CX := fun _ => L2.CX0) rfl (by decide) (by kernel_rfl) ⟨rfl, by decide, by decide⟩ (by kernel_rfl) ?F (fun _ _ _ _ _ z => z)
    intro w mg fa h Y G hmg0
    obtain ⟨K, KX, c⟩ := Y
    have hmg : mg ("law" : PySem.Str) = some (.ref fa) := by
      have e : (HandSHeadRun.topDef K1.R.prog 44).name = ("law" : PySem.Str) := by kernel_rfl
      rw [← e]
      exact hmg0
    refine ⟨K, KX, K1.tf.map (He.cT K), K1.spLawT K (K1.TT K), ?_, ?_, ?_, fun H a ns hl _ hT hS => ⟨a, ns, rfl, hS, by omega, ?_, fun _ => rfl⟩, fun base _ _ S B => ?_⟩
    · intro p hp
      obtain ⟨q, hq, rfl⟩ := List.mem_map.mp hp
      exact c.empty q hq
    · intro p hp
      obtain ⟨q, hq, rfl⟩ := List.mem_map.mp hp
      exact c.out q hq
    · intro p hp
      obtain ⟨q, hq, rfl⟩ := List.mem_map.mp hp
      exact PySem.W.codeHd_of_K KX (c.hd q hq)
    · rintro b ⟨p, hp, rfl⟩
      exact ⟨_, hT p hp, by simp [TriplesOk]⟩
    obtain ⟨f, fd, F, hm, hk, hb⟩ := K1.law_cal (P := (PySem.Challenge.rw_trialground_k28_signs_odd_lots_products).prog) (w := w) KX G c.t.d c.more S B
    have e := hm.symm.trans hmg
    cases e
    exact ⟨fd, F, hb⟩
