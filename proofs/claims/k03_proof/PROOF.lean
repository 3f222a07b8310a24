import PyProof.Rows.All
import Wide.All
import OpenK.AllK
import Wide.FinOn
import HandS.ForMost
import HandS.ForExc
import HandS.ExcInit
import HandS.ExcField
import HandS.TryMany
import HandS.IsInst
import HandS.TupAny
import HandS.TupMul
import HandS.Defaults
import HandS.MakeKw
import HandS.MakeKwOnly
import HandS.OwnEq
import HandS.Strs
import HandS.Style
import HandS.Wide
import HandS.Conv
import HandS.SetFor
import HandS.Flow
import PyProof.Rows.SetFrom
import HandS.SortInts
import HandS.Zip
import KE.GoesEnum
import HandS.ExcOwn
import PySem.Challenge.RW_leastspare_k03_drives
import PyProof.ReprBulk
import HandS.Small
set_option Elab.async false
set_option linter.all false
set_option maxRecDepth 100000
set_option maxHeartbeats 8000000
/-! Rules of our own over the layer: calls by names alone, methods by names, own errors made and caught, repr of data. -/
namespace Ls
open PySem PySem.Spec PyProof.Rows L2
section
variable {X : Cx} {CX : CXT} {k n : Nat} {f : Addr} {fd : FuncData} {ps ks : List Str} {sp : Sp} {E : XK} {x : Str} {p pos : Pos}
  {e : Expr} {es : List Expr} {kws : List Keyword} {t tk : TA} {g : List Value → List Value → List Value} {gV : List V → List V → List V}

/-- f(k = v, ..), nothing by position -/
theorem pe_callK0 (F : FnOk X.prog X.w X.K X.mg X.base CX k f fd ps sp) (hr : Room k X.A) (hg : Gl X x) (hm : X.mg x = some (.ref f))
    (hk : PySem.W.keepIn X.K (.ref f) = true) (hb : KBn X.K fd ps 0 ks g gV) (hx : Passes CX X E) (hkw : PK X kws tk)
    (hall : (backToKw pos (keywordEach kws X.env)).all (·.1.isSome) = true := by rfl)
    (hks : (backToKw pos (keywordEach kws X.env)).filterMap (·.1) = ks := by rfl)
    (hdb : (x == ("__debug__" : Str)) = false := by decide)
    (hpl : ((backTo pos (starEach [] X.env)).any (·.1) || (backToKw pos (keywordEach kws X.env)).any (·.1.isNone)) = false := by rfl) :
    PE X (.Call (.Name x p) [] kws pos) (tCallN 0 ks.length sp gV E tNil tk) := by
  constructor; intro pins s σ H Q I h
  apply wpAny_Call_Name_kw; apply ld_glob I hg hm _ hdb
  apply PySem.W.callWith_KW0 (h₀ := X.base) I.ok.mod.kin hk hall _ hpl
  apply thn (hkw.run pos pins s σ H _ I h)
  rintro ws s2 ⟨zs, H2, I2, rz, l1, l2, q2⟩
  refine ⟨I2.kIn, ?_⟩; rw [hks]
  exact run_fnN (us := []) (vs := []) F hr hb hx I2 .nil rz rfl l2 q2

/-- the reading of o.m(e, .., k = v, ..) -/
def tMethN (C : Addr) (m : Str) (nn mm : Nat) (sp : Sp) (gV : List V → List V → List V) (E : XK) (ta : TE) (t tk : TA) : TE := fun σ H Q =>
  ta σ H fun x H1 => ∃ a dx fs, x = .ref a ∧ H1 a = some (.ins C dx fs) ∧ fs.lookup m = none ∧
    t σ H1 fun vs H2 => tk σ H2 fun zs H3 => vs.length = nn ∧ zs.length = mm ∧ sp (gV (x :: vs) zs) H3 Q E
variable {C : Addr} {m : Str} {o : Expr} {ta : TE} {apos : Pos}
/-- o.m(k = v, ..) -/
theorem pe_methK0 {pl : Sem Bool} (ho : PE X o ta) (c : Cls X.K C) (hm : Meth X.K C m f) (F : FnOk X.prog X.w X.K X.mg X.base CX k f fd ps sp)
    (hr : Room k X.A) (hb : KBn X.K fd ps 1 ks g gV) (hx : Passes CX X E) (hkw : PK X kws tk)
    (hall : (backToKw pos (keywordEach kws X.env)).all (·.1.isSome) = true := by rfl)
    (hks : (backToKw pos (keywordEach kws X.env)).filterMap (·.1) = ks := by rfl)
    (hpl : ((backTo pos (starEach [] X.env)).any (·.1) || (backToKw pos (keywordEach kws X.env)).any (·.1.isNone)) = false := by rfl)
    (ht : eval (.Call (.Attribute o m apos) [] kws pos) X.env = (do
      let ov ← eval o X.env; standAt apos.atName
      let (ff, first) ← holding [ov] (getMethod ov m pl); callWith pos ff first (backTo pos (starEach [] X.env)) (backToKw pos (keywordEach kws X.env))) := by rfl) :
    PE X (.Call (.Attribute o m apos) [] kws pos) (tMethN C m 0 ks.length sp gV E ta tNil tk) := by
  constructor; intro pins s σ H Q I h
  apply PySem.W.methodCall_KW (pl := pl) _ ht
  apply thn (ho.run pins s σ H _ I h)
  rintro u s1 ⟨y, H1, I1, rx, a, dx, fs, ex, ea, l, q⟩
  subst ex; obtain rfl : u = Value.ref a := rx
  apply getmeth_ok I1 ea c hm l
  apply PySem.W.callWith_KW0 (first := [.ref a]) (h₀ := X.base) I.ok.mod.kin hm.kp hall _ hpl
  apply thn (hkw.run pos pins s1 σ H1 _ I1 q)
  rintro ws s2 ⟨zs, H2, I2, rz, l1, l2, q2⟩
  refine ⟨I2.kIn, ?_⟩; rw [hks]
  exact run_fnN (us := [.ref a]) (vs := [.ref a]) F hr hb hx I2 (.cons rfl .nil) rz rfl l2 q2
end

/-! ### own errors: class over ValueError with one field, set by its __init__ -/
/-- what an __init__ of one parameter promises: the field is set on the new error -/
def spErr (C : Addr) (fld : Str) : Sp := fun vs H Q _ => ∃ (a : Addr) (v : V), vs = [.ref a, v] ∧ H a = some (exo a C none) ∧
  ∀ dx, H dx = none → dx ≠ a → Q .non (upd (upd H dx (exd dx [(fld, v)])) a (exo a C (some dx)))
/-- what is known of an error class at C, its __init__ at fI -/
structure ErrC (P : Program) (w : World) (K : PySem.W.Frag) (mg : Str → Option Value) (base : Heap) (x fld : Str) (C : Addr) : Prop where
  ox : OexC K C
  xf : XfC K C
  gC : mg x = some (.ref C)
  nf : PySem.W.findIn K (.ref C) fld = some none
  te : PySem.W.exmOne K (.ref C) (.ref C) = some true
  ini : ∃ (fI : Addr) (fd : FuncData) (par : Str), PySem.W.findIn K (.ref C) "__init__" = some (some (.ref fI)) ∧ PySem.W.typeIn K (.ref fI) = some (.type "function") ∧
    FnOk P w K mg base CX0 1 fI fd ["self", par] (spErr C fld) ∧ Binds K fd ["self", par] []
theorem exd_heap {H : Hp} {a d : Addr} {o u o1 o2 : HO} (ha : H a = none) (hda : d ≠ a) : upd (del (upd (upd (upd H a o) d u) a o1) a) d o2 = upd H d o2 := by
  funext b
  by_cases e1 : b = d
  · rw [e1, upd_same, upd_same]
  · rw [upd_ne e1, upd_ne e1]
    by_cases e2 : b = a
    · rw [e2, del_same, ha]
    · rw [del_ne e2, upd_ne e2, upd_ne e1, upd_ne e2]
section
variable {X : Cx} {x fld : Str} {C : Addr} {e : Expr} {te : TE} {p pos pos2 : Pos} {W : WX}
/-- the reading of C(e) made to be raised -/
def tMkErr (C : Addr) (fld : Str) (te : TE) : L2.St → Hp → XK → Prop := fun σ H Q => te σ H fun v H1 => ∀ d, H1 d = none → Q (.ref C) (some d) (upd H1 d (.xd [(fld, v)]))
/-- the same reading, closed upwards -/
def tUp (te : TE) : TE := fun σ H Q => ∃ P : VK, te σ H P ∧ ∀ v H1, P v H1 → Q v H1
theorem pe_up (he : PE X e te) : PE X e (tUp te) := by
  constructor; rintro pins s σ H Q I ⟨P, h, hP⟩
  apply thn (he.run pins s σ H P I h)
  rintro u s1 ⟨v, H1, I1, r1, q1⟩; exact ⟨v, H1, I1, r1, hP v H1 q1⟩
theorem pmk_err (T : ErrC X.prog X.w X.K X.mg X.base x fld C) (hr : Room 2 X.A) (hg : Gl X x) (he : PE X e te)
    (hs : starEach (e :: []) X.env = (false, eval e X.env) :: starEach [] X.env := by rfl) (hdb : (x == ("__debug__" : Str)) = false := by decide)
    (hpl : (backTo pos (starEach [] X.env)).any (·.1) = false := by rfl) : PMk X (.Call (.Name x p) [e] [] pos) (tMkErr C fld te) := by
  obtain ⟨fI, fd, par, iC, tI, F, hb⟩ := T.ini
  have R := pmk_oex (p := p) (pos := pos) (dvs := []) (ds := []) T.ox iC tI F hr hb .nil pass0 hg T.gC (pa_cons (pe_up he) pa_nil (hs := hs)) hdb hs hpl
  intro pins s σ H Q I h
  refine R pins s σ H Q I ⟨_, h, fun v H1 q => ⟨(by show 1 ≤ 1000; decide), fun a ha => ⟨a, v, rfl, upd_same, fun dx hdx hne => ⟨rfl, dx, [(fld, v)], upd_same, ?_, ?_, ?_⟩⟩⟩⟩
  · rw [upd_ne hne, upd_same]
  · rw [upd_ne hne] at hdx; exact hdx
  · rw [upd_ne hne] at hdx
    rw [exd_heap ha hne]; exact q dx hdx
end

/-! ### try with several clauses, each with a name or without -/
/-- the clauses of a try, and what the list wishes of an exception -/
inductive HdA (X : Cx) : List ExceptHandler → (Ends → WX → WX) → Prop
  | nil : HdA X [] (fun _ W => W)
  | as_ {x n : Str} {c : Value} {i : Nat} {ts : Addr → Value → Option Addr → TS} {b₀ : Stmt} {suite : List Stmt} {np pos' : Pos} {hds : List ExceptHandler} {T : Ends → WX → WX}
      (hi : X.N[i]? = some n) (hln : X.env.kindOf n = some .local) (hc : Names X x c)
      (hsu : ∀ (a : Addr) (oe : Obj) (cls : Value) (d : Option Addr) (pn : List (Addr × Obj)), Zc cls d oe → (∃ vs, oe.data = .fields vs) →
        PSs (X.suite a ((a, oe) :: pn)) (b₀ :: suite) (ts a cls d)) (r : HdA X hds T) :
      HdA X (.ExceptHandler (some (.Name x np)) (some n) (b₀ :: suite) pos' :: hds) (fun D W => wAs X.K c i ts (T D W) D)
section
variable {X : Cx} {body : List Stmt} {h₀ : ExceptHandler} {hds : List ExceptHandler} {pos : Pos} {tb : WX → TS} {Wout : WX} {TT : Ends → WX → WX}
theorem ps_tryA (hs : X.stack = X.env :: X.outer) (hf : X.env.frame = some X.env.locals) (hN : X.N.Nodup) (tk : Takes X Wout)
    (hb : ∀ (W : WX) (pn : List (Addr × Obj)) (xe : Value → Shared → Prop), Takes (X.tr pn xe) W → PassesOwn (model X.prog X.w) X.A X.env xe →
      PSs (X.tr pn xe) body (tb W))
    (hh : HdA X (h₀ :: hds) TT) : PS X (.Try body (h₀ :: hds) [] [] pos) (fun D σ H => tb (TT D Wout) D σ H) := by
  constructor; intro pins s σ H D I h
  have ok := I.ok; have hfr : X.A.frames = some (X.env :: X.outer) := hs ▸ ok.frames
  apply wpAny_Try_except
  apply wpAny_mono ((hb (TT D Wout) (X.pn ++ pins) (fun e s₁ => wpAny (model X.prog X.w) X.A (noteFrame e X.env) (fun _ s₂ =>
    wpAny (model X.prog X.w) X.A (setFlight e none) (fun _ s₃ => wpAny (model X.prog X.w) X.A (handleBy e X.env (h₀ :: hds)) (SP X pins D) X.xe s₃) X.xe s₂) X.xe s₁)
    (fun u s' xx => ?_) PassesOwn.looking).run [] s σ H D (I.toTry _) h) (fun f s1 hsp => ?_) (fun e s1 he => he)
  · obtain ⟨a, B, sI, pins', σ', H', cls, d, rfl, J', nb, up, sky, na, os, ag, w⟩ := xx
    have J : Inv X pins σ' H' sI := J'.ofTry ok
    rw [hs] at sky; show wpAny (model X.prog X.w) X.A (noteFrame (.ref a) X.env) _ _ _
    apply Sky.land Zc.steady hfr hf sky; intro h3 fl3 up3
    have J3 : Inv X pins σ' H' { s' with heap := h3 } := J.landed nb fl3.1 (up.trans up3) os ag
    obtain ⟨oe3, vs3, he3, hz3, hd3⟩ := fl3.there
    have nfr : a ∉ frs (X.env :: X.outer) := by
      intro hm; obtain ⟨_, o', e', hnf⟩ := fl3.2.2.1.mem hm
      rw [he3] at e'; cases e'; exact hnf _ hd3
    have nL : a ≠ X.env.locals := by
      intro z; apply nfr; rw [z]; exact List.mem_filterMap.mpr ⟨X.env, List.mem_cons_self, hf⟩
    have nF : a ∉ X.fs := by
      intro hm; obtain ⟨e, he, q⟩ := List.mem_filterMap.mp hm
      exact nfr (List.mem_filterMap.mpr ⟨e, List.mem_cons_of_mem _ he, q⟩)
    have S3 := J3.suite he3 hd3 na nL nF
    suffices go : ∀ (hl : List ExceptHandler) (T : Ends → WX → WX), HdA X hl T → T D Wout cls d σ' H' →
        wpAny (model X.prog X.w) X.A (handleBy (.ref a) X.env hl) (SP X pins D) X.xe { s' with heap := h3 } from go _ _ hh w
    intro hl T hk; induction hk with
    | nil =>
      intro w; apply wpAny_handleBy_nil
      obtain ⟨k1, k2, k3, oe, vs, T1, oT, ts', he, hz, hd, h1, hr⟩ := id fl3
      unfold PySem.passOn; apply wpAny_bind; apply wpAny_field he hd h1
      rw [if_neg (by simp : ¬ ((Value.ref T1 == Value.none) = true))]
      have fin : wpAny (model X.prog X.w) X.A (setFlight (.ref a) X.env.frame) (fun _ s4 =>
          wpAny (model X.prog X.w) X.A (throw (.ref a) : Sem Flow) (SP X pins D) X.xe s4) X.xe { s' with heap := h3 } := by
        rw [hf]; apply HandSPX.setFlight_upZ fl3; intro h4 hh4 up4; apply wpAny_throw
        exact tk _ _ ⟨a, B, sI, pins, σ', H', cls, d, rfl, J, nb, (up.trans up3).trans up4, .inr (.inr (hs ▸ hh4)), na, os, ag, w⟩
      first | exact wpAny_bind (wpAny_pure (wpAny_bind fin)) | exact wpAny_bind fin
    | @as_ x n c i ts b₀ suite np pos' hds2 T2 hi hln hc hsu r ih =>
      intro w; obtain ⟨b, hb1, hyes, hno⟩ := w
      have hloc : Loc X.env.scope n := .inl hln
      apply wpAny_handleBy_cons _ (by intro q; cases q); apply codeAny_handlers_test
      have LT : PySem.W.Looks (model X.prog X.w) h3 (typeOf (.ref a)) cls := by
        intro A Q E s k q; apply wpAny_typeOf_ref (k _ _ he3); rw [hz3.1]; exact q
      have LM := PySem.W.exm_one (M := model X.prog X.w) (J3.kIn) LT hb1
      have test : ∀ {Q : Value → Shared → Prop} {E : Value → Shared → Prop}, Q c { s' with heap := h3 } →
          wpAny (model X.prog X.w) (X.A.mark (some (.ref a))) (eval (.Name x np) X.env) Q E { s' with heap := h3 } := by
        intro Q E q; obtain ⟨hg, hdbg, hm | ⟨hm, hv, hnn⟩⟩ := hc
        · exact ld_glob (X := X.suite a ((a, oe3) :: (X.pn ++ pins))) S3 hg hm q hdbg
        · exact ld_blt (X := X.suite a ((a, oe3) :: (X.pn ++ pins))) S3 hg hm hv q hnn hdbg
      apply test; apply LM.here
      cases b with
      | true =>
        apply codeAny_handlers_suite_as; apply HandSPX.lands_againZ fl3; intro h4 fl4 up4
        have J4 : Inv X pins σ' H' { s' with heap := h4 } := J.landed nb fl4.1 ((up.trans up3).trans up4) os ag
        obtain ⟨oe4, vs4, he4, hz4, hd4⟩ := fl4.there
        have S4 := J4.suite he4 hd4 na nL nF
        apply store_ok (X := X.suite a ((a, oe4) :: (X.pn ++ pins))) (v := .ref a) S4 hN hi hloc rfl _ (.inr hln)
        intro s5 S5
        apply wpAny_mono ((hsu a oe4 cls d (X.pn ++ pins) hz4 ⟨_, hd4⟩).run [] s5 _ H' _ S5 (hyes rfl a na)) _ (fun _ _ z => False.elim z)
        intro f s6 hsp
        have end_ : ∀ {σ6 : L2.St} {H6 : Hp} {Q : Shared → Prop}, Inv (X.suite a ((a, oe4) :: (X.pn ++ pins))) [] σ6 H6 s6 →
            (∀ s7, Inv X pins (σ6.set i none) H6 s7 → Q s7) →
            wpAny (model X.prog X.w) X.A (do bindName X.env n .none; unbindBehindTheSuite X.env n pos') (fun _ s7 => Q s7) X.xe s6 :=
          fun S6 hq => gone_ok (S6.unsuite ok) hN hi hln hq
        cases f with
        | next => obtain ⟨σ6, H6, S6, q6⟩ := hsp; exact end_ S6 fun s7 J7 => ⟨_, _, J7, q6⟩
        | brk => obtain ⟨σ6, H6, S6, q6⟩ := hsp; exact end_ S6 fun s7 J7 => ⟨_, _, J7, q6⟩
        | cont => obtain ⟨σ6, H6, S6, q6⟩ := hsp; exact end_ S6 fun s7 J7 => ⟨_, _, J7, q6⟩
        | ret u => obtain ⟨v6, σ6, H6, S6, r6, q6⟩ := hsp; exact end_ S6 fun s7 J7 => ⟨_, _, _, J7, r6, q6⟩
      | false => show wpAny _ X.A (handleBy (.ref a) X.env hds2) _ _ _; exact ih (hno rfl)
  · cases f with
    | next => obtain ⟨σ', H', J', q⟩ := hsp; exact wpAny_execs_nil ⟨σ', H', J'.ofTry ok, q⟩
    | brk => obtain ⟨σ', H', J', q⟩ := hsp; exact ⟨σ', H', J'.ofTry ok, q⟩
    | cont => obtain ⟨σ', H', J', q⟩ := hsp; exact ⟨σ', H', J'.ofTry ok, q⟩
    | ret u => obtain ⟨v, σ', H', J', r, q⟩ := hsp; exact ⟨v, σ', H', J'.ofTry ok, r, q⟩
end
end Ls

/-! Defs whose promise needs to know that no repr is under way (for repr of lists, tuples, dicts), and repr itself. -/
namespace Ls
open PySem PySem.Spec PyProof.Rows L2
/-- a def's promise, called where no repr is under way -/
structure FnG (P : Program) (w : World) (K : PySem.W.Frag) (mg : Str → Option Value) (base : Heap) (CX : CXT) (k : Nat) (f : Addr) (fd : FuncData) (ps : List Str) (sp : Sp) : Prop where
  len : ∀ vs H Q E, sp vs H Q E → vs.length = ps.length
  run : ∀ (A : Around) (outer : List Env) (s : Shared) (H : Hp) (args : Args) (us : List Value) (vs : List V) (Q : VK) (E : XK), A.guards = some [] → Room k A →
    Env0 P w K mg base A outer s H → BindsTo s fd args (ps.zip us) → Vals vs us → sp vs H Q E → codeAny (model P w) A (.call (.ref f) args) (CR CX outer P w H s Q E) s
section
variable {P : Program} {w : World} {K : PySem.W.Frag} {mg : Str → Option Value} {base : Heap} {CX : CXT} {k : Nat} {f : Addr} {fd : FuncData} {ps N : List Str} {sp : Sp}
theorem FnG.of (F : FnOk P w K mg base CX k f fd ps sp) : FnG P w K mg base CX k f fd ps sp :=
  ⟨F.len, fun A outer s H args us vs Q E _ => F.run A outer s H args us vs Q E⟩
theorem FnG.mono {j : Nat} (F : FnG P w K mg base CX j f fd ps sp) (h : j ≤ k) : FnG P w K mg base CX k f fd ps sp :=
  ⟨F.len, fun A outer s H args us vs Q E hg hr => F.run A outer s H args us vs Q E hg (hr.mono h)⟩
theorem funG {x qual : Str} {st : Stmt} (F : Fun K x qual st f fd) (S : FnScope N ps (defScope st)) (len : ∀ vs H Q E, sp vs H Q E → vs.length = ps.length)
    (hbody : ∀ (cdv : Value) (A : Around) (outer : List Env) (s : Shared) (H : Hp) (vs : List V) (Q : VK) (E : XK), A.guards = some [] →
      Room k (A.deeper (envOfC qual (defScope st) s.heap.objs.size f cdv)) → sp vs H Q E →
      ∃ t, PSs (cxOf CX0 P w K mg base N qual (defScope st) f cdv A outer s H E) (defBody st) t ∧ t { nx := fun _ H' => Q .non H', rt := Q } (start N vs) H) :
    FnG P w K mg base CX0 (k + 1) f fd ps sp := by
  obtain ⟨oc, od, kV, doc, pm, an, cdv, ct, osl, rfl, lk, hcd⟩ := F.ex
  refine ⟨len, fun A outer s H args us vs Q E hgd hr e0 hb r hsp => ?_⟩
  -- a promise for this one state only: whoever runs with other things around is given nothing to do
  have hl := len _ _ _ _ hsp; have KX : K.In s.heap := e0.mod.kin.keeps fun b o e => (e0.bs b o e).1
  have lim : s.heap.NoLimit := e0.mod.nolimit.keeps fun b o e => (e0.bs b o e).1
  apply codeAny_call_function hr.depth (KX _ _ lk) rfl S.co S.gen rfl (PySem.W.codeRec_of KX hcd) (hb _ _ _ _ _)
  apply wpAny_newFunctionEnv_cells S.kind
  · rintro ⟨n, v⟩ hy
    rcases S.par n (List.of_mem_zip hy).1 with q | q
    · exact .inl q
    · exact .inr ⟨q, PySem.W.cellsFrom_some _ _ _ (.inl q)⟩
  · intro env he s1 x; subst he
    refine ⟨lim.keeps x.toInCall.keep, codeAny_func ?_⟩
    obtain ⟨t, ht, hq⟩ := hbody cdv A outer s H vs Q E hgd (hr.deeper _) hsp
    have I : Inv (cxOf CX0 P w K mg base N qual (defScope st) f cdv A outer s H E) [] (start N vs) H s1 := inv_start S hr.hd e0 hl r x
    apply wpAny_mono (ht.run [] s1 (start N vs) H _ I hq) _ (fun e s' hs => hs)
    intro fl s' hs; cases fl with
    | ret u => obtain ⟨v, σ', H', J, rv, q⟩ := hs; exact ⟨v, H', J.os, J.bare, J.base, J.hok, rv, q⟩
    | next => obtain ⟨σ', H', J, q⟩ := hs; exact ⟨.non, H', J.os, J.bare, J.base, J.hok, rfl, q⟩
    | brk => obtain ⟨_, _, _, q⟩ := hs; exact q.elim
    | cont => obtain ⟨_, _, _, q⟩ := hs; exact q.elim
end
section
variable {X : Cx} {CX : CXT} {k : Nat} {f : Addr} {fd : FuncData} {ps : List Str} {sp : Sp} {dvs : List V} {ds : List Value} {E : XK} {x : Str} {p pos : Pos} {e : Expr} {es : List Expr} {t : TA}
/-- f(e, ..), f such a def -/
theorem pe_callG (F : FnG X.prog X.w X.K X.mg X.base CX k f fd ps sp) (hgd : X.A.guards = some []) (hr : Room k X.A) (hg : Gl X x) (hm : X.mg x = some (.ref f))
    (hk : PySem.W.keepIn X.K (.ref f) = true) (hb : Binds X.K fd ps ds) (hd : Vals dvs ds) (hx : Passes CX X E) (ha : PA X (e :: es) t)
    (hdb : (x == ("__debug__" : Str)) = false := by decide) (he : starEach (e :: es) X.env = (false, eval e X.env) :: starEach es X.env := by rfl)
    (hpl : (backTo pos (starEach es X.env)).any (·.1) = false := by rfl) : PE X (.Call (.Name x p) (e :: es) [] pos) (tCall sp dvs E t) := by
  constructor; intro pins s σ H Q I h
  apply wpAny_Call_Name_kw; apply ld_glob I hg hm _ hdb
  apply PySem.W.callWith_K (h₀ := X.base) I.ok.mod.kin hk _ he hpl
  apply thn (ha.run pos pins s σ H _ I h)
  rintro us s1 ⟨vs, H1, I1, r, q⟩; refine ⟨I1.kIn, ?_⟩
  have r2 : Vals (vs ++ dvs) (us ++ ds) := r.append hd
  have hl : (us ++ ds).length = ps.length := by rw [← r2.length]; exact F.len _ _ _ _ q
  apply wpAny_call
  apply codeAny_mono (F.run X.A X.stack s1 H1 ⟨us, []⟩ (us ++ ds) (vs ++ dvs) Q E hgd hr I1.env0 (hb s1 us I1.kIn hl) r2 q)
  intro r s' hq; cases r with
  | error er => exact hx pins σ H1 s1 er s' I1 hq
  | ok fl => cases fl with
    | ret u => exact I1.after hq
    | next => exact False.elim hq
    | brk => exact False.elim hq
    | cont => exact False.elim hq
end
/-! ### repr -/
def kD : Key → PyData
  | .inl i => .int i
  | .inr x => .str x
/-- values that are no objects -/
inductive Sc : List V → List PyData → Prop
  | nil : Sc [] []
  | non {vs ds} : Sc vs ds → Sc (.non :: vs) (.none :: ds)
  | bl {vs ds} (b : Bool) : Sc vs ds → Sc (.bl b :: vs) (.bool b :: ds)
  | int {vs ds} (i : Int) : Sc vs ds → Sc (.int i :: vs) (.int i :: ds)
  | str {vs ds} (x : Str) : Sc vs ds → Sc (.str x :: vs) (.str x :: ds)
theorem Sc.reads {h : Heap} : ∀ {vs : List V} {ds : List PyData} {us : List Value}, Sc vs ds → Vals vs us → ReadsAll h us ds []
  | _, _, _, .nil, .nil => .nil
  | _, _, _, .non r, .cons e t => by cases e; exact ReadsAll.cons (as := []) Reads.none (r.reads t)
  | _, _, _, .bl b r, .cons e t => by cases e; exact ReadsAll.cons (as := []) (Reads.bool b) (r.reads t)
  | _, _, _, .int i r, .cons e t => by obtain ⟨k, rfl⟩ := e; exact ReadsAll.cons (as := []) (Reads.int i k) (r.reads t)
  | _, _, _, .str x r, .cons e t => by obtain ⟨k, rfl⟩ := e; exact ReadsAll.cons (as := []) (Reads.str x k) (r.reads t)
/-- v stands for the data d: as Dp, or a dict of values that are no objects -/
inductive Rp (K : PySem.W.Frag) (H : Hp) : V → PyData → Prop
  | of {v : V} {d : PyData} : Dp K H v d → Rp K H v d
  | dic {a : Addr} {kvs : List (Key × V)} {ds : List PyData} : H a = some (.dK kvs) → Sc (kvs.map (·.2)) ds → Rp K H (.ref a) (.dict ((kvs.map fun kv => kD kv.1).zip ds))
mutual
theorem dp_plain {K : PySem.W.Frag} {H : Hp} : ∀ (d : PyData) (v : V), Dp K H v d → d.hasDict = false
  | .none, _, _ => rfl
  | .bool _, _, _ => rfl
  | .int _, _, _ => rfl
  | .str _, _, _ => rfl
  | .list ds, _, h => by cases h with | lst _ ha => exact dp_plainAll ds _ ha
  | .tuple ds, _, h => by cases h with | tup _ ha => exact dp_plainAll ds _ ha
  | .dict _, _, h => by cases h
theorem dp_plainAll {K : PySem.W.Frag} {H : Hp} : ∀ (ds : List PyData) (vs : List V), DpAll K H vs ds → PyData.hasDictAll ds = false
  | [], _, _ => rfl
  | d :: ds, _, h => by
    cases h with
    | cons h1 h2 => show (d.hasDict || PyData.hasDictAll ds) = false; rw [dp_plain d _ h1, dp_plainAll ds _ h2]; rfl
end
theorem key_reads {h : Heap} {k : Key} {v : Value} (e : keyIs k v = true) : Reads h v (kD k) [] := by
  rcases keyIs_shape e with ⟨i, t, rfl, rfl⟩ | ⟨x, t, rfl, rfl⟩
  · exact Reads.int i t
  · exact Reads.str x t
theorem pairs_reads {h : Heap} {P : Program} {w : World} : ∀ {es : List DictEntry} {kvs : List (Key × V)} {vs : List (Key × Value)}, KV kvs vs → Pairs (mixKind P w) es vs →
    ReadsAll h (es.map (·.key)) (kvs.map fun kv => kD kv.1) [] ∧ ∃ us, es.map (·.val) = us ∧ Vals (kvs.map (·.2)) us
  | _, _, _, .nil, .nil => ⟨.nil, [], rfl, .nil⟩
  | e :: es, kv :: kvs, v :: vs, .cons r t, .cons h1 h2 h3 => by
    obtain ⟨q1, us, q2, q3⟩ := pairs_reads (h := h) t h3
    rw [r.1.symm] at h1
    refine ⟨ReadsAll.cons (as := []) (key_reads h1) q1, e.val :: us, by rw [← q2]; rfl, .cons ?_ q3⟩
    rw [h2]; exact r.2
theorem zip_fst {α β : Type} : ∀ {l : List α} {m : List β}, l.length = m.length → (l.zip m).map (·.1) = l
  | [], [], _ => rfl
  | a :: l, b :: m, h => congrArg (a :: ·) (zip_fst (Nat.succ.inj h))
theorem zip_snd {α β : Type} : ∀ {l : List α} {m : List β}, l.length = m.length → (l.zip m).map (·.2) = m
  | [], [], _ => rfl
  | a :: l, b :: m, h => congrArg (b :: ·) (zip_snd (Nat.succ.inj h))
theorem Sc.len : ∀ {vs : List V} {ds : List PyData}, Sc vs ds → vs.length = ds.length
  | _, _, .nil => rfl
  | _, _, .non r => congrArg Nat.succ r.len
  | _, _, .bl _ r => congrArg Nat.succ r.len
  | _, _, .int _ r => congrArg Nat.succ r.len
  | _, _, .str _ r => congrArg Nat.succ r.len
section
variable {X : Cx} {pins : List (Addr × Obj)} {σ : L2.St} {H : Hp} {s : Shared}
theorem Rp.reads (I : Inv X pins σ H s) {v : V} {u : Value} {d : PyData} (h : Rp X.K H v d) (r : RelV v u) : ∃ as, Reads s.heap u d as ∧ (d.hasDict = true → sysModules ∉ as) := by
  cases h with
  | of h =>
    obtain ⟨as, q⟩ := Dp.reads I d v u h r
    exact ⟨as, q, fun z => by rw [dp_plain d v h] at z; cases z⟩
  | @dic a kvs ds h hs =>
    cases r
    obtain ⟨_, hne, vs, rel, o, es, ep, ho, hx, hd, _, hp, _⟩ := I.hok a _ h
    obtain ⟨q1, us, q2, q3⟩ := pairs_reads (h := s.heap) rel hp
    have hl : (kvs.map fun kv => kD kv.1).length = ds.length := by rw [← hs.len, List.length_map, List.length_map]
    refine ⟨_, Reads.dict ho hx.1 hd (by rw [zip_fst hl]; exact q1) (by rw [zip_snd hl, q2]; exact hs.reads q3), fun _ hm => ?_⟩
    have : sysModules = a := by simpa using hm
    rw [this] at hne; simp at hne
end
/-- repr(x) -/
def rRepr (K : PySem.W.Frag) : List V → Hp → VK → Prop := fun xs H Q => ∃ v d, xs = [v] ∧ Rp K H v d ∧ d.showable = true ∧ d.depth ≤ 60 ∧ d.shown.length ≤ sizeLine ∧ Q (.str d.shown) H
theorem cr_repr {X : Cx} {k : Nat} (hgd : X.A.guards = some []) (hr : Room k X.A) : CallR X (.builtin "repr") (rRepr X.K) := by
  rintro pins s σ H xs us Q I r ⟨v, d, rfl, hv, hs, hdp, hz, q⟩
  obtain ⟨u, rfl, ru⟩ := vals1 r
  obtain ⟨as, rd, hsm⟩ := hv.reads I ru
  have hun := hr.un
  have fin : ∀ {h' : Heap} {tk : Nat} {t : Tok}, (∀ b o, s.heap.get? b = some o → h'.get? b = some o) → EP X pins σ Q (.str d.shown t) { s with heap := h', toks := tk } :=
    fun kk => ⟨.str _, H, I.kept kk, ⟨_, rfl⟩, q⟩
  cases rd with
  | none => exact PySem.P.repr_of_none (fin (h' := s.heap) fun _ _ z => z)
  | bool b => exact PySem.P.repr_of_bool (by cases b <;> exact fin (h' := s.heap) fun _ _ z => z)
  | int i t => exact PySem.P.repr_of_int (of_decide_eq_true hs) (fin (h' := s.heap) fun _ _ z => z)
  | str x t => exact PySem.P.repr_of_str (fin (h' := s.heap) fun _ _ z => z) hz
  | list h1 h2 h3 h4 => exact repr_of_reads' (.list h1 h2 h3 h4) hs hsm hgd (by omega) (fun _ _ z => z) (fun h' u tk kk => fin kk) hz
  | tuple h1 h2 h3 h4 => exact repr_of_reads' (.tuple h1 h2 h3 h4) hs hsm hgd (by omega) (fun _ _ z => z) (fun h' u tk kk => fin kk) hz
  | dict h1 h2 h3 h4 h5 => exact repr_of_reads' (.dict h1 h2 h3 h4 h5) hs hsm hgd (by omega) (fun _ _ z => z) (fun h' u tk kk => fin kk) hz
end Ls

/-! The end of a law's proof whose def keeps its promise where no repr is under way. -/
namespace Ls
open PySem PySem.Spec PyProof.Rows L2
/-- what is wanted of the law's call -/
abbrev LawEnd (s₁ : Shared) : Result → Shared → Prop := fun r s' => r = .ok (.ret (.bool true)) ∧ OldK s₁.heap s'.heap ∧ s'.os = s₁.os ∧ AllBare s'.gens
section
variable {P : Program} {w : World} {K : PySem.W.Frag} {mg mb : Str → Option Value} {k : Nat} {fa a : Addr} {fd : FuncData} {x : Str} {sp : Sp} {s₁ : Shared} {vs : List Value} {ns : List Int}
/-- .. from an abstract heap H in which at most the script is tracked -/
theorem lawG_core (KX : K.In s₁.heap) (hns : s₁.heap.Ns mainGlobals mg) (hb : s₁.heap.Ns builtinsNs mb) (hbb : ∀ x : Str, x ≠ "__name__" → mb x = bootBuiltins x)
    (hlim : s₁.heap.NoLimit) (hg : s₁.gens = #[]) (ha : s₁.heap.get? a = some { cls := .type "list", data := .seq vs.toArray }) (hr : Room k callerA)
    (F : ∀ base : Heap, K.In base → base.Ns mainGlobals mg → FnG P w K mg base CX0 k fa fd [x] sp) (hbind : ∀ (s : Shared) (u : Value), BindsTo s fd ⟨[u], []⟩ [(x, u)])
    {H : Hp} (hO : Only H) (hok : HOk P w H s₁.heap) (hA : ∀ b, H b ≠ none → b = a) (hK : H a ≠ none → K.lookup a = none)
    (hsp : sp [.ref a] H (fun v _ => v = .bl true) fun _ _ _ => False) : codeAny (model P w) callerA (.call (.ref fa) ⟨[.ref a], []⟩) (LawEnd s₁) s₁ := by
  have keepB : ∀ {b : Addr} {o : Obj}, s₁.heap.get? b = some o → (b = a → H a = none) → (hidT s₁.heap H).get? b = some o := by
    intro b o e n; apply hidT_get e
    cases q : H b with
    | none => rfl
    | some u => have z := hA b (by rw [q]; simp); rw [z, n z] at q; cases q
  have dictB : ∀ {b : Addr} {o : Obj} {es : Array DictEntry} {ep : Nat}, s₁.heap.get? b = some o → o.data = .dict es ep → b = a → H a = none := by
    intro b o es ep e d z; rw [z, ha] at e; cases e; cases d
  have nsB : ∀ {b : Addr} {m : Str → Option Value}, s₁.heap.Ns b m → (hidT s₁.heap H).Ns b m := by
    rintro b m ⟨o, es, ep, e, d, r⟩; exact ⟨o, es, ep, keepB e (dictB e d), d, r⟩
  have hKb : K.In (hidT s₁.heap H) := by
    intro b o e; apply keepB (KX b o e); intro z
    cases q : H a with
    | none => rfl
    | some u => rw [z, hK (by rw [q]; simp)] at e; cases e
  obtain ⟨mc, l1, l2⟩ := hlim
  have e0 : Env0 P w K mg (hidT s₁.heap H) callerA [] s₁ H :=
    ⟨rfl, ⟨hKb, nsB hns, ⟨mb, nsB hb, hbb⟩, ⟨mc, nsB l1, l2⟩⟩, fun b o e => of_hidT e, Nat.le_of_eq (hidT_size _ _), trivial, fun b hb => (nomatch hb), hok, .of_eq hg⟩
  apply codeAny_mono ((F _ hKb (nsB hns)).run callerA [] s₁ H ⟨[.ref a], []⟩ [.ref a] [.ref a] _ _ rfl hr e0 (hbind s₁ (.ref a)) (.cons rfl .nil) hsp)
  intro r s' h; cases r with
  | error e => exact h.elim
  | ok fl => cases fl with
    | next => exact False.elim h
    | brk => exact False.elim h
    | cont => exact False.elim h
    | ret u =>
      obtain ⟨v, H', os, bare, un, hok', r', q⟩ := h
      have q' : v = .bl true := q
      subst q'; obtain rfl : u = Value.bool true := r'
      refine ⟨rfl, OldK.of_keep fun b o e => ?_, os, bare⟩
      cases q : H b with
      | none => exact un.keep b o e q (by simp [frs]) (by simp)
      | some u =>
        rcases hO b with z | ⟨ob, xs, z⟩
        · rw [q] at z; cases z
        · obtain ⟨e1, _⟩ := hok b _ z; obtain ⟨e2, _⟩ := hok' b _ (un.frzs b ob _ z)
          rw [e] at e1; cases e1; exact e2
theorem lawG_call (KX : K.In s₁.heap) (hns : s₁.heap.Ns mainGlobals mg) (hb : s₁.heap.Ns builtinsNs mb) (hbb : ∀ x : Str, x ≠ "__name__" → mb x = bootBuiltins x)
    (hlim : s₁.heap.NoLimit) (hg : s₁.gens = #[]) (ha : s₁.heap.get? a = some { cls := .type "list", data := .seq vs.toArray }) (hi : IntsAre vs ns) (hl : ns.length ≤ sizeLine) (hr : Room k callerA)
    (F : ∀ base : Heap, K.In base → base.Ns mainGlobals mg → FnG P w K mg base CX0 k fa fd [x] sp) (hbind : ∀ (s : Shared) (u : Value), BindsTo s fd ⟨[u], []⟩ [(x, u)])
    (hsp : ∀ H : Hp, Only H → SqL K H a (ns.map V.int) → sp [.ref a] H (fun v _ => v = .bl true) fun _ _ _ => False) :
    codeAny (model P w) callerA (.call (.ref fa) ⟨[.ref a], []⟩) (LawEnd s₁) s₁ := by
  have rv := vals_ints hi; have lenV := hi.length
  cases hk : K.lookup a with
  | some o =>
    have e := KX a o hk; rw [ha] at e; cases e
    have hO : Only (fun _ => none) := fun _ => .inl rfl
    exact lawG_core KX hns hb hbb hlim hg ha hr F hbind hO (fun b u z => by cases z) (fun b z => absurd rfl z) (fun z => absurd rfl z)
      (hsp _ hO (.inr ⟨_, vs.toArray, _, hk, rfl, rfl, rfl, by rw [List.size_toArray, lenV]; exact hl, by simpa using rv⟩))
  | none =>
    have hO : Only (fun b => if b = a then some (.frz { cls := .type "list", data := .seq vs.toArray } (.lst (ns.map V.int))) else none) := by
      intro b; by_cases hb : b = a
      · exact .inr ⟨_, _, if_pos hb⟩
      · exact .inl (if_neg hb)
    refine lawG_core KX hns hb hbb hlim hg ha hr F hbind hO (fun b u z => ?_) (fun b z => ?_) (fun _ => hk) (hsp _ hO (.inl (.inr ⟨_, if_pos rfl⟩)))
    · by_cases hb : b = a
      · have z' := (if_pos hb).symm.trans z; cases z'; subst hb
        exact ⟨ha, by rw [List.length_map]; exact hl, vs, _, rv, ha⟩
      · have z' := (if_neg hb).symm.trans z; cases z'
    · by_cases hb : b = a
      · exact hb
      · exact absurd (if_neg hb) z
end
theorem walk_ofG {l : PySem.W.OpenLaw} {n k : Nat} {q : Program} {loose : List Str} {XP : (Str → Option Value) → Heap → Prop} {YP : World → Heap → Prop} {d : DefRec} {K : Params → PySem.W.Frag} {sp : World → Sp} {x : Str}
    (hn : l.most = some n) (hn2 : n ≤ sizeLine) (hdf : d.params.defaults = []) (hr : Room k callerA) (hY : ∀ (w : World) (h : Heap), YP w h → (K w.params).In h)
    (F : ∀ (w : World) (mg : Str → Option Value) (fa : Addr) (h : Heap), (K w.params).In h → h.Ns mainGlobals mg → mg d.name = some (.ref fa) →
      ∃ fd : FuncData, (∀ (s : Shared) (u : Value), BindsTo s fd ⟨[u], []⟩ [(x, u)]) ∧
        ∀ base : Heap, (K w.params).In base → base.Ns mainGlobals mg → FnG l.prog w (K w.params) mg base CX0 k fa fd [x] (sp w))
    (hsp : ∀ (w : World) (H : Hp) (a : Addr) (ns : List Int), ns.length ≤ n → Only H → SqL (K w.params) H a (ns.map V.int) →
      sp w [.ref a] H (fun v _ => v = .bl true) fun _ _ _ => False) :
    PySem.W.WalkO q loose XP YP l.row.toRowW d [] (fun f vs => PySem.call f vs) := by
  apply Att.attach_call hn hdf
  intro w s₀ s₁ mg mb fa o pm cd doc a vs ns G Y ho hd hcd hmg hobj hints hlen hg
  obtain ⟨fd, hb, hF⟩ := F w mg fa _ (hY w _ Y) G.T.g hmg
  exact lawG_call (hY w _ Y) G.T.g G.T.b G.T.builtins G.T.nolimit hg hobj hints (Nat.le_trans hlen hn2) hr hF hb (fun H hO hS => hsp w H a ns hlen hO hS)
end Ls

/-! set(xs), xs a list of ints, as a set that sorted may read. -/
namespace Ls
open PySem PySem.Spec PyProof.Rows L2
/-- the empty set as set() makes it -/
abbrev eS (w : World) : Obj := { cls := .type "set", dict := none, data := .set #[] 0 (.fresh 0 0 (!w.params.followText "set-order")) }
section
variable {P : Program} {w : World} {A : Around} {E : Value → Shared → Prop} {s : Shared}
/-- what is left of set(xs) -/
def Got (w : World) (s : Shared) (ns : List Int) (s₂ : Shared) : Prop :=
  ∃ h' tk c, s₂ = { s with heap := h', toks := tk } ∧ SetR w h' s.heap.objs.size (fun j => decide (j ∈ ns)) c ∧ c ≤ ns.length ∧ (∀ b o, s.heap.get? b = some o → h'.get? b = some o)
theorem call_set_ints {l : Addr} {items : Array Value} (ns : List Int) {Q : Value → Shared → Prop} (hh : A.handled = none) (hl : s.heap.IsList l items)
    (hit : IntsAre items.toList ns) (hb : ns.length + 1 < scanBound) (h : ∀ s₂, Got w s ns s₂ → Q (.ref s.heap.objs.size) s₂) :
    wpAny (model P w) A (call (.type "set") [.ref l]) Q E s := by
  have hisz : items.size = ns.length := by rw [← hit.length, Array.length_toList]
  obtain ⟨c, tl, hmro⟩ := F.called_set.mro
  have h0 := F.called_set.made; have hsub := F.called_set.sub
  apply wpAny_call; apply codeAny_of_tree
  show wpAny _ _ (callAny (.type "set") _) _ _ _
  refine wpAny_pure ⟨Code.quiet_builtin _ (by decide +kernel), ?_⟩
  apply codeAny_builtin F.entry_type_call
  rw [Around.under_plain (weight_type_call_type "set" [.ref l] []) rfl]
  have h1 := F.called_set.notType; have h2 := F.called_set.canCreate; have hct := F.typeCall_set_1 (.ref l)
  repeat (any_goals (first | assumption | wp_step))
  apply codeAny_mono (code_set_led1 (.ref l) (E := E) (Q₁ := fun ob s₁ => ob = .ref s.heap.objs.size ∧ s₁ = { s with heap := s.heap.push (eS w) }) ⟨rfl, rfl⟩)
  intro r s₁ hr; cases r with
  | error e => exact hr
  | ok fl => cases fl with
    | ret ob =>
      obtain ⟨rfl, rfl⟩ := hr
      have hS : (s.heap.push (eS w)).get? s.heap.objs.size = some (eS w) := Heap.get?_push_size _ rfl
      have hT : Shared.TypeIs { s with heap := s.heap.push (eS w) } (.ref s.heap.objs.size) "set" := ⟨_, hS, rfl⟩
      have hli := F.called_set.init.lookup; have hbi := F.called_set.init.bind (.ref s.heap.objs.size)
      repeat (any_goals (first | assumption | wp_step))
      apply codeAny_mono (codeAny_call_builtin (R := wants (fun r s₂ => r = .none ∧ Got w s ns s₂) E) F.called_set.init.plain F.entry_set_init (check_set_init_1 hT ?_))
      · intro r₂ s₂ hr₂; cases r₂ with
        | error e => exact hr₂
        | ok fl₂ => cases fl₂ with
          | ret r =>
            obtain ⟨rfl, hg⟩ := hr₂
            repeat (any_goals (first | assumption | wp_step))
            exact h _ hg
          | _ => exact hr₂.elim
      · obtain ⟨ol, hol, hcl, nl, hdl⟩ := hl
        obtain ⟨ocls, odict, odata, oslots⟩ := ol
        simp only at hcl hdl; subst hcl; subst hdl
        have hol' : (s.heap.push (eS w)).get? l = some { cls := .type "list", dict := odict, data := .seq items nl, slots := oslots } := Heap.get?_push_of_some _ hol
        have q1 := PySem.F.sub_list_set; have q2 := PySem.F.sub_list_frozenset
        have q3 : (Value.type "list" == Value.type "dict") = false := by decide
        have hl1 : (s.heap.push (eS w)).IsList l items := ⟨_, hol', rfl, nl, rfl⟩
        unfold Builtin.«set.__init__» noKeywords Builtin.Frozenset.updateFrom
        generalize hPI : pyIter = PI
        wp_walk
        subst hPI
        apply wpAny_pyIter_list hl1
        apply wpAny_bind; apply wpAny_runValue
        have hlS : l < s.heap.objs.size := Heap.lt_size hol
        have hh3 : A.in1.in1.in1.handled = none := hh
        have hz : (s.heap.push (eS w)).objs.size = s.heap.objs.size + 1 := Heap.size_push ..
        have hneI : l ≠ (s.heap.push (eS w)).objs.size := by rw [hz]; exact Nat.ne_of_lt (Nat.lt_succ_of_lt hlS)
        have hSf : s.heap.objs.size ∉ [(s.heap.push (eS w)).objs.size, l] := by
          rw [hz]; simp only [List.mem_cons, List.not_mem_nil, or_false, not_or]
          exact ⟨Nat.ne_of_lt (Nat.lt_succ_self _), Nat.ne_of_gt hlS⟩
        have hval : ∀ (i : Nat) (v : Value), items[i]? = some v → ∃ k t, ns[i]? = some k ∧ v = .int k t := by
          intro i v hv
          have hi : i < ns.length := by rw [← hisz]; exact (Array.getElem?_eq_some_iff.mp hv).1
          obtain ⟨t, e⟩ := IntsAre.int_at hit i v (by rw [Array.getElem?_toList]; exact hv)
          refine ⟨ns[i], t, List.getElem?_eq_getElem hi, ?_⟩
          rw [e, List.getD_eq_getElem?_getD, List.getElem?_eq_getElem hi]; rfl
        have hget : ((s.heap.push (eS w)).push { cls := .type "list_iterator", data := .fields #[.ref l, .int 0 0] }).get? s.heap.objs.size = some (eS w) := Heap.get?_push_of_some _ hS
        refine set_update_ints ((Walks.list hh3 _ l hneI items).toS) s.heap.objs.size hSf ns hisz hb hval (items.size - 0) 0 _ (by omega) (Nat.zero_le _)
          ⟨⟨_, Heap.get?_push_size _ rfl, rfl, rfl⟩, (hl1.push _)⟩ ⟨0, Nat.le_refl 0, setR_new_at hget⟩ ?_
        rintro ⟨h', g2, d', tk', os'⟩ c' hm hc' hS'
        have eg : g2 = s.gens := hm.gens
        have ed : d' = s.drawn := hm.drawn
        have eo : os' = s.os := hm.os
        subst eg; subst ed; subst eo
        show wpAny _ _ _ _ _ _
        apply wpAny_pure; show wpAny _ _ (ret Value.none) _ _ _
        apply wpAny_pure
        refine ⟨rfl, h', tk', c', rfl, hS', hisz ▸ hc', fun b o e => ?_⟩
        have hb0 : b < s.heap.objs.size := Heap.lt_size e
        exact hm.heap b o (by rw [hz]; simp only [List.mem_cons, List.not_mem_nil, or_false, not_or]; exact ⟨Nat.ne_of_lt hb0, Nat.ne_of_lt (Nat.lt_succ_of_lt hb0)⟩) (Heap.get?_push_of_some _ (Heap.get?_push_of_some _ e))
    | _ => exact hr.elim
end
theorem ints_of : ∀ {ns : List Int} {us : List Value}, Vals (ns.map V.int) us → IntsAre us ns
  | [], _, .nil => .nil
  | n :: ns, _, .cons r t => by obtain ⟨k, rfl⟩ := r; exact .cons n k (ints_of t)
section
variable {X : Cx}
/-- set(xs), xs a list of ints -/
def rSetI (K : PySem.W.Frag) (w : World) : List V → Hp → VK → Prop := fun xs H Q => ∃ (l : Addr) (ns : List Int), xs = [V.ref l] ∧ SqL K H l (ns.map V.int) ∧ ns.length < 1000 ∧
  ∀ p c, H p = none → c ≤ ns.length → Q (.ref p) (upd H p (SetO w p (fun j => decide (j ∈ ns)) c))
theorem cr_setI (hc : X.calm = true) : CallR X (.type "set") (rSetI X.K X.w) := by
  rintro pins s σ H xs us Q I r ⟨l, ns, rfl, hl, hn, q⟩
  rw [Vals.ref1 r]
  obtain ⟨its, rv, pl, hz⟩ := I.list hl
  apply call_set_ints ns (I.ok.hd hc) pl.isList (by simpa using ints_of rv) (by unfold scanBound; omega)
  rintro _ ⟨h', tk, c, rfl, hS, hcn, k⟩
  exact ⟨.ref s.heap.objs.size, _, I.laid (t' := tk) k (Nat.le_refl _) (setO_new hS), rfl, q _ c (I.hok.fresh (Nat.le_refl _)) hcn⟩
end
end Ls

/-! sorted(s), s a set of ints of any size. -/
namespace Ls
open PySem PySem.Spec PyProof.Rows L2
section
variable {P : Program} {w : World} {A : Around} {E : Value → Shared → Prop} {s : Shared} {a : Addr}
theorem sorted_setW {S : Int → Bool} {n : Nat} {Q : Value → Shared → Prop} (R : SetR w s.heap a S n) (hh : A.handled = none) (hn9 : n < 100000)
    (hQ : ∀ s' p (out : List Value) (c : Nat) (ns : List Int), (∀ b o, s.heap.get? b = some o → s'.heap.get? b = some o) → s'.gens = s.gens → s'.os = s.os → s.heap.objs.size ≤ p →
      s'.heap.get? p = some (seqObj "list" out.toArray c) → IntsAre out ns → ns.Pairwise (· ≤ ·) → ns.Nodup → (∀ k, k ∈ ns ↔ S k = true) → ns.length = n → Q (.ref p) s') :
    wpAny (model P w) A (call (.builtin "sorted") [.ref a]) Q E s := by
  obtain ⟨o, es, ep, t, ho, hex, hd, g, nd, hm, hb, hf, hn, hr, hl⟩ := R
  apply Calls.call_function_entry kind_sorted plain_sorted entry_sorted (args_sorted1 _)
  unfold Builtin.«sorted»
  apply wpAny_bind (m := checkCount "sorted" 1 1 _); apply wpAny_pure
  apply wpAny_bind; apply collect_set (A := A.in1) hh ⟨o, ho, hex.1, hd⟩ hf hb hr hl
  intro s1 vs k1 hz g1 o1 pm
  have hvl : vs.length = n := by rw [pm.length_eq, List.length_map, Array.length_toList]; exact hn
  have hvz : vs.length ≤ sizeLine := by rw [hvl, sizeLine_eq]; omega
  have hI : IntsAre vs (vs.map SrtO.iv) := by
    apply SrtO.ints_iv; intro v hv
    obtain ⟨e, he, q⟩ := List.mem_map.mp (pm.mem_iff.mp hv)
    obtain ⟨k, tk, h1, _⟩ := g e he; exact ⟨k, tk, by rw [← q]; exact h1⟩
  have pk : (vs.map SrtO.iv).Perm (es.toList.map keyOf) := by
    have q := pm.map SrtO.iv; rw [List.map_map] at q
    refine q.trans (List.Perm.of_eq (List.map_congr_left fun e he => ?_))
    obtain ⟨k, tk, h1, _⟩ := g e he
    show SrtO.iv e.2 = keyOf e
    unfold keyOf; rw [h1]; rfl
  apply wpAny_bind; refine wpAny_newList ?_ hvz
  have hoL : (s1.heap.push (seqObj "list" vs.toArray 0)).get? s1.heap.objs.size = some (seqObj "list" vs.toArray 0) := Heap.get?_push_size _ rfl
  apply wpAny_bind; apply wpAny_holding
  refine wpAny_call_entry slot_list_sort ⟨_, hoL, rfl⟩ entry_list_sort (SrtO.list_sort_ord SrtO.swo_int hoL hvz (fun h2 => SrtO.ints_sortable hI h2) fun out a1 a2 => ⟨_, rfl, ?_⟩) (args_list_sort _)
  obtain ⟨q1, q2, q3⟩ := SrtO.ints_out hI a1 a2
  obtain ⟨c, hc⟩ := sortedHeap_at (vs := vs) (out := out.toArray) hoL
  have pn : (out.map SrtO.iv).Perm (es.toList.map keyOf) := q2.trans pk
  apply wpAny_pure; refine ⟨_, rfl, hQ _ s1.heap.objs.size out c _ (fun b u e => ?_) g1 o1 hz hc q1 q3 (pn.nodup_iff.mpr nd) (fun k => by rw [pn.mem_iff, ← hm k]) ?_⟩
  · have q := k1 b u e; have hlt := Heap.lt_size q
    show (sortedHeap (s1.heap.push (seqObj "list" vs.toArray 0)) s1.heap.objs.size vs out.toArray).get? b = some u
    rw [sortedHeap_old (Nat.ne_of_lt hlt) (by rw [size_push']; exact Nat.lt_succ_of_lt hlt)]
    exact Heap.get?_push_of_some _ q
  · rw [pn.length_eq, List.length_map, Array.length_toList]; exact hn
end
section
variable {X : Cx}
/-- sorted(s), s a set of ints -/
def rSortSet (w : World) : List V → Hp → VK → Prop := fun vs H Q => ∃ (a : Addr) (S : Int → Bool) (n : Nat), vs = [V.ref a] ∧ H a = some (SetO w a S n) ∧ n < 100000 ∧
  ∀ (ns : List Int) (p : Addr), ns.Pairwise (· ≤ ·) → ns.Nodup → (∀ k : Int, k ∈ ns ↔ S k = true) → ns.length = n → H p = none → Q (.ref p) (upd H p (.lst (ns.map V.int)))
theorem cr_sortSet (hc : X.calm = true) : CallR X (.builtin "sorted") (rSortSet X.w) := by
  rintro pins s σ H vs us Q I r ⟨a, S, n, rfl, ha, hn9, q⟩
  have R := setO_get I ha
  rw [Vals.ref1 r]
  apply sorted_setW R (I.ok.hd hc) hn9
  intro s' p out c ns k g o hp hg hi hs hnd hm hl
  have hlen : (ns.map V.int).length ≤ sizeLine := by rw [List.length_map, hl, sizeLine_eq]; omega
  have hn : H p = none := I.hok.fresh hp
  have J : Inv X pins σ (upd H p (.lst (ns.map V.int))) { s with heap := s'.heap, gens := s'.gens, drawn := s'.drawn, toks := s'.toks } :=
    I.call (ch := []) (Un.laid k hp hn) (I.hok.laid k hp ⟨hlen, out, c, vals_ints hi, hg⟩) (by rw [g]; exact I.bare) (fun _ z => nomatch z)
  have e : s' = { s with heap := s'.heap, gens := s'.gens, drawn := s'.drawn, toks := s'.toks } := by cases s'; cases s; cases o; rfl
  rw [e]; exact ⟨.ref p, _, J, rfl, q ns p hs hnd hm hl hn⟩
end
end Ls

/-! zip(t, l), t a tuple and l a list. -/
namespace Ls
open PySem PySem.Spec PyProof.Rows L2
/-- the turns of zip over the tuple at a and the list at b -/
def ItzM (K : PySem.W.Frag) (a b : Addr) : It :=
  ⟨fun i H => ∃ (xs ys : List V) (x y : V), SqT K H a xs ∧ SqL K H b ys ∧ xs[i]? = some x ∧ ys[i]? = some y,
    fun i H v H' => ∃ T x y, v = .ref T ∧ H T = none ∧ H' = upd H T (.tup [x, y]) ∧ (∀ xs, SqT K H a xs → xs[i]? = some x) ∧ ∀ ys, SqL K H b ys → ys[i]? = some y,
    fun i H => ∃ xs ys : List V, SqT K H a xs ∧ SqL K H b ys ∧ xs.length = ys.length ∧ i = xs.length⟩
theorem zM_mem {z TI TO i1 i2 c : Addr} (h : c ∈ [z, TI, TO, i1, i2]) : c = z ∨ c = TI ∨ c = TO ∨ c = i1 ∨ c = i2 := by simpa using h
theorem turn_zipM {P : Program} {w : World} {K : PySem.W.Frag} {elts : List Expr} {kk : Nat} {tpos : Pos} {a b z TI TO i1 i2 : Addr} (S : ZipSep2 z TI TO i1 i2 [i1, a] [i2, b]) (na : a ≠ i1) (nb : b ≠ i2) :
    Turn P w K (.Tuple elts kk tpos) (ItzM K a b) [z, TI, TO, i1, i2] z (fun i h => IsZip h z TI TO .none ∧ IsTupOf2 h TI (.ref i1) (.ref i2) ∧ (∃ x y, IsTupOf2 h TO x y) ∧ h.IsTupleIter i1 a i ∧ h.IsListIter i2 b i) where
  mem := List.mem_cons_self
  obj := by
    rintro i h ⟨hz, hTI, ⟨x, y, hTO⟩, ⟨o1, e1, _, d1⟩, ⟨o2, e2, _, d2⟩⟩ c hc
    rcases zM_mem hc with q | q | q | q | q <;> rw [q]
    · exact ⟨_, hz, fun v q => nomatch q⟩
    · exact ⟨_, hTI, fun v q => nomatch q⟩
    · exact ⟨_, hTO, fun v q => nomatch q⟩
    · exact ⟨o1, e1, fun v q => by rw [d1] at q; cases q⟩
    · exact ⟨o2, e2, fun v q => by rw [d2] at q; cases q⟩
  keep := by
    rintro i h h' ⟨hz, hTI, ⟨x, y, hTO⟩, h1, h2⟩ k
    exact ⟨k z (by simp) _ hz, k TI (by simp) _ hTI, ⟨x, y, k TO (by simp) _ hTO⟩, h1.at fun o q => k i1 (by simp) o q, h2.at fun o q => k i2 (by simp) o q⟩
  item := by
    rintro X hP hw hK hc i pins s σ H E I hf ⟨hz, hTI, ⟨x0, y0, hTO⟩, h1, h2⟩ ⟨xs, ys, x, y, hqx, hqy, hx, hy⟩
    subst hP hw hK
    obtain ⟨its, rv, p, _⟩ := I.tuple hqx; obtain ⟨its2, rv2, p2, _⟩ := I.list hqy
    obtain ⟨u, hu, ru⟩ := rv.get hx; obtain ⟨u2, hu2, ru2⟩ := rv2.get hy
    have hzl : z < s.heap.objs.size := Heap.lt_size hz
    have hh : X.A.in1.handled = none := I.ok.hd hc
    have e1 : its.toArray[i]? = some u := by simpa using hu
    have e2 : its2.toArray[i]? = some u2 := by simpa using hu2
    apply wpAny_pyNext_zipD2_item S (Draws.tuple hh i1 a na its.toArray) (Draws.list hh i2 b nb its2.toArray) hz hTI hTO ⟨h1, p⟩ ⟨h2, p2.isList⟩
      (Array.getElem?_eq_some_iff.mp e1).1 (Array.getElem?_eq_some_iff.mp e2).1
    intro v1 v2 h' tk q1 q2 z' TO' st1 st2 hT hsz hk
    rw [e1] at q1; rw [e2] at q2; cases q1; cases q2
    refine ⟨_, rfl, wpAny_letOwnedTupleGo_zip (s := { s with heap := h', toks := tk }) z' fun h'' z'' sb => ?_⟩
    have nz : s.heap.objs.size ≠ z := Nat.ne_of_gt hzl
    have hT2 : h''.get? s.heap.objs.size = some { cls := .type "tuple", data := .seq #[u, u2] } := (sb.2 _ nz).trans hT
    have nw : ObjOk X.prog X.w (upd H s.heap.objs.size (.tup [x, y])) h'' s.heap.objs.size (.tup [x, y]) :=
      ⟨by show 2 ≤ sizeLine; decide, [u, u2], .cons ru (.cons ru2 .nil), ⟨_, hT2, rfl, _, rfl⟩⟩
    have kk : ∀ c o, c ∉ [z, TI, TO, i1, i2] → s.heap.get? c = some o → h''.get? c = some o := fun c o hb q =>
      (sb.2 c (fun q' => hb (by simp [q']))).trans (hk c o (fun q' => hb (by simp [q'])) (fun q' => hb (by simp [q'])) (fun q' => hb (by simp [q'])) (fun q' => hb (by simp [q'])) q)
    have hn : H s.heap.objs.size = none := I.hok.fresh (Nat.le_refl _)
    refine ⟨.ref s.heap.objs.size, _, I.turnedNew (t' := tk) (ch := [z, TI, TO, i1, i2]) kk hf (Nat.le_refl _) nw, rfl, ⟨_, x, y, rfl, hn, rfl, fun l hl => by rw [I.tuple_inj hl hqx]; exact hx, fun l hl => by rw [I.list_inj hl hqy]; exact hy⟩, ?_, ?_⟩
    · refine ⟨z'', (sb.2 _ S.TIz).trans (hk _ _ S.TIz S.TITO S.TIi1 S.TIi2 hTI), ⟨u, u2, (sb.2 _ S.TOz).trans TO'⟩, st1.1.at fun o q => ?_, st2.1.at fun o q => ?_⟩
      · exact (sb.2 _ S.zi1.symm).trans q
      · exact (sb.2 _ S.zi2.symm).trans q
    · intro c hcm
      have hlt : c < s.heap.objs.size := by
        rcases zM_mem hcm with q | q | q | q | q <;> rw [q]
        · exact hzl
        · exact Heap.lt_size hTI
        · exact Heap.lt_size hTO
        · obtain ⟨_, q1, _⟩ := h1; exact Heap.lt_size q1
        · obtain ⟨_, q2, _⟩ := h2; exact Heap.lt_size q2
      rw [upd_ne (Nat.ne_of_lt hlt)]; exact (hf c hcm).1
  done := by
    rintro X hP hw hK hc i pins s σ H E I hf ⟨hz, hTI, ⟨x0, y0, hTO⟩, h1, h2⟩ ⟨xs, ys, hqx, hqy, hl, hi⟩
    subst hP hw hK
    obtain ⟨its, rv, p, _⟩ := I.tuple hqx; obtain ⟨its2, rv2, p2, _⟩ := I.list hqy
    have hh : X.A.in1.handled = none := I.ok.hd hc
    have l1 : i = its.toArray.size := by rw [List.size_toArray, ← rv.length]; exact hi
    have l2 : i = its2.toArray.size := by rw [List.size_toArray, ← rv2.length, ← hl]; exact hi
    apply wpAny_pyNext_zipD2_end S (Draws.tuple hh i1 a na its.toArray) (Draws.list hh i2 b nb its2.toArray) hz hTI hTO ⟨h1, p⟩ ⟨h2, p2.isList⟩ (Nat.le_of_eq l1) (Nat.le_of_eq l2) (.inl l1)
    intro h' tk hk
    exact ⟨rfl, I.turnedL (t' := tk) (ch := [z, TI, TO, i1, i2]) (fun c o hb q => hk c o (fun q' => hb (by simp [q'])) (fun q' => hb (by simp [q'])) (fun q' => hb (by simp [q'])) (fun q' => hb (by simp [q'])) q) hf⟩
  self := fun A i s Q E st h => wpAny_pyIter_zip st.1 h
def iZipM (K : PySem.W.Frag) (ta : TA) : TI := fun σ H R => ta σ H fun vs H1 => ∃ a b xs ys, vs = [.ref a, .ref b] ∧ SqT K H1 a xs ∧ SqL K H1 b ys ∧ R (ItzM K a b) H1
theorem pi_zipM {X : Cx} {e e2 : Expr} {ta : TA} {p pos tpos : Pos} {elts : List Expr} {kk : Nat} (hg : Gl X "zip") (hm : X.mg "zip" = none) (ha : PA X [e, e2] ta)
    (hs : starEach [e, e2] X.env = (false, eval e X.env) :: starEach [e2] X.env := by rfl) (hpl : (backTo pos (starEach [e2] X.env)).any (·.1) = false := by rfl) :
    PI X (.Tuple elts kk tpos) (.Call (.Name "zip" p) [e, e2] [] pos) (iZipM X.K ta) := by
  constructor; intro pins s σ H R I h
  refine Call_ (ld_blt I hg hm PyProof.Rows.boot_zip ?_)
  apply PyProof.Rows.callWith_type1 _ hs hpl
  apply thn (ha.run pos pins s σ H _ I h)
  rintro us s1 ⟨vs, H1, I1, r1, a, b, xs, ys, rfl, hqx, hqy, q⟩
  obtain ⟨ua, ub, rfl, ra, rb⟩ := vals2 r1
  cases ra; cases rb
  obtain ⟨its, rv, p1, _⟩ := I1.tuple hqx; obtain ⟨its2, rv2, p2, _⟩ := I1.list hqy
  have la : a < s1.heap.objs.size := by obtain ⟨o, ho, _⟩ := id p1; exact Heap.lt_size ho
  have lb : b < s1.heap.objs.size := p2.lt
  apply zip_begins2 (begins_tuple a its.toArray) (begins_list b its2.toArray) p1 p2.isList
  intro h' hz hTI hTO h1 h2 hsz hk
  apply wpAny_pyIter_zip hz
  have fr : ∀ c, c ∈ [s1.heap.objs.size + 4, s1.heap.objs.size + 2, s1.heap.objs.size + 3, s1.heap.objs.size, s1.heap.objs.size + 1] → FpOk X pins H1 c := fun c hcm => by
    have hle : s1.heap.objs.size ≤ c := by
      rcases zM_mem hcm with z | z | z | z | z <;> rw [z] <;> first | exact Nat.le_add_right _ _ | exact Nat.le_refl _
    exact I1.fpOk hle (I1.hok.fresh hle)
  exact ⟨_, _, _, _, H1, rfl, I1.kept (t' := s1.toks) hk, turn_zipM (zip_sep2 (N := s1.heap.objs.size) (fp1 := [a]) (fp2 := [b]) (by simpa using la) (by simpa using lb)) (Nat.ne_of_lt la) (Nat.ne_of_lt (Nat.lt_succ_of_lt lb)),
    ⟨hz, hTI, ⟨_, _, hTO⟩, ⟨_, h1, rfl, rfl⟩, ⟨_, h2, rfl, rfl⟩⟩, fr, q⟩
/-- [.. for c, d in zip(t, l)], both of one length -/
theorem lc_zipM {K : PySem.W.Frag} {a b : Addr} {xs ys : List V} {g : TG} {tt : TT} {te : TE} {vs : List Nat} {σ : L2.St} {H1 : Hp} {D : Addr} {Qd : Hp → Prop} (hl : xs.length = ys.length) (Pv : Nat → Hp → Prop)
    (h0 : Pv 0 (upd H1 D (.lst []))) (hq : ∀ i H, i ≤ xs.length → Pv i H → SqT K H a xs ∧ SqL K H b ys)
    (hs : ∀ i x y T H, xs[i]? = some x → ys[i]? = some y → Pv i H → H T = none → g (.ref T) (wipe σ vs) (upd H T (.tup [x, y])) fun σ2 H2 => wipe σ2 vs = wipe σ vs ∧ tt σ2 H2 fun b H3 =>
      if b = true then te σ2 H3 fun y H4 => ∃ acc, H4 D = some (.lst acc) ∧ acc.length < sizeLine ∧ Pv (i + 1) (upd H4 D (.lst (acc ++ [y]))) else Pv (i + 1) H3)
    (hd : ∀ H, Pv xs.length H → Qd H) :
    ∃ W : Nat → Nat → Hp → Prop, (∃ m, W 0 m (upd H1 D (.lst []))) ∧ ∀ i m H, W i m H →
      ((ItzM K a b).stop i H ∧ Qd H) ∨ ((ItzM K a b).go i H ∧ ∃ Nx : Hp → Prop, (∀ H', Nx H' → ∃ m', m' < m ∧ W (i + 1) m' H') ∧ ∀ x H', (ItzM K a b).yld i H x H' → g x (wipe σ vs) H' fun σ2 H2 => wipe σ2 vs = wipe σ vs ∧ tt σ2 H2 fun b H3 =>
        if b = true then te σ2 H3 fun y H4 => ∃ acc, H4 D = some (.lst acc) ∧ acc.length < sizeLine ∧ Nx (upd H4 D (.lst (acc ++ [y]))) else Nx H3) := by
  refine ⟨fun i m H => m = xs.length - i ∧ i ≤ xs.length ∧ Pv i H, ⟨xs.length, rfl, Nat.zero_le _, h0⟩, ?_⟩
  rintro i m H ⟨rfl, hi, p⟩
  obtain ⟨qx, qy⟩ := hq i H hi p
  by_cases c : i < xs.length
  · have ex : xs[i]? = some xs[i] := List.getElem?_eq_getElem c
    have ey : ys[i]? = some (ys[i]'(hl ▸ c)) := List.getElem?_eq_getElem _
    refine .inr ⟨⟨xs, ys, _, _, qx, qy, ex, ey⟩, Pv (i + 1), fun H' z => ⟨_, by omega, rfl, by omega, z⟩, ?_⟩
    rintro v H' ⟨T, x, y, rfl, hT, rfl, gx, gy⟩
    exact hs i x y T H (gx xs qx) (gy ys qy) p hT
  · have e : i = xs.length := by omega
    exact .inl ⟨⟨xs, ys, qx, qy, hl, e⟩, hd H (e ▸ p)⟩
end Ls

/-! Calls that may raise inside a try: makers and methods, with and without keywords; what they let out is looked at where it happens. -/
namespace Ls
open PySem PySem.Spec PyProof.Rows L2
/-- positional binding, seen as one with no keywords -/
theorem kbn_of {K : PySem.W.Frag} {fd : FuncData} {ps : List Str} {n : Nat} {dvs : List V} {ds : List Value} (hb : Binds K fd ps ds) (hd : Vals dvs ds) (hn : n + ds.length = ps.length) :
    KBn K fd ps n [] (fun us _ => us ++ ds) (fun vs _ => vs ++ dvs) :=
  ⟨fun s us _ hK hl _ => hb s us hK (by rw [List.length_append, hl]; exact hn), fun r _ => r.append hd⟩
section
variable {X : Cx} {CX : CXT} {k n : Nat} {f C : Addr} {fd : FuncData} {ps ks : List Str} {sp : Sp} {E : L2.St → XK} {x m : Str} {p pos apos : Pos}
  {e o : Expr} {es : List Expr} {kws : List Keyword} {ta : TE} {t tk : TA} {g : List Value → List Value → List Value} {gV : List V → List V → List V}
/-- behind the callee -/
theorem after_at {pins : List (Addr × Obj)} {σ : L2.St} {H : Hp} {s : Shared} {Q : VK} {E : XK} (hx : PassesAt CX X σ E) (I : Inv X pins σ H s) (r : Except Value Flow) (s' : Shared) (hq : CR CX X.stack X.prog X.w H s Q E r s') :
    match r with | .error er => X.xe er s' | .ok (.ret u) => EP X pins σ Q u s' | .ok _ => False := by
  cases r with
  | error er => exact hx pins H s er s' I hq
  | ok fl =>
    cases fl <;> first | exact I.after hq | exact False.elim hq
theorem run_at {pins : List (Addr × Obj)} {σ : L2.St} {H : Hp} {s : Shared} {Q : VK} {us ws : List Value} {vs zs : List V} (F : FnOk X.prog X.w X.K X.mg X.base CX k f fd ps sp) (hr : Room k X.A)
    (hb : KBn X.K fd ps n ks g gV) (hx : PassesAt CX X σ (E σ)) (I : Inv X pins σ H s) (rv : Vals vs us) (rz : Vals zs ws) (l1 : vs.length = n) (l2 : zs.length = ks.length) (h : sp (gV vs zs) H Q (E σ)) :
    wpAny (model X.prog X.w) X.A (call (.ref f) us (ks.zip ws)) (EP X pins σ Q) X.xe s := by
  have b := hb.to s us ws I.kIn (rv.length.symm.trans l1) (rz.length.symm.trans l2)
  apply wpAny_call
  apply codeAny_mono (F.run X.A X.stack s H ⟨us, ks.zip ws⟩ (g us ws) (gV vs zs) Q (E σ) hr I.env0 b (hb.rel rv rz) h)
  intro r s' hq
  have z := after_at hx I r s' hq
  cases r with
  | error er => exact z
  | ok fl => cases fl <;> first | exact z | exact False.elim z
theorem make_at {pins : List (Addr × Obj)} {σ : L2.St} {H : Hp} {s : Shared} {Q : VK} {us ws : List Value} {vs zs : List V} (M : Mk X.K C f) (F : FnOk X.prog X.w X.K X.mg X.base CX k f fd ps sp) (hr : Room (k + 1) X.A)
    (hb : KBn X.K fd ps (n + 1) ks g gV) (hx : PassesAt CX X σ (E σ)) (I : Inv X pins σ H s) (rv : Vals vs us) (rz : Vals zs ws) (l1 : vs.length = n) (l2 : zs.length = ks.length)
    (h : ∀ y dy, H y = none → H dy = none → dy ≠ y → sp (gV (.ref y :: vs) zs) (upd (upd H dy (.own y)) y (.ins C dy [])) (fun v H2 => v = .non ∧ Q (.ref y) H2) (E σ)) :
    wpAny (model X.prog X.w) X.A (call (.ref C) us (ks.zip ws)) (EP X pins σ Q) X.xe s := by
  have J := Inv.made (C := C) I
  generalize hN : s.heap.objs.size = N at J h ⊢
  have hfree : ∀ j, N ≤ j → H j = none := fun j hj => I.hok.fresh (hN ▸ hj)
  have promise := h (N + 1) N (hfree _ (Nat.le_succ N)) (hfree _ (Nat.le_refl N)) (Nat.ne_of_lt (Nat.lt_succ_self N))
  have rv' : Vals (V.ref (N + 1) :: vs) (Value.ref (N + 1) :: us) := .cons rfl rv
  have bound := hb.to _ (Value.ref (N + 1) :: us) ws J.kIn (rv'.length.symm.trans (congrArg Nat.succ l1)) (rz.length.symm.trans l2)
  have body := F.run _ X.stack _ _ ⟨Value.ref (N + 1) :: us, ks.zip ws⟩ _ _ _ (E σ) (hr.make C us (ks.zip ws)) (J.env0.make C us (ks.zip ws)) bound (hb.rel rv' rz) promise
  subst hN
  apply wpAny_call
  apply make_map (f := f) I.kIn M.makes M.init (beq_iff_eq.mp M.fn)
  apply codeAny_mono body
  intro r s' hq
  cases r with
  | error er => exact hx pins _ _ er s' J hq
  | ok fl =>
    cases fl with
    | ret u => obtain ⟨v, H', I3, rv3, ev, q3⟩ := J.after hq; subst ev; exact ⟨rv3, V.ref (s.heap.objs.size + 1), H', I3, rfl, q3⟩
    | next => exact False.elim hq
    | brk => exact False.elim hq
    | cont => exact False.elim hq
/-- the reading of C(e, .., k = v, ..) where it may raise -/
def tMakeS (C : Addr) (n m : Nat) (sp : Sp) (gV : List V → List V → List V) (E : L2.St → XK) (t tk : TA) : TE := fun σ H Q =>
  t σ H fun vs H1 => tk σ H1 fun zs H2 => vs.length = n ∧ zs.length = m ∧
    ∀ y dy, H2 y = none → H2 dy = none → dy ≠ y → sp (gV (.ref y :: vs) zs) (upd (upd H2 dy (.own y)) y (.ins C dy [])) (fun v H3 => v = .non ∧ Q (.ref y) H3) (E σ)
/-- C(k = v, ..) -/
theorem pe_mkKS (M : Mk X.K C f) (F : FnOk X.prog X.w X.K X.mg X.base CX k f fd ps sp) (hr : Room (k + 1) X.A) (hg : Gl X x) (hm : X.mg x = some (.ref C)) (hb : KBn X.K fd ps 1 ks g gV)
    (hx : ∀ σ, PassesAt CX X σ (E σ)) (hkw : PK X kws tk)
    (hall : (backToKw pos (keywordEach kws X.env)).all (·.1.isSome) = true := by rfl)
    (hks : (backToKw pos (keywordEach kws X.env)).filterMap (·.1) = ks := by rfl)
    (hdb : (x == ("__debug__" : Str)) = false := by decide)
    (hpl : ((backTo pos (starEach [] X.env)).any (·.1) || (backToKw pos (keywordEach kws X.env)).any (·.1.isNone)) = false := by rfl) :
    PE X (.Call (.Name x p) [] kws pos) (tMakeS C 0 ks.length sp gV E tNil tk) := by
  constructor; intro pins s σ H Q I h
  apply wpAny_Call_Name_kw; apply ld_glob I hg hm _ hdb
  apply PySem.W.callWith_KW0 (h₀ := X.base) I.ok.mod.kin M.kp hall _ hpl
  apply thn (hkw.run pos pins s σ H _ I h)
  rintro ws s2 ⟨zs, H2, I2, rz, l1, l2, q2⟩
  refine ⟨I2.kIn, ?_⟩; rw [hks]
  exact make_at (us := []) (vs := []) M F hr hb (hx σ) I2 .nil rz rfl l2 q2
/-- C(e, .., k = v, ..) -/
theorem pe_mkPKS (M : Mk X.K C f) (F : FnOk X.prog X.w X.K X.mg X.base CX k f fd ps sp) (hr : Room (k + 1) X.A) (hg : Gl X x) (hm : X.mg x = some (.ref C)) (hb : KBn X.K fd ps (n + 1) ks g gV)
    (hx : ∀ σ, PassesAt CX X σ (E σ)) (ha : PA X (e :: es) t) (hkw : PK X kws tk)
    (hall : (backToKw pos (keywordEach kws X.env)).all (·.1.isSome) = true := by rfl)
    (hks : (backToKw pos (keywordEach kws X.env)).filterMap (·.1) = ks := by rfl)
    (hdb : (x == ("__debug__" : Str)) = false := by decide)
    (hst : starEach (e :: es) X.env = (false, eval e X.env) :: starEach es X.env := by rfl)
    (hpl : ((backTo pos (starEach (e :: es) X.env)).any (·.1) || (backToKw pos (keywordEach kws X.env)).any (·.1.isNone)) = false := by rfl) :
    PE X (.Call (.Name x p) (e :: es) kws pos) (tMakeS C n ks.length sp gV E t tk) := by
  constructor; intro pins s σ H Q I h
  apply wpAny_Call_Name_kw; apply ld_glob I hg hm _ hdb
  refine PySem.W.callWith_KW (h₀ := X.base) I.ok.mod.kin M.kp hall ?_ hpl hst
  apply thn (ha.run pos pins s σ H _ I h)
  rintro us s1 ⟨vs, H1, I1, rv, q⟩
  apply thn (hkw.run pos pins s1 σ H1 _ I1 q)
  rintro ws s2 ⟨zs, H2, I2, rz, l1, l2, q2⟩
  refine ⟨I2.kIn, ?_⟩; rw [hks]
  exact make_at M F hr hb (hx σ) I2 rv rz l1 l2 q2
/-- C(e, ..) -/
theorem pe_mkS (M : Mk X.K C f) (F : FnOk X.prog X.w X.K X.mg X.base CX k f fd ps sp) (hr : Room (k + 1) X.A) (hg : Gl X x) (hm : X.mg x = some (.ref C)) (hb : KBn X.K fd ps (n + 1) [] g gV)
    (hx : ∀ σ, PassesAt CX X σ (E σ)) (ha : PA X (e :: es) t) (hdb : (x == ("__debug__" : Str)) = false := by decide)
    (hst : starEach (e :: es) X.env = (false, eval e X.env) :: starEach es X.env := by rfl)
    (hpl : (backTo pos (starEach es X.env)).any (·.1) = false := by rfl) : PE X (.Call (.Name x p) (e :: es) [] pos) (tMakeS C n 0 sp gV E t tNil) := by
  constructor; intro pins s σ H Q I h
  apply wpAny_Call_Name_kw; apply ld_glob I hg hm _ hdb
  refine PySem.W.callWith_K (h₀ := X.base) I.ok.mod.kin M.kp ?_ hst hpl
  apply thn (ha.run pos pins s σ H _ I h)
  rintro us s1 ⟨vs, H1, I1, rv, l1, l2, q2⟩
  exact ⟨I1.kIn, make_at (ks := []) (ws := []) (zs := []) M F hr hb (hx σ) I1 rv .nil l1 rfl q2⟩
/-- the reading of o.m(e, .., k = v, ..) where it may raise -/
def tMethS (C : Addr) (m : Str) (nn mm : Nat) (sp : Sp) (gV : List V → List V → List V) (E : L2.St → XK) (ta : TE) (t tk : TA) : TE := fun σ H Q =>
  ta σ H fun y H1 => ∃ a dx fs, y = .ref a ∧ H1 a = some (.ins C dx fs) ∧ fs.lookup m = none ∧
    t σ H1 fun vs H2 => tk σ H2 fun zs H3 => vs.length = nn ∧ zs.length = mm ∧ sp (gV (y :: vs) zs) H3 Q (E σ)
/-- o.m(k = v, ..) -/
theorem pe_mtKS {pl : Sem Bool} (ho : PE X o ta) (c : Cls X.K C) (hm : Meth X.K C m f) (F : FnOk X.prog X.w X.K X.mg X.base CX k f fd ps sp) (hr : Room k X.A) (hb : KBn X.K fd ps 1 ks g gV)
    (hx : ∀ σ, PassesAt CX X σ (E σ)) (hkw : PK X kws tk)
    (hall : (backToKw pos (keywordEach kws X.env)).all (·.1.isSome) = true := by rfl)
    (hks : (backToKw pos (keywordEach kws X.env)).filterMap (·.1) = ks := by rfl)
    (hpl : ((backTo pos (starEach [] X.env)).any (·.1) || (backToKw pos (keywordEach kws X.env)).any (·.1.isNone)) = false := by rfl)
    (ht : eval (.Call (.Attribute o m apos) [] kws pos) X.env = (do
      let ov ← eval o X.env; standAt apos.atName
      let (ff, first) ← holding [ov] (getMethod ov m pl); callWith pos ff first (backTo pos (starEach [] X.env)) (backToKw pos (keywordEach kws X.env))) := by rfl) :
    PE X (.Call (.Attribute o m apos) [] kws pos) (tMethS C m 0 ks.length sp gV E ta tNil tk) := by
  constructor; intro pins s σ H Q I h
  apply PySem.W.methodCall_KW (pl := pl) _ ht
  apply thn (ho.run pins s σ H _ I h)
  rintro u s1 ⟨y, H1, I1, rx, a, dx, fs, ex, ea, l, q⟩
  subst ex; obtain rfl : u = Value.ref a := rx
  apply getmeth_ok I1 ea c hm l
  apply PySem.W.callWith_KW0 (first := [.ref a]) (h₀ := X.base) I.ok.mod.kin hm.kp hall _ hpl
  apply thn (hkw.run pos pins s1 σ H1 _ I1 q)
  rintro ws s2 ⟨zs, H2, I2, rz, l1, l2, q2⟩
  refine ⟨I2.kIn, ?_⟩; rw [hks]
  exact run_at (us := [.ref a]) (vs := [.ref a]) F hr hb (hx σ) I2 (.cons rfl .nil) rz rfl l2 q2
/-- o.m(e, ..) -/
theorem pe_mtS {pl : Sem Bool} (ho : PE X o ta) (c : Cls X.K C) (hm : Meth X.K C m f) (F : FnOk X.prog X.w X.K X.mg X.base CX k f fd ps sp) (hr : Room k X.A) (hb : KBn X.K fd ps (n + 1) [] g gV)
    (hx : ∀ σ, PassesAt CX X σ (E σ)) (ha : PA X (e :: es) t)
    (hst : starEach (e :: es) X.env = (false, eval e X.env) :: starEach es X.env := by rfl) (hpl : (backTo pos (starEach es X.env)).any (·.1) = false := by rfl)
    (ht : eval (.Call (.Attribute o m apos) (e :: es) [] pos) X.env = (do
      let ov ← eval o X.env; standAt apos.atName
      let (ff, first) ← holding [ov] (getMethod ov m pl); callWith pos ff first (backTo pos (starEach (e :: es) X.env)) (backToKw pos (keywordEach [] X.env))) := by rfl) :
    PE X (.Call (.Attribute o m apos) (e :: es) [] pos) (tMethS C m n 0 sp gV E ta t tNil) := by
  constructor; intro pins s σ H Q I h
  apply PySem.W.methodCall_KW (pl := pl) _ ht
  apply thn (ho.run pins s σ H _ I h)
  rintro u s1 ⟨y, H1, I1, rx, a, dx, fs, ex, ea, l, q⟩
  subst ex; obtain rfl : u = Value.ref a := rx
  apply getmeth_ok I1 ea c hm l
  refine PySem.W.callWith_K (first := [.ref a]) (h₀ := X.base) I.ok.mod.kin hm.kp ?_ hst hpl
  apply thn (ha.run pos pins s1 σ H1 _ I1 q)
  rintro us s2 ⟨vs, H2, I2, rv, l1, l2, q2⟩
  exact ⟨I2.kIn, run_at (ks := []) (us := .ref a :: us) (vs := .ref a :: vs) (ws := []) (zs := []) F hr hb (hx σ) I2 (.cons rfl rv) .nil (congrArg Nat.succ l1) rfl q2⟩
end
end Ls

/-! What the laws' helpers are about: boxes of draws, kinds of values, fillings. -/
namespace Ls
open PySem PySem.Spec PyProof.Rows L2
/-! ### a box of draws -/
/-- H' keeps all of H but what stands at b -/
def But (b : Addr) (H H' : Hp) : Prop := ∀ a o, a ≠ b → H a = some o → H' a = some o
theorem But.refl (b : Addr) (H : Hp) : But b H H := fun _ _ _ h => h
theorem But.trans {b : Addr} {H H1 H2 : Hp} (x : But b H H1) (y : But b H1 H2) : But b H H2 := fun a o n h => y a o n (x a o n h)
theorem But.of {b : Addr} {H H' : Hp} (x : Same H H') : But b H H' := fun a o _ h => x a o h
theorem But.put {b : Addr} {H : Hp} {o : HO} : But b H (L2.upd H b o) := fun a u n h => by rw [upd_ne n]; exact h
theorem same_new {H : Hp} {p : Addr} {o : HO} (h : H p = none) : Same H (upd H p o) := fun a u e => by rw [upd_ne (ne_of_none e h)]; exact e
theorem But.new {b : Addr} {H : Hp} {p : Addr} {o : HO} (h : H p = none) : But b H (upd H p o) := .of (same_new h)
/-- at b stands a box that has been asked at most n times -/
def BoxAt (H : Hp) (b : Addr) (n : Nat) : Prop := ∃ (x c d : Int) (f : Bool), H b = some (.lst [.int x, .bl f, .int c, .int d]) ∧ 0 ≤ x ∧ 0 ≤ c ∧ c < 2147483629 ∧ 0 ≤ d ∧ d ≤ n
theorem BoxAt.mono {H : Hp} {b : Addr} {n m : Nat} (B : BoxAt H b n) (h : n ≤ m) : BoxAt H b m := by
  obtain ⟨x, c, d, f, h1, h2, h3, h4, h5, h6⟩ := B
  exact ⟨x, c, d, f, h1, h2, h3, h4, h5, by omega⟩
theorem BoxAt.same {H H' : Hp} {b : Addr} {n : Nat} (B : BoxAt H b n) (S : Same H H') : BoxAt H' b n := by
  obtain ⟨x, c, d, f, h1, h2⟩ := B; exact ⟨x, c, d, f, S _ _ h1, h2⟩
/-! ### promises -/
def spCell (K : PySem.W.Frag) : Sp := fun vs H Q _ => ∃ (l : Addr) (ns : List Int) (j : Nat), vs = [.ref l, .int (j : Int)] ∧ SqL K H l (ns.map V.int) ∧ ns.length ≤ 63 ∧ j ≤ 63 ∧
  ∀ z H', Same H H' → Q (.int z) H'
def spBox : Sp := fun vs H Q _ => ∃ g : Int, vs = [.int g] ∧ ∀ b H', H b = none → Same H H' → BoxAt H' b 0 → Q (.ref b) H'
def spTake : Sp := fun vs H Q _ => ∃ (b : Addr) (n : Nat) (m : Int), vs = [.ref b, .int m] ∧ BoxAt H b n ∧ n ≤ 1000000 ∧ 0 < m ∧ m < 1000000 ∧
  ∀ r H', 0 ≤ r → r < m → BoxAt H' b (n + 1) → But b H H' → (∀ a, H' a = none → H a = none) → Q (.int r) H'
theorem cutp {A B : Prop} (b : B) (h : B → A) : A := h b
theorem cut_one (ns : List Int) : cutV (ns.map V.int) none (some 1) = (ns.take 1).map V.int := by
  cases ns with
  | nil => rfl
  | cons n ns => unfold cutV; simp [HT.sIx]
/-- of which kind a value is -/
inductive Kd (H : Hp) : V → String → Prop
  | non : Kd H .non "NoneType"
  | bl (b : Bool) : Kd H (.bl b) "bool"
  | int (i : Int) : Kd H (.int i) "int"
  | str (x : Str) : Kd H (.str x) "str"
  | lst {a : Addr} {xs : List V} (h : H a = some (.lst xs)) : Kd H (.ref a) "list"
  | tup {a : Addr} {xs : List V} (h : H a = some (.tup xs)) : Kd H (.ref a) "tuple"
  | dic {a : Addr} {kvs : List (Key × V)} (h : H a = some (.dK kvs)) : Kd H (.ref a) "dict"
theorem Kd.same {H H' : Hp} {v : V} {U : String} (k : Kd H v U) (S : Same H H') : Kd H' v U := by
  cases k with
  | non => exact .non
  | bl b => exact .bl b
  | int i => exact .int i
  | str x => exact .str x
  | lst h => exact .lst (S _ _ h)
  | tup h => exact .tup (S _ _ h)
  | dic h => exact .dic (S _ _ h)
theorem Kd.tx {K : PySem.W.Frag} {H : Hp} {v : V} {U : String} (k : Kd H v U) : TyX K H v (.type U) := by
  cases k with
  | non => exact .base .non
  | bl b => exact .base (.bl b)
  | int i => exact .base (.int i)
  | str x => exact .base (.str x)
  | lst h => exact .base (.lst h)
  | tup h => exact .base (.tup h)
  | dic h => exact .base (.dK h)
/-- whether a value of the kind U is an instance of W -/
def isK (U W : String) : Bool := U == W || (U == "bool" && W == "int")
theorem Kd.isi {K : PySem.W.Frag} {H : Hp} {v : V} {U W : String} (k : Kd H v U) (hw : W = "int" ∨ W = "bool" ∨ W = "tuple" ∨ W = "list" ∨ W = "dict") :
    PySem.W.kitOne K (.type U) (.type W) = some (isK U W) := by
  rcases hw with rfl | rfl | rfl | rfl | rfl <;> cases k <;> exact kit_ty (by decide +kernel)
/-- whether a value is an integer from lo to hi -/
def inR (v : V) (lo hi : Int) : Bool := match v with
  | .int i => decide (lo ≤ i) && decide (i ≤ hi)
  | _ => false
/-- whether a value is a filling of n blocks with q contents -/
def filB (H : Hp) (v : V) (n q : Int) : Bool := match v with
  | .ref a => match H a with
    | some (.tup xs) => decide ((xs.length : Int) = n) && xs.all fun x => inR x 0 (q - 1)
    | _ => false
  | _ => false
theorem filB_tup {H : Hp} {a : Addr} {xs : List V} {n q : Int} (h : H a = some (.tup xs)) : filB H (.ref a) n q = (decide ((xs.length : Int) = n) && xs.all fun x => inR x 0 (q - 1)) := by simp only [filB, h]
theorem filB_lst {H : Hp} {a : Addr} {xs : List V} {n q : Int} (h : H a = some (.lst xs)) : filB H (.ref a) n q = false := by simp only [filB, h]
theorem filB_dic {H : Hp} {a : Addr} {xs : List (Key × V)} {n q : Int} (h : H a = some (.dK xs)) : filB H (.ref a) n q = false := by simp only [filB, h]
end Ls

namespace Ls
open PySem PySem.Spec PyProof.Rows L2
def top (i : Nat) : Stmt := PySem.Challenge.pw_leastspare_k03_drives.main.body.getD i (.Pass ⟨0, 0, 0, 0⟩)
abbrev s_is_within : Stmt := top 14
theorem sc_is_within : FnScope ["value", "low", "high"] ["value", "low", "high"] (defScope s_is_within) := ⟨rfl, rfl, rfl, by decide +kernel, rfl, by decide +kernel, by decide +kernel⟩
abbrev s_Disk___init : Stmt := inClass (top 17) 0
theorem sc_Disk___init : FnScope ["self", "blocks", "contents"] ["self", "blocks", "contents"] (defScope s_Disk___init) := ⟨rfl, rfl, rfl, by decide +kernel, rfl, by decide +kernel, by decide +kernel⟩
abbrev s_Disk___eq : Stmt := inClass (top 17) 1
theorem sc_Disk___eq : FnScope ["self", "other"] ["self", "other"] (defScope s_Disk___eq) := ⟨rfl, rfl, rfl, by decide +kernel, rfl, by decide +kernel, by decide +kernel⟩
abbrev s_is_block : Stmt := top 18
theorem sc_is_block : FnScope ["disk", "value"] ["disk", "value"] (defScope s_is_block) := ⟨rfl, rfl, rfl, by decide +kernel, rfl, by decide +kernel, by decide +kernel⟩
abbrev s_is_content : Stmt := top 19
theorem sc_is_content : FnScope ["disk", "value"] ["disk", "value"] (defScope s_is_content) := ⟨rfl, rfl, rfl, by decide +kernel, rfl, by decide +kernel, by decide +kernel⟩
abbrev s_is_filling : Stmt := top 20
theorem sc_is_filling : FnScope ["disk", "value", "content"] ["disk", "value"] (defScope s_is_filling) := ⟨rfl, rfl, rfl, by decide +kernel, rfl, by decide +kernel, by decide +kernel⟩
abbrev s_Drive___init : Stmt := inClass (top 22) 0
theorem sc_Drive___init : FnScope ["self", "disk", "filling", "torn"] ["self", "disk", "filling", "torn"] (defScope s_Drive___init) := ⟨rfl, rfl, rfl, by decide +kernel, rfl, by decide +kernel, by decide +kernel⟩
abbrev s_Drive_write : Stmt := inClass (top 22) 1
theorem sc_Drive_write : FnScope ["self", "block", "content"] ["self", "block", "content"] (defScope s_Drive_write) := ⟨rfl, rfl, rfl, by decide +kernel, rfl, by decide +kernel, by decide +kernel⟩
abbrev s_Drive_sync : Stmt := inClass (top 22) 2
theorem sc_Drive_sync : FnScope ["self", "done"] ["self"] (defScope s_Drive_sync) := ⟨rfl, rfl, rfl, by decide +kernel, rfl, by decide +kernel, by decide +kernel⟩
abbrev s_Drive_pending : Stmt := inClass (top 22) 3
theorem sc_Drive_pending : FnScope ["self"] ["self"] (defScope s_Drive_pending) := ⟨rfl, rfl, rfl, by decide +kernel, rfl, by decide +kernel, by decide +kernel⟩
abbrev s_Drive_settled : Stmt := inClass (top 22) 4
theorem sc_Drive_settled : FnScope ["self"] ["self"] (defScope s_Drive_settled) := ⟨rfl, rfl, rfl, by decide +kernel, rfl, by decide +kernel, by decide +kernel⟩
abbrev s_Drive_filling : Stmt := inClass (top 22) 5
theorem sc_Drive_filling : FnScope ["self", "contents", "block", "content"] ["self"] (defScope s_Drive_filling) := ⟨rfl, rfl, rfl, by decide +kernel, rfl, by decide +kernel, by decide +kernel⟩
abbrev s_Drive_may_leave : Stmt := inClass (top 22) 7
theorem sc_Drive_may_leave : FnScope ["self", "value", "content", "choice"] ["self", "value"] (defScope s_Drive_may_leave) := ⟨rfl, rfl, rfl, by decide +kernel, rfl, by decide +kernel, by decide +kernel⟩
abbrev s_Drive_cut : Stmt := inClass (top 22) 8
theorem sc_Drive_cut : FnScope ["self", "filling"] ["self", "filling"] (defScope s_Drive_cut) := ⟨rfl, rfl, rfl, by decide +kernel, rfl, by decide +kernel, by decide +kernel⟩
abbrev s_Drive__settle : Stmt := inClass (top 22) 9
theorem sc_Drive__settle : FnScope ["self", "filling"] ["self", "filling"] (defScope s_Drive__settle) := ⟨rfl, rfl, rfl, by decide +kernel, rfl, by decide +kernel, by decide +kernel⟩
abbrev s_Drive__choices : Stmt := inClass (top 22) 10
theorem sc_Drive__choices : FnScope ["self", "found", "block", "content", "choice"] ["self"] (defScope s_Drive__choices) := ⟨rfl, rfl, rfl, by decide +kernel, rfl, by decide +kernel, by decide +kernel⟩
abbrev s_law_cell : Stmt := top 25
theorem sc_law_cell : FnScope ["script", "k"] ["script", "k"] (defScope s_law_cell) := ⟨rfl, rfl, rfl, by decide +kernel, rfl, by decide +kernel, by decide +kernel⟩
abbrev s_law_box : Stmt := top 26
theorem sc_law_box : FnScope ["great"] ["great"] (defScope s_law_box) := ⟨rfl, rfl, rfl, by decide +kernel, rfl, by decide +kernel, by decide +kernel⟩
abbrev s_law_take : Stmt := top 27
theorem sc_law_take : FnScope ["box", "many", "digit", "mixed"] ["box", "many"] (defScope s_law_take) := ⟨rfl, rfl, rfl, by decide +kernel, rfl, by decide +kernel, by decide +kernel⟩
abbrev s_law_sizes : Stmt := top 28
theorem sc_law_sizes : FnScope ["box", "way", "contents"] ["box"] (defScope s_law_sizes) := ⟨rfl, rfl, rfl, by decide +kernel, rfl, by decide +kernel, by decide +kernel⟩
abbrev s_law_odd_filling : Stmt := top 29
theorem sc_law_odd_filling : FnScope ["way", "at", "filling", "contents", "more", "odd"] ["way", "at", "filling", "contents", "more"] (defScope s_law_odd_filling) := ⟨rfl, rfl, rfl, by decide +kernel, rfl, by decide +kernel, by decide +kernel⟩
abbrev s_law_same : Stmt := top 30
theorem sc_law_same : FnScope ["told", "word", "passed"] ["told", "word", "passed"] (defScope s_law_same) := ⟨rfl, rfl, rfl, by decide +kernel, rfl, by decide +kernel, by decide +kernel⟩
abbrev s_law_put : Stmt := top 31
theorem sc_law_put : FnScope ["filling", "writes", "found", "block", "content"] ["filling", "writes"] (defScope s_law_put) := ⟨rfl, rfl, rfl, by decide +kernel, rfl, by decide +kernel, by decide +kernel⟩
abbrev s_law_opened : Stmt := top 32
theorem sc_law_opened : FnScope ["way", "disk", "filling", "torn", "e"] ["way", "disk", "filling", "torn"] (defScope s_law_opened) := ⟨rfl, rfl, rfl, by decide +kernel, rfl, by decide +kernel, by decide +kernel⟩
abbrev s_law_told : Stmt := top 33
theorem sc_law_told : FnScope ["drive", "deed", "named", "e"] ["drive", "deed", "named"] (defScope s_law_told) := ⟨rfl, rfl, rfl, by decide +kernel, rfl, by decide +kernel, by decide +kernel⟩
abbrev s_law_stands : Stmt := top 34
theorem sc_law_stands : FnScope ["box", "known", "drive", "settled", "pending", "first", "turn", "which", "told", "one"] ["box", "known"] (defScope s_law_stands) := ⟨rfl, rfl, rfl, by decide +kernel, rfl, by decide +kernel, by decide +kernel⟩
abbrev s_law_menu : Stmt := top 35
theorem sc_law_menu : FnScope ["known", "block", "mine", "at", "content"] ["known", "block"] (defScope s_law_menu) := ⟨rfl, rfl, rfl, by decide +kernel, rfl, by decide +kernel, by decide +kernel⟩
abbrev s_law_write : Stmt := top 36
theorem sc_law_write : FnScope ["box", "known", "blocks", "contents", "block", "way"] ["box", "known"] (defScope s_law_write) := ⟨rfl, rfl, rfl, by decide +kernel, rfl, by decide +kernel, by decide +kernel⟩
abbrev s_law_refused_write : Stmt := top 37
theorem sc_law_refused_write : FnScope ["box", "known", "blocks", "contents", "spoilt", "first", "second", "more", "odd", "other", "block", "content"] ["box", "known"] (defScope s_law_refused_write) := ⟨rfl, rfl, rfl, by decide +kernel, rfl, by decide +kernel, by decide +kernel⟩
abbrev s_law_refused_cut : Stmt := top 38
theorem sc_law_refused_cut : FnScope ["box", "known", "blocks", "contents", "at", "way", "more", "left", "odd", "menu", "others", "value", "block", "content"] ["box", "known"] (defScope s_law_refused_cut) := ⟨rfl, rfl, rfl, by decide +kernel, rfl, by decide +kernel, by decide +kernel⟩
abbrev s_law_turn : Stmt := top 39
theorem sc_law_turn : FnScope ["box", "known", "way", "named", "drive", "row", "leaves", "block", "menu", "due", "told", "deed"] ["box", "known"] (defScope s_law_turn) := ⟨rfl, rfl, rfl, by decide +kernel, rfl, by decide +kernel, by decide +kernel⟩
abbrev s_law_begun : Stmt := top 40
theorem sc_law_begun : FnScope ["box", "sizes", "disk", "blocks", "contents", "torn", "way", "filling", "odd", "told", "k"] ["box", "sizes", "disk"] (defScope s_law_begun) := ⟨rfl, rfl, rfl, by decide +kernel, rfl, by decide +kernel, by decide +kernel⟩
abbrev s_law_right : Stmt := top 41
theorem sc_law_right : FnScope ["box", "alike", "one", "other", "disk", "drives", "turn", "known", "held", "kept"] ["box"] (defScope s_law_right) := ⟨rfl, rfl, rfl, by decide +kernel, rfl, by decide +kernel, by decide +kernel⟩
abbrev s_law_many_right : Stmt := top 42
theorem sc_law_many_right : FnScope ["box", "drive", "step", "k", "last"] ["box"] (defScope s_law_many_right) := ⟨rfl, rfl, rfl, by decide +kernel, rfl, by decide +kernel, by decide +kernel⟩
abbrev s_law : Stmt := top 43
theorem sc_law : FnScope ["script", "great", "k"] ["script"] (defScope s_law) := ⟨rfl, rfl, rfl, by decide +kernel, rfl, by decide +kernel, by decide +kernel⟩
abbrev s_InvalidFilling___init : Stmt := inClass (top 4) 0
theorem sc_InvalidFilling___init : FnScope ["self", "given"] ["self", "given"] (defScope s_InvalidFilling___init) := ⟨rfl, rfl, rfl, by decide +kernel, rfl, by decide +kernel, by decide +kernel⟩
abbrev s_InvalidBlock___init : Stmt := inClass (top 5) 0
theorem sc_InvalidBlock___init : FnScope ["self", "given"] ["self", "given"] (defScope s_InvalidBlock___init) := ⟨rfl, rfl, rfl, by decide +kernel, rfl, by decide +kernel, by decide +kernel⟩
abbrev s_InvalidContent___init : Stmt := inClass (top 6) 0
theorem sc_InvalidContent___init : FnScope ["self", "given"] ["self", "given"] (defScope s_InvalidContent___init) := ⟨rfl, rfl, rfl, by decide +kernel, rfl, by decide +kernel, by decide +kernel⟩
abbrev s_NotLeft___init : Stmt := inClass (top 8) 0
theorem sc_NotLeft___init : FnScope ["self", "filling"] ["self", "filling"] (defScope s_NotLeft___init) := ⟨rfl, rfl, rfl, by decide +kernel, rfl, by decide +kernel, by decide +kernel⟩
structure Tx (K : PySem.W.Frag) (mg : Str → Option Value) (ad : Nat → Addr) (fd : Nat → FuncData) : Prop where
  f_is_within : Fun K "is_within" "is_within" s_is_within (ad 14) (fd 14)
  g_is_within : mg "is_within" = some (.ref (ad 14))
  f_Disk___init : Fun K "__init__" "Disk.__init__" s_Disk___init (ad 1700) (fd 1700)
  f_Disk___eq : Fun K "__eq__" "Disk.__eq__" s_Disk___eq (ad 1701) (fd 1701)
  f_is_block : Fun K "is_block" "is_block" s_is_block (ad 18) (fd 18)
  g_is_block : mg "is_block" = some (.ref (ad 18))
  f_is_content : Fun K "is_content" "is_content" s_is_content (ad 19) (fd 19)
  g_is_content : mg "is_content" = some (.ref (ad 19))
  f_is_filling : Fun K "is_filling" "is_filling" s_is_filling (ad 20) (fd 20)
  g_is_filling : mg "is_filling" = some (.ref (ad 20))
  d_Drive___init : FunD K "__init__" "Drive.__init__" (defArgs s_Drive___init) (defBody s_Drive___init) (defScope s_Drive___init) [] [("torn", .bl true)] (ad 2200) (fd 2200)
  f_Drive_write : Fun K "write" "Drive.write" s_Drive_write (ad 2201) (fd 2201)
  f_Drive_sync : Fun K "sync" "Drive.sync" s_Drive_sync (ad 2202) (fd 2202)
  f_Drive_pending : Fun K "pending" "Drive.pending" s_Drive_pending (ad 2203) (fd 2203)
  f_Drive_settled : Fun K "settled" "Drive.settled" s_Drive_settled (ad 2204) (fd 2204)
  f_Drive_filling : Fun K "filling" "Drive.filling" s_Drive_filling (ad 2205) (fd 2205)
  f_Drive_may_leave : Fun K "may_leave" "Drive.may_leave" s_Drive_may_leave (ad 2207) (fd 2207)
  f_Drive_cut : Fun K "cut" "Drive.cut" s_Drive_cut (ad 2208) (fd 2208)
  f_Drive__settle : Fun K "_settle" "Drive._settle" s_Drive__settle (ad 2209) (fd 2209)
  f_Drive__choices : Fun K "_choices" "Drive._choices" s_Drive__choices (ad 2210) (fd 2210)
  f_law_cell : Fun K "_law_cell" "_law_cell" s_law_cell (ad 25) (fd 25)
  g_law_cell : mg "_law_cell" = some (.ref (ad 25))
  f_law_box : Fun K "_law_box" "_law_box" s_law_box (ad 26) (fd 26)
  g_law_box : mg "_law_box" = some (.ref (ad 26))
  f_law_take : Fun K "_law_take" "_law_take" s_law_take (ad 27) (fd 27)
  g_law_take : mg "_law_take" = some (.ref (ad 27))
  f_law_sizes : Fun K "_law_sizes" "_law_sizes" s_law_sizes (ad 28) (fd 28)
  g_law_sizes : mg "_law_sizes" = some (.ref (ad 28))
  f_law_odd_filling : Fun K "_law_odd_filling" "_law_odd_filling" s_law_odd_filling (ad 29) (fd 29)
  g_law_odd_filling : mg "_law_odd_filling" = some (.ref (ad 29))
  f_law_same : Fun K "_law_same" "_law_same" s_law_same (ad 30) (fd 30)
  g_law_same : mg "_law_same" = some (.ref (ad 30))
  f_law_put : Fun K "_law_put" "_law_put" s_law_put (ad 31) (fd 31)
  g_law_put : mg "_law_put" = some (.ref (ad 31))
  f_law_opened : Fun K "_law_opened" "_law_opened" s_law_opened (ad 32) (fd 32)
  g_law_opened : mg "_law_opened" = some (.ref (ad 32))
  f_law_told : Fun K "_law_told" "_law_told" s_law_told (ad 33) (fd 33)
  g_law_told : mg "_law_told" = some (.ref (ad 33))
  f_law_stands : Fun K "_law_stands" "_law_stands" s_law_stands (ad 34) (fd 34)
  g_law_stands : mg "_law_stands" = some (.ref (ad 34))
  f_law_menu : Fun K "_law_menu" "_law_menu" s_law_menu (ad 35) (fd 35)
  g_law_menu : mg "_law_menu" = some (.ref (ad 35))
  f_law_write : Fun K "_law_write" "_law_write" s_law_write (ad 36) (fd 36)
  g_law_write : mg "_law_write" = some (.ref (ad 36))
  f_law_refused_write : Fun K "_law_refused_write" "_law_refused_write" s_law_refused_write (ad 37) (fd 37)
  g_law_refused_write : mg "_law_refused_write" = some (.ref (ad 37))
  f_law_refused_cut : Fun K "_law_refused_cut" "_law_refused_cut" s_law_refused_cut (ad 38) (fd 38)
  g_law_refused_cut : mg "_law_refused_cut" = some (.ref (ad 38))
  f_law_turn : Fun K "_law_turn" "_law_turn" s_law_turn (ad 39) (fd 39)
  g_law_turn : mg "_law_turn" = some (.ref (ad 39))
  f_law_begun : Fun K "_law_begun" "_law_begun" s_law_begun (ad 40) (fd 40)
  g_law_begun : mg "_law_begun" = some (.ref (ad 40))
  f_law_right : Fun K "_law_right" "_law_right" s_law_right (ad 41) (fd 41)
  g_law_right : mg "_law_right" = some (.ref (ad 41))
  f_law_many_right : Fun K "_law_many_right" "_law_many_right" s_law_many_right (ad 42) (fd 42)
  g_law_many_right : mg "_law_many_right" = some (.ref (ad 42))
  f_law : Fun K "law" "law" s_law (ad 43) (fd 43)
  g_law : mg "law" = some (.ref (ad 43))
  f_InvalidFilling___init : Fun K "__init__" "InvalidFilling.__init__" s_InvalidFilling___init (ad 400) (fd 400)
  f_InvalidBlock___init : Fun K "__init__" "InvalidBlock.__init__" s_InvalidBlock___init (ad 500) (fd 500)
  f_InvalidContent___init : Fun K "__init__" "InvalidContent.__init__" s_InvalidContent___init (ad 600) (fd 600)
  f_NotLeft___init : Fun K "__init__" "NotLeft.__init__" s_NotLeft___init (ad 800) (fd 800)
  m_Drive_write : Meth K (ad 100022) "write" (ad 2201)
  m_Drive_sync : Meth K (ad 100022) "sync" (ad 2202)
  m_Drive_pending : Meth K (ad 100022) "pending" (ad 2203)
  m_Drive_settled : Meth K (ad 100022) "settled" (ad 2204)
  m_Drive_filling : Meth K (ad 100022) "filling" (ad 2205)
  m_Drive_may_leave : Meth K (ad 100022) "may_leave" (ad 2207)
  m_Drive_cut : Meth K (ad 100022) "cut" (ad 2208)
  m_Drive__settle : Meth K (ad 100022) "_settle" (ad 2209)
  m_Drive__choices : Meth K (ad 100022) "_choices" (ad 2210)
  c_Disk : Cls K (ad 100017)
  g_Disk : mg "Disk" = some (.ref (ad 100017))
  k_Disk : Mk K (ad 100017) (ad 1700)
  q_Disk : PySem.W.findIn K (.ref (ad 100017)) "__eq__" = some (some (.ref (ad 1701)))
  qf_Disk : PySem.W.isFn K (.ref (ad 1701)) = true
  cc_Disk : PySem.W.findIn K (.ref (ad 100017)) "__class__" = some (some (.builtin "object.__class__"))
  mr_Disk : PySem.W.mroIn K (ad 100017) (.type "object") = some true
  a_Disk_blocks : NoAttr K (ad 100017) "blocks"
  a_Disk_contents : NoAttr K (ad 100017) "contents"
  c_Drive : Cls K (ad 100022)
  g_Drive : mg "Drive" = some (.ref (ad 100022))
  k_Drive : Mk K (ad 100022) (ad 2200)
  a_Drive_disk : NoAttr K (ad 100022) "disk"
  a_Drive_torn : NoAttr K (ad 100022) "torn"
  a_Drive__settled : NoAttr K (ad 100022) "_settled"
  a_Drive__pending : NoAttr K (ad 100022) "_pending"
  g_InvalidFilling : mg "InvalidFilling" = some (.ref (ad 100004))
  ox_InvalidFilling : OexC K (ad 100004)
  xf_InvalidFilling : XfC K (ad 100004)
  nf_InvalidFilling : PySem.W.findIn K (.ref (ad 100004)) "given" = some none
  ii_InvalidFilling : PySem.W.findIn K (.ref (ad 100004)) "__init__" = some (some (.ref (ad 400)))
  ti_InvalidFilling : PySem.W.typeIn K (.ref (ad 400)) = some (.type "function")
  te_InvalidFilling_InvalidFilling : PySem.W.exmOne K (.ref (ad 100004)) (.ref (ad 100004)) = some true
  te_InvalidFilling_InvalidBlock : PySem.W.exmOne K (.ref (ad 100004)) (.ref (ad 100005)) = some false
  te_InvalidFilling_InvalidContent : PySem.W.exmOne K (.ref (ad 100004)) (.ref (ad 100006)) = some false
  te_InvalidFilling_NotLeft : PySem.W.exmOne K (.ref (ad 100004)) (.ref (ad 100008)) = some false
  g_InvalidBlock : mg "InvalidBlock" = some (.ref (ad 100005))
  ox_InvalidBlock : OexC K (ad 100005)
  xf_InvalidBlock : XfC K (ad 100005)
  nf_InvalidBlock : PySem.W.findIn K (.ref (ad 100005)) "given" = some none
  ii_InvalidBlock : PySem.W.findIn K (.ref (ad 100005)) "__init__" = some (some (.ref (ad 500)))
  ti_InvalidBlock : PySem.W.typeIn K (.ref (ad 500)) = some (.type "function")
  te_InvalidBlock_InvalidFilling : PySem.W.exmOne K (.ref (ad 100005)) (.ref (ad 100004)) = some false
  te_InvalidBlock_InvalidBlock : PySem.W.exmOne K (.ref (ad 100005)) (.ref (ad 100005)) = some true
  te_InvalidBlock_InvalidContent : PySem.W.exmOne K (.ref (ad 100005)) (.ref (ad 100006)) = some false
  te_InvalidBlock_NotLeft : PySem.W.exmOne K (.ref (ad 100005)) (.ref (ad 100008)) = some false
  g_InvalidContent : mg "InvalidContent" = some (.ref (ad 100006))
  ox_InvalidContent : OexC K (ad 100006)
  xf_InvalidContent : XfC K (ad 100006)
  nf_InvalidContent : PySem.W.findIn K (.ref (ad 100006)) "given" = some none
  ii_InvalidContent : PySem.W.findIn K (.ref (ad 100006)) "__init__" = some (some (.ref (ad 600)))
  ti_InvalidContent : PySem.W.typeIn K (.ref (ad 600)) = some (.type "function")
  te_InvalidContent_InvalidFilling : PySem.W.exmOne K (.ref (ad 100006)) (.ref (ad 100004)) = some false
  te_InvalidContent_InvalidBlock : PySem.W.exmOne K (.ref (ad 100006)) (.ref (ad 100005)) = some false
  te_InvalidContent_InvalidContent : PySem.W.exmOne K (.ref (ad 100006)) (.ref (ad 100006)) = some true
  te_InvalidContent_NotLeft : PySem.W.exmOne K (.ref (ad 100006)) (.ref (ad 100008)) = some false
  g_NotLeft : mg "NotLeft" = some (.ref (ad 100008))
  ox_NotLeft : OexC K (ad 100008)
  xf_NotLeft : XfC K (ad 100008)
  nf_NotLeft : PySem.W.findIn K (.ref (ad 100008)) "filling" = some none
  ii_NotLeft : PySem.W.findIn K (.ref (ad 100008)) "__init__" = some (some (.ref (ad 800)))
  ti_NotLeft : PySem.W.typeIn K (.ref (ad 800)) = some (.type "function")
  te_NotLeft_InvalidFilling : PySem.W.exmOne K (.ref (ad 100008)) (.ref (ad 100004)) = some false
  te_NotLeft_InvalidBlock : PySem.W.exmOne K (.ref (ad 100008)) (.ref (ad 100005)) = some false
  te_NotLeft_InvalidContent : PySem.W.exmOne K (.ref (ad 100008)) (.ref (ad 100006)) = some false
  te_NotLeft_NotLeft : PySem.W.exmOne K (.ref (ad 100008)) (.ref (ad 100008)) = some true
  v_MOST_BLOCKS : ∃ tk, mg "MOST_BLOCKS" = some (.int 24 tk)
  v_LEAST_CONTENTS : ∃ tk, mg "LEAST_CONTENTS" = some (.int 2 tk)
  v_MOST_CONTENTS : ∃ tk, mg "MOST_CONTENTS" = some (.int 64 tk)
  v_MOST_LISTED : ∃ tk, mg "MOST_LISTED" = some (.int 20000 tk)
  gs_cls : PySem.W.specialIn K (.builtin "object.__class__") "__get__" = some (some (.builtin "getset_descriptor.__get__"))
  tk_cls : PySem.W.takesIn K (.builtin "object.__class__") = some true
  n_len : mg "len" = none
  n_int : mg "int" = none
  n_sum : mg "sum" = none
  n_abs : mg "abs" = none
  n_isinstance : mg "isinstance" = none
  n_bool : mg "bool" = none
  n_tuple : mg "tuple" = none
  n_list : mg "list" = none
  n_dict : mg "dict" = none
  n_all : mg "all" = none
  n_range : mg "range" = none
  n_sorted : mg "sorted" = none
  n_set : mg "set" = none
  n_repr : mg "repr" = none
  n_zip : mg "zip" = none
  n_max : mg "max" = none
  n_min : mg "min" = none
section
variable {P : Program} {w : World} {K : PySem.W.Frag} {mg : Str → Option Value} {base : Heap} {ad : Nat → Addr} {fd : Nat → FuncData}
theorem b_is_within (T : Tx K mg ad fd) : Binds K (fd 14) ["value", "low", "high"] [] := T.f_is_within.binds fun _ _ _ _ _ _ us hl => match us, hl with | [_, _, _], _ => rfl
theorem b_Disk___init (T : Tx K mg ad fd) : Binds K (fd 1700) ["self", "blocks", "contents"] [] := T.f_Disk___init.binds fun _ _ _ _ _ _ us hl => match us, hl with | [_, _, _], _ => rfl
theorem b_Disk___eq (T : Tx K mg ad fd) : Binds K (fd 1701) ["self", "other"] [] := T.f_Disk___eq.binds fun _ _ _ _ _ _ us hl => match us, hl with | [_, _], _ => rfl
theorem b_is_block (T : Tx K mg ad fd) : Binds K (fd 18) ["disk", "value"] [] := T.f_is_block.binds fun _ _ _ _ _ _ us hl => match us, hl with | [_, _], _ => rfl
theorem b_is_content (T : Tx K mg ad fd) : Binds K (fd 19) ["disk", "value"] [] := T.f_is_content.binds fun _ _ _ _ _ _ us hl => match us, hl with | [_, _], _ => rfl
theorem b_is_filling (T : Tx K mg ad fd) : Binds K (fd 20) ["disk", "value"] [] := T.f_is_filling.binds fun _ _ _ _ _ _ us hl => match us, hl with | [_, _], _ => rfl
theorem b_Drive_write (T : Tx K mg ad fd) : Binds K (fd 2201) ["self", "block", "content"] [] := T.f_Drive_write.binds fun _ _ _ _ _ _ us hl => match us, hl with | [_, _, _], _ => rfl
theorem b_Drive_sync (T : Tx K mg ad fd) : Binds K (fd 2202) ["self"] [] := T.f_Drive_sync.binds fun _ _ _ _ _ _ us hl => match us, hl with | [_], _ => rfl
theorem b_Drive_pending (T : Tx K mg ad fd) : Binds K (fd 2203) ["self"] [] := T.f_Drive_pending.binds fun _ _ _ _ _ _ us hl => match us, hl with | [_], _ => rfl
theorem b_Drive_settled (T : Tx K mg ad fd) : Binds K (fd 2204) ["self"] [] := T.f_Drive_settled.binds fun _ _ _ _ _ _ us hl => match us, hl with | [_], _ => rfl
theorem b_Drive_filling (T : Tx K mg ad fd) : Binds K (fd 2205) ["self"] [] := T.f_Drive_filling.binds fun _ _ _ _ _ _ us hl => match us, hl with | [_], _ => rfl
theorem b_Drive_may_leave (T : Tx K mg ad fd) : Binds K (fd 2207) ["self", "value"] [] := T.f_Drive_may_leave.binds fun _ _ _ _ _ _ us hl => match us, hl with | [_, _], _ => rfl
theorem b_Drive_cut (T : Tx K mg ad fd) : Binds K (fd 2208) ["self", "filling"] [] := T.f_Drive_cut.binds fun _ _ _ _ _ _ us hl => match us, hl with | [_, _], _ => rfl
theorem b_Drive__settle (T : Tx K mg ad fd) : Binds K (fd 2209) ["self", "filling"] [] := T.f_Drive__settle.binds fun _ _ _ _ _ _ us hl => match us, hl with | [_, _], _ => rfl
theorem b_Drive__choices (T : Tx K mg ad fd) : Binds K (fd 2210) ["self"] [] := T.f_Drive__choices.binds fun _ _ _ _ _ _ us hl => match us, hl with | [_], _ => rfl
theorem b_law_cell (T : Tx K mg ad fd) : Binds K (fd 25) ["script", "k"] [] := T.f_law_cell.binds fun _ _ _ _ _ _ us hl => match us, hl with | [_, _], _ => rfl
theorem b_law_box (T : Tx K mg ad fd) : Binds K (fd 26) ["great"] [] := T.f_law_box.binds fun _ _ _ _ _ _ us hl => match us, hl with | [_], _ => rfl
theorem b_law_take (T : Tx K mg ad fd) : Binds K (fd 27) ["box", "many"] [] := T.f_law_take.binds fun _ _ _ _ _ _ us hl => match us, hl with | [_, _], _ => rfl
theorem b_law_sizes (T : Tx K mg ad fd) : Binds K (fd 28) ["box"] [] := T.f_law_sizes.binds fun _ _ _ _ _ _ us hl => match us, hl with | [_], _ => rfl
theorem b_law_odd_filling (T : Tx K mg ad fd) : Binds K (fd 29) ["way", "at", "filling", "contents", "more"] [] := T.f_law_odd_filling.binds fun _ _ _ _ _ _ us hl => match us, hl with | [_, _, _, _, _], _ => rfl
theorem b_law_same (T : Tx K mg ad fd) : Binds K (fd 30) ["told", "word", "passed"] [] := T.f_law_same.binds fun _ _ _ _ _ _ us hl => match us, hl with | [_, _, _], _ => rfl
theorem b_law_put (T : Tx K mg ad fd) : Binds K (fd 31) ["filling", "writes"] [] := T.f_law_put.binds fun _ _ _ _ _ _ us hl => match us, hl with | [_, _], _ => rfl
theorem b_law_opened (T : Tx K mg ad fd) : Binds K (fd 32) ["way", "disk", "filling", "torn"] [] := T.f_law_opened.binds fun _ _ _ _ _ _ us hl => match us, hl with | [_, _, _, _], _ => rfl
theorem b_law_told (T : Tx K mg ad fd) : Binds K (fd 33) ["drive", "deed", "named"] [] := T.f_law_told.binds fun _ _ _ _ _ _ us hl => match us, hl with | [_, _, _], _ => rfl
theorem b_law_stands (T : Tx K mg ad fd) : Binds K (fd 34) ["box", "known"] [] := T.f_law_stands.binds fun _ _ _ _ _ _ us hl => match us, hl with | [_, _], _ => rfl
theorem b_law_menu (T : Tx K mg ad fd) : Binds K (fd 35) ["known", "block"] [] := T.f_law_menu.binds fun _ _ _ _ _ _ us hl => match us, hl with | [_, _], _ => rfl
theorem b_law_write (T : Tx K mg ad fd) : Binds K (fd 36) ["box", "known"] [] := T.f_law_write.binds fun _ _ _ _ _ _ us hl => match us, hl with | [_, _], _ => rfl
theorem b_law_refused_write (T : Tx K mg ad fd) : Binds K (fd 37) ["box", "known"] [] := T.f_law_refused_write.binds fun _ _ _ _ _ _ us hl => match us, hl with | [_, _], _ => rfl
theorem b_law_refused_cut (T : Tx K mg ad fd) : Binds K (fd 38) ["box", "known"] [] := T.f_law_refused_cut.binds fun _ _ _ _ _ _ us hl => match us, hl with | [_, _], _ => rfl
theorem b_law_turn (T : Tx K mg ad fd) : Binds K (fd 39) ["box", "known"] [] := T.f_law_turn.binds fun _ _ _ _ _ _ us hl => match us, hl with | [_, _], _ => rfl
theorem b_law_begun (T : Tx K mg ad fd) : Binds K (fd 40) ["box", "sizes", "disk"] [] := T.f_law_begun.binds fun _ _ _ _ _ _ us hl => match us, hl with | [_, _, _], _ => rfl
theorem b_law_right (T : Tx K mg ad fd) : Binds K (fd 41) ["box"] [] := T.f_law_right.binds fun _ _ _ _ _ _ us hl => match us, hl with | [_], _ => rfl
theorem b_law_many_right (T : Tx K mg ad fd) : Binds K (fd 42) ["box"] [] := T.f_law_many_right.binds fun _ _ _ _ _ _ us hl => match us, hl with | [_], _ => rfl
theorem b_law (T : Tx K mg ad fd) : Binds K (fd 43) ["script"] [] := T.f_law.binds fun _ _ _ _ _ _ us hl => match us, hl with | [_], _ => rfl
theorem b_InvalidFilling___init (T : Tx K mg ad fd) : Binds K (fd 400) ["self", "given"] [] := T.f_InvalidFilling___init.binds fun _ _ _ _ _ _ us hl => match us, hl with | [_, _], _ => rfl
theorem b_InvalidBlock___init (T : Tx K mg ad fd) : Binds K (fd 500) ["self", "given"] [] := T.f_InvalidBlock___init.binds fun _ _ _ _ _ _ us hl => match us, hl with | [_, _], _ => rfl
theorem b_InvalidContent___init (T : Tx K mg ad fd) : Binds K (fd 600) ["self", "given"] [] := T.f_InvalidContent___init.binds fun _ _ _ _ _ _ us hl => match us, hl with | [_, _], _ => rfl
theorem b_NotLeft___init (T : Tx K mg ad fd) : Binds K (fd 800) ["self", "filling"] [] := T.f_NotLeft___init.binds fun _ _ _ _ _ _ us hl => match us, hl with | [_, _], _ => rfl
theorem i_InvalidFilling (T : Tx K mg ad fd) : FnOk P w K mg base CX0 1 (ad 400) (fd 400) ["self", "given"] (spErr (ad 100004) "given") := by
  refine T.f_InvalidFilling___init.ok sc_InvalidFilling___init (fun vs H Q E h => by obtain ⟨a, v, rfl, _⟩ := h; rfl) (fun cdv A outer s H vs Q E hr h => ?_)
  obtain ⟨a, v, rfl, ha, k⟩ := h
  exact ⟨_, pss_one (ps_ost (pv 0) (pv 1)), _, rfl, _, rfl, a, _, rfl, T.ox_InvalidFilling, T.nf_InvalidFilling, .inl ⟨ha, k⟩⟩
theorem e_InvalidFilling (T : Tx K mg ad fd) : ErrC P w K mg base "InvalidFilling" "given" (ad 100004) :=
  ⟨T.ox_InvalidFilling, T.xf_InvalidFilling, T.g_InvalidFilling, T.nf_InvalidFilling, T.te_InvalidFilling_InvalidFilling, ad 400, fd 400, "given", T.ii_InvalidFilling, T.ti_InvalidFilling, i_InvalidFilling T, b_InvalidFilling___init T⟩
theorem i_InvalidBlock (T : Tx K mg ad fd) : FnOk P w K mg base CX0 1 (ad 500) (fd 500) ["self", "given"] (spErr (ad 100005) "given") := by
  refine T.f_InvalidBlock___init.ok sc_InvalidBlock___init (fun vs H Q E h => by obtain ⟨a, v, rfl, _⟩ := h; rfl) (fun cdv A outer s H vs Q E hr h => ?_)
  obtain ⟨a, v, rfl, ha, k⟩ := h
  exact ⟨_, pss_one (ps_ost (pv 0) (pv 1)), _, rfl, _, rfl, a, _, rfl, T.ox_InvalidBlock, T.nf_InvalidBlock, .inl ⟨ha, k⟩⟩
theorem e_InvalidBlock (T : Tx K mg ad fd) : ErrC P w K mg base "InvalidBlock" "given" (ad 100005) :=
  ⟨T.ox_InvalidBlock, T.xf_InvalidBlock, T.g_InvalidBlock, T.nf_InvalidBlock, T.te_InvalidBlock_InvalidBlock, ad 500, fd 500, "given", T.ii_InvalidBlock, T.ti_InvalidBlock, i_InvalidBlock T, b_InvalidBlock___init T⟩
theorem i_InvalidContent (T : Tx K mg ad fd) : FnOk P w K mg base CX0 1 (ad 600) (fd 600) ["self", "given"] (spErr (ad 100006) "given") := by
  refine T.f_InvalidContent___init.ok sc_InvalidContent___init (fun vs H Q E h => by obtain ⟨a, v, rfl, _⟩ := h; rfl) (fun cdv A outer s H vs Q E hr h => ?_)
  obtain ⟨a, v, rfl, ha, k⟩ := h
  exact ⟨_, pss_one (ps_ost (pv 0) (pv 1)), _, rfl, _, rfl, a, _, rfl, T.ox_InvalidContent, T.nf_InvalidContent, .inl ⟨ha, k⟩⟩
theorem e_InvalidContent (T : Tx K mg ad fd) : ErrC P w K mg base "InvalidContent" "given" (ad 100006) :=
  ⟨T.ox_InvalidContent, T.xf_InvalidContent, T.g_InvalidContent, T.nf_InvalidContent, T.te_InvalidContent_InvalidContent, ad 600, fd 600, "given", T.ii_InvalidContent, T.ti_InvalidContent, i_InvalidContent T, b_InvalidContent___init T⟩
theorem i_NotLeft (T : Tx K mg ad fd) : FnOk P w K mg base CX0 1 (ad 800) (fd 800) ["self", "filling"] (spErr (ad 100008) "filling") := by
  refine T.f_NotLeft___init.ok sc_NotLeft___init (fun vs H Q E h => by obtain ⟨a, v, rfl, _⟩ := h; rfl) (fun cdv A outer s H vs Q E hr h => ?_)
  obtain ⟨a, v, rfl, ha, k⟩ := h
  exact ⟨_, pss_one (ps_ost (pv 0) (pv 1)), _, rfl, _, rfl, a, _, rfl, T.ox_NotLeft, T.nf_NotLeft, .inl ⟨ha, k⟩⟩
theorem e_NotLeft (T : Tx K mg ad fd) : ErrC P w K mg base "NotLeft" "filling" (ad 100008) :=
  ⟨T.ox_NotLeft, T.xf_NotLeft, T.g_NotLeft, T.nf_NotLeft, T.te_NotLeft_NotLeft, ad 800, fd 800, "filling", T.ii_NotLeft, T.ti_NotLeft, i_NotLeft T, b_NotLeft___init T⟩
end
end Ls

namespace Ls
open PySem PySem.Spec PyProof.Rows L2
def dkF (n q : Int) : List (Str × V) := [("blocks", .int n), ("contents", .int q)]
theorem dkF_b (n q : Int) : (dkF n q).lookup ("blocks" : Str) = some (.int n) := by rfl
theorem dkF_c (n q : Int) : (dkF n q).lookup ("contents" : Str) = some (.int q) := by rfl
/-- at d stands a disk of n blocks with q contents -/
def DkAt (C : Addr) (H : Hp) (d : Addr) (n q : Int) : Prop := ∃ dx, H d = some (.ins C dx (dkF n q))
theorem DkAt.same {C : Addr} {H H' : Hp} {d : Addr} {n q : Int} (D : DkAt C H d n q) (S : Same H H') : DkAt C H' d n q := D.elim fun dx h => ⟨dx, S _ _ h⟩
def spWithin : Sp := fun vs H Q _ => ∃ (v : V) (U : String) (lo hi : Int), vs = [v, .int lo, .int hi] ∧ Kd H v U ∧ Q (.bl (inR v lo hi)) H
def spBlock (C : Addr) : Sp := fun vs H Q _ => ∃ (d : Addr) (n q : Int) (v : V) (U : String), vs = [.ref d, v] ∧ DkAt C H d n q ∧ Kd H v U ∧ Q (.bl (inR v 0 (n - 1))) H
def spContent (C : Addr) : Sp := fun vs H Q _ => ∃ (d : Addr) (n q : Int) (v : V) (U : String), vs = [.ref d, v] ∧ DkAt C H d n q ∧ Kd H v U ∧ Q (.bl (inR v 0 (q - 1))) H
/-- every item of a tuple is of some kind -/
def KdT (H : Hp) (v : V) : Prop := ∀ a xs, v = .ref a → H a = some (.tup xs) → (∀ x ∈ xs, ∃ U, Kd H x U) ∧ xs.length ≤ 1000
def spFilling (C : Addr) : Sp := fun vs H Q _ => ∃ (d : Addr) (n q : Int) (v : V) (U : String), vs = [.ref d, v] ∧ DkAt C H d n q ∧ Kd H v U ∧ KdT H v ∧ ∀ H', Same H H' → Q (.bl (filB H v n q)) H'
section
variable {P : Program} {w : World} {K : PySem.W.Frag} {mg : Str → Option Value} {base : Heap} {ad : Nat → Addr} {fd : Nat → FuncData}
theorem ok_is_within (T : Tx K mg ad fd) : FnOk P w K mg base CX0 1 (ad 14) (fd 14) ["value", "low", "high"] spWithin := by
  refine T.f_is_within.ok sc_is_within (fun vs H Q E h => ?_) (fun cdv A outer s H vs Q E hr h => ?_)
  · obtain ⟨v, U, lo, hi, rfl, _⟩ := h; rfl
  · obtain ⟨v, U, lo, hi, rfl, kd, k⟩ := h
    refine ⟨_, (pss_one (ps_ret (pe_and (pe_callB call_isi (by rfl) T.n_isinstance (by decide +kernel) (pa_cons (pv 0) (pa_cons (pe_bltn (v := .ty "int") (by rfl) T.n_int (by decide +kernel) rfl) pa_nil))) (pe_and (pe_not (pe_callB call_isi (by rfl) T.n_isinstance (by decide +kernel) (pa_cons (pv 0) (pa_cons (pe_bltn (v := .ty "bool") (by rfl) T.n_bool (by decide +kernel) rfl) pa_nil)))) (pe_one (pe_chain op_le op_le (pv 1) (pv 0) (pv 2))))))), ?_⟩
    refine ⟨_, rfl, v, .ty "int", _, _, _, rfl, .ty _, kd.tx, kd.isi (.inl rfl), _, rfl, ?_⟩
    cases kd with
    | int i =>
      refine iteT ⟨_, rfl, .int i, .ty "bool", _, _, _, rfl, .ty _, (Kd.int (H := H) i).tx, (Kd.int (H := H) i).isi (.inr (.inl rfl)), _, rfl, _, rfl, iteT ?_⟩
      refine ⟨_, rfl, _, rfl, _, _, rfl, rfl, _, rfl, ?_⟩
      by_cases c : lo ≤ i
      · rw [decide_eq_true c]; refine iteT ⟨_, rfl, _, _, rfl, rfl, ?_⟩
        have e : inR (.int i) lo hi = decide (i ≤ hi) := by show (decide (lo ≤ i) && decide (i ≤ hi)) = _; rw [decide_eq_true c, Bool.true_and]
        rw [e] at k; exact k
      · rw [decide_eq_false c]; refine iteF ?_
        have e : inR (.int i) lo hi = false := by show (decide (lo ≤ i) && decide (i ≤ hi)) = _; rw [decide_eq_false c, Bool.false_and]
        rw [e] at k; exact k
    | bl b =>
      refine iteT ⟨_, rfl, .bl b, .ty "bool", _, _, _, rfl, .ty _, (Kd.bl (H := H) b).tx, (Kd.bl (H := H) b).isi (.inr (.inl rfl)), _, rfl, _, rfl, iteF k⟩
    | non => exact iteF k
    | str x => exact iteF k
    | lst h => exact iteF k
    | tup h => exact iteF k
    | dic h => exact iteF k
theorem ok_is_block (T : Tx K mg ad fd) : FnOk P w K mg base CX0 2 (ad 18) (fd 18) ["disk", "value"] (spBlock (ad 100017)) := by
  refine T.f_is_block.ok sc_is_block (fun vs H Q E h => ?_) (fun cdv A outer s H vs Q E hr h => ?_)
  · obtain ⟨d, n, q, v, U, rfl, _⟩ := h; rfl
  · obtain ⟨d, n, q, v, U, rfl, ⟨dx, hd⟩, kd, k⟩ := h
    refine ⟨_, (pss_one (ps_ret (pe_call (ok_is_within T) (hr.mono (by decide)) rfl T.g_is_within T.f_is_within.kp (b_is_within T) .nil pass0 (pa_cons (pv 1) (pa_cons pe_int (pa_cons (pe_op op_sub (pe_fld (pv 0) rfl) pe_int) pa_nil)))))), ?_⟩
    exact ⟨_, rfl, _, rfl, d, _, dx, _, _, rfl, hd, T.c_Disk, T.a_Disk_blocks, dkF_b n q, _, _, rfl, rfl, v, U, _, _, rfl, kd, k⟩
theorem ok_is_content (T : Tx K mg ad fd) : FnOk P w K mg base CX0 2 (ad 19) (fd 19) ["disk", "value"] (spContent (ad 100017)) := by
  refine T.f_is_content.ok sc_is_content (fun vs H Q E h => ?_) (fun cdv A outer s H vs Q E hr h => ?_)
  · obtain ⟨d, n, q, v, U, rfl, _⟩ := h; rfl
  · obtain ⟨d, n, q, v, U, rfl, ⟨dx, hd⟩, kd, k⟩ := h
    refine ⟨_, (pss_one (ps_ret (pe_call (ok_is_within T) (hr.mono (by decide)) rfl T.g_is_within T.f_is_within.kp (b_is_within T) .nil pass0 (pa_cons (pv 1) (pa_cons pe_int (pa_cons (pe_op op_sub (pe_fld (pv 0) rfl) pe_int) pa_nil)))))), ?_⟩
    exact ⟨_, rfl, _, rfl, d, _, dx, _, _, rfl, hd, T.c_Disk, T.a_Disk_contents, dkF_c n q, _, _, rfl, rfl, v, U, _, _, rfl, kd, k⟩
theorem ok_is_filling (T : Tx K mg ad fd) : FnOk P w K mg base CX0 3 (ad 20) (fd 20) ["disk", "value"] (spFilling (ad 100017)) := by
  refine T.f_is_filling.ok sc_is_filling (fun vs H Q E h => ?_) (fun cdv A outer s H vs Q E hr h => ?_)
  · obtain ⟨d, n, q, v, U, rfl, _⟩ := h; rfl
  · obtain ⟨d, n, q, v, U, rfl, ⟨dx, hd⟩, kd, kt, k⟩ := h
    refine ⟨_, (pss_cons (ps_if (PW.pt (pw_or (pt_not (pt_val (pe_callB call_isi (by rfl) T.n_isinstance (by decide +kernel) (pa_cons (pv 1) (pa_cons (pe_bltn (v := .ty "tuple") (by rfl) T.n_tuple (by decide +kernel) rfl) pa_nil))))) (pw_or1 (pt_cmpR op_ne (pe_callB call_len_seq (by rfl) T.n_len (by decide +kernel) (pa_cons (pv 1) pa_nil)) (pe_fld (pv 0) rfl) (nomark _)))))
        (pss_one (ps_ret pe_bl))
        pss_nil)
      (pss_one (ps_ret (pe_callB (cr_all rfl) (by rfl) T.n_all (by decide +kernel) (pa_cons (pe_lc (own := [("content", 2)]) (g := gName 2) (tt := tYes) rfl sc_is_filling.nd (pi_tup (pv 1)) (blkOk_by (own := [("content", 2)]) (N := ["disk", "value", "content"]) (sc := defScope s_is_filling) (by decide +kernel)) (fun _ _ _ _ _ => (pg_name (i := 2) sc_is_filling.nd rfl (by first | exact Or.inl rfl | exact Or.inr rfl))) (fun _ _ _ _ _ => pts_nil) (fun _ _ _ _ _ => (pe_call (ok_is_content T) (hr.mono (by decide)) rfl T.g_is_content T.f_is_content.kp (b_is_content T) .nil pass0 (pa_cons (pv 0) (pa_cons (pv 2) pa_nil))))) pa_nil))))), ?_⟩
    refine ⟨_, rfl, v, .ty "tuple", _, _, _, rfl, .ty _, kd.tx, kd.isi (.inr (.inr (.inl rfl))), _, rfl, ?_⟩
    cases kd with
    | @tup a xs h =>
      have hf : filB H (.ref a) n q = (decide ((xs.length : Int) = n) && xs.all fun x => inR x 0 (q - 1)) := filB_tup h
      refine iteF ⟨_, rfl, a, _, rfl, .inr (SqT.of h), _, rfl, d, _, dx, _, _, rfl, hd, T.c_Disk, T.a_Disk_blocks, dkF_b n q, rfl, _, rfl, ?_⟩
      by_cases c : (xs.length : Int) = n
      · rw [show decide (V.int (xs.length : Int) = V.int n) = true from decide_eq_true (by rw [c])]
        refine iteF ?_
        refine ⟨_, rfl, a, rfl, ⟨_, SqT.of h⟩, fun D hD => lc_tup (K := K) (a := a) (xs := xs) (fun i H' => H' D = some (.lst (((xs.take i).map fun x => inR x 0 (q - 1)).map V.bl)) ∧ Same H H')
          ⟨upd_same, same_new hD⟩ (fun i H' _ z => SqT.of (z.2 _ _ h)) ?_ ?_⟩
        · rintro i x H' hx ⟨hl, S⟩
          obtain ⟨U, ku⟩ := (kt a xs rfl h).1 x (List.mem_of_getElem? hx)
          have hi : i < xs.length := (List.getElem?_eq_some_iff.mp hx).1
          refine ⟨rfl, ?_⟩
          unfold tYes
          refine iteT ?_
          refine ⟨_, rfl, _, rfl, d, n, q, x, U, rfl, ⟨dx, S _ _ hd⟩, ku.same S, _, hl, ?_, ?_⟩
          · rw [List.length_map, List.length_map, List.length_take]; exact small1000 (Nat.le_trans (Nat.min_le_right _ _) (kt a xs rfl h).2)
          · refine ⟨?_, fun b o e => ?_⟩
            · rw [upd_same, List.take_add_one, hx, List.map_append, List.map_append]; rfl
            · rw [upd_ne (ne_of_none e hD)]; exact S b o e
        · rintro H' ⟨hl, S⟩
          refine ⟨D, xs.map fun x => inR x 0 (q - 1), rfl, SqL.of (by rw [hl, List.take_length]), ?_⟩
          have e := k H' S
          rw [hf, decide_eq_true c, Bool.true_and] at e
          rw [List.all_map]; exact e
      · rw [show decide (V.int (xs.length : Int) = V.int n) = false from decide_eq_false (fun z => c (V.int.inj z))]
        refine iteT ?_
        rw [hf, decide_eq_false c] at k
        exact k H (Same.refl H)
    | non => exact iteT (iteT (k H (Same.refl H)))
    | bl b => exact iteT (iteT (k H (Same.refl H)))
    | int i => exact iteT (iteT (k H (Same.refl H)))
    | str x => exact iteT (iteT (k H (Same.refl H)))
    | lst h => exact iteT (iteT (by have e := k H (Same.refl H); (first | rw [filB_lst h] at e | rw [filB_dic h] at e); exact e))
    | dic h => exact iteT (iteT (by have e := k H (Same.refl H); (first | rw [filB_lst h] at e | rw [filB_dic h] at e); exact e))
end
end Ls

namespace Ls
open PySem PySem.Spec PyProof.Rows L2
/-- values that are pairs of ints -/
inductive Prs (H : Hp) : List V → List (Int × Int) → Prop
  | nil : Prs H [] []
  | cons {a : Addr} {b c : Int} {xs : List V} {ps : List (Int × Int)} : H a = some (.tup [.int b, .int c]) → Prs H xs ps → Prs H (.ref a :: xs) ((b, c) :: ps)
/-- tuples are kept -/
def KT (H H' : Hp) : Prop := ∀ a ts, H a = some (.tup ts) → H' a = some (.tup ts)
theorem KT.of {H H' : Hp} (S : Same H H') : KT H H' := fun a ts h => S _ _ h
theorem KT.put {H : Hp} {a : Addr} {o u : HO} (h : H a = some o) (n : ∀ ts, o ≠ .tup ts) : KT H (upd H a u) := fun b ts e => by
  rw [upd_ne (fun z => n ts (by rw [z, h] at e; exact Option.some.inj e))]; exact e
theorem Prs.kt {H H' : Hp} (S : KT H H') : ∀ {xs : List V} {ps : List (Int × Int)}, Prs H xs ps → Prs H' xs ps
  | _, _, .nil => .nil
  | _, _, .cons h r => .cons (S _ _ h) (r.kt S)
theorem Prs.len {H : Hp} : ∀ {xs : List V} {ps : List (Int × Int)}, Prs H xs ps → xs.length = ps.length
  | _, _, .nil => rfl
  | _, _, .cons _ r => congrArg Nat.succ r.len
theorem Prs.app {H : Hp} : ∀ {xs ys : List V} {ps qs : List (Int × Int)}, Prs H xs ps → Prs H ys qs → Prs H (xs ++ ys) (ps ++ qs)
  | _, _, _, _, .nil, r => r
  | _, _, _, _, .cons h s, r => .cons h (s.app r)
theorem Prs.at {H : Hp} : ∀ {xs : List V} {ps : List (Int × Int)} {i : Nat} {x : V}, Prs H xs ps → xs[i]? = some x → ∃ a b c, x = .ref a ∧ H a = some (.tup [.int b, .int c]) ∧ ps[i]? = some (b, c)
  | _, _, _, _, .nil, e => by simp at e
  | _, _, 0, _, .cons h _, e => by simp at e; exact ⟨_, _, _, e.symm, h, rfl⟩
  | _, _, i + 1, _, .cons _ r, e => by simpa using r.at (i := i) (by simpa using e)
def drF (d : Addr) (tn : Bool) (sa pa : Addr) : List (Str × V) := [("disk", .ref d), ("torn", .bl tn), ("_settled", .ref sa), ("_pending", .ref pa)]
theorem drF_d (d : Addr) (tn : Bool) (sa pa : Addr) : (drF d tn sa pa).lookup ("disk" : Str) = some (.ref d) := rfl
theorem drF_t (d : Addr) (tn : Bool) (sa pa : Addr) : (drF d tn sa pa).lookup ("torn" : Str) = some (.bl tn) := rfl
theorem drF_s (d : Addr) (tn : Bool) (sa pa : Addr) : (drF d tn sa pa).lookup ("_settled" : Str) = some (.ref sa) := rfl
theorem drF_p (d : Addr) (tn : Bool) (sa pa : Addr) : (drF d tn sa pa).lookup ("_pending" : Str) = some (.ref pa) := rfl
theorem drF_ns (d : Addr) (tn : Bool) (sa pa x : Addr) : putF "_settled" (.ref x) (drF d tn sa pa) = drF d tn x pa := rfl
theorem drF_np (d : Addr) (tn : Bool) (sa pa x : Addr) : putF "_pending" (.ref x) (drF d tn sa pa) = drF d tn sa x := rfl
/-- a drive stands at p: its disk at d, the settled filling st at sa, the pending writes pd at pa -/
structure DrAt (C CD : Addr) (H : Hp) (p d sa pa : Addr) (tn : Bool) (n q : Int) (st : List Int) (pd : List (Int × Int)) : Prop where
  ob : ∃ dx, H p = some (.ins C dx (drF d tn sa pa))
  dk : DkAt CD H d n q
  se : H sa = some (.tup (st.map V.int))
  pe : ∃ xs, H pa = some (.lst xs) ∧ Prs H xs pd
  ls : (st.length : Int) = n
  rs : ∀ c ∈ st, 0 ≤ c ∧ c < q
  rp : ∀ x ∈ pd, 0 ≤ x.1 ∧ x.1 < n ∧ 0 ≤ x.2 ∧ x.2 < q
  ln : pd.length ≤ 20000
  bn : 1 ≤ n ∧ n ≤ 24 ∧ 2 ≤ q ∧ q ≤ 64
/-- the filling behind writes -/
def putS (st : List Int) (pd : List (Int × Int)) : List Int := pd.foldl (fun l x => l.set x.1.toNat x.2) st
theorem putS_snoc (st : List Int) (pd : List (Int × Int)) (x : Int × Int) : putS st (pd ++ [x]) = (putS st pd).set x.1.toNat x.2 := by unfold putS; rw [List.foldl_append]; rfl
theorem putS_len (st : List Int) : ∀ (pd : List (Int × Int)), (putS st pd).length = st.length := by
  intro pd; induction pd generalizing st with
  | nil => rfl
  | cons x pd ih => show (putS (st.set x.1.toNat x.2) pd).length = _; rw [ih, List.length_set]
def spDkInit (C : Addr) : Sp := fun vs H Q _ => ∃ (p dx : Addr) (n q : Int), vs = [.ref p, .int n, .int q] ∧ H p = some (.ins C dx []) ∧ 1 ≤ n ∧ n ≤ 24 ∧ 2 ≤ q ∧ q ≤ 64 ∧
  ∀ H', DkAt C H' p n q → But p H H' → Q .non H'
def spSettled (C CD : Addr) : Sp := fun vs H Q _ => ∃ p d sa pa tn n q st pd, vs = [.ref p] ∧ DrAt C CD H p d sa pa tn n q st pd ∧ Q (.ref sa) H
def spPending (C CD : Addr) : Sp := fun vs H Q _ => ∃ p d sa pa tn n q st pd, vs = [.ref p] ∧ DrAt C CD H p d sa pa tn n q st pd ∧
  ∀ l xs H', H l = none → Same H H' → H' l = some (.lst xs) → Prs H xs pd → Q (.ref l) H'
def spDrFill (C CD : Addr) : Sp := fun vs H Q _ => ∃ p d sa pa tn n q st pd, vs = [.ref p] ∧ DrAt C CD H p d sa pa tn n q st pd ∧
  ∀ t H', Same H H' → H' t = some (.tup ((putS st pd).map V.int)) → Q (.ref t) H'
def spSettle (C CD : Addr) : Sp := fun vs H Q _ => ∃ p d sa pa tn n q st pd t st', vs = [.ref p, .ref t] ∧ DrAt C CD H p d sa pa tn n q st pd ∧ H t = some (.tup (st'.map V.int)) ∧ (st'.length : Int) = n ∧ (∀ c ∈ st', 0 ≤ c ∧ c < q) ∧
  ∀ pa' H', H pa' = none → DrAt C CD H' p d t pa' tn n q st' [] → But p H H' → Q .non H'
def spSync (C CD : Addr) : Sp := fun vs H Q _ => ∃ p d sa pa tn n q st pd, vs = [.ref p] ∧ DrAt C CD H p d sa pa tn n q st pd ∧
  ∀ sa' pa' H', H pa' = none → DrAt C CD H' p d sa' pa' tn n q (putS st pd) [] → But p H H' → Q (.int pd.length) H'
section
variable {P : Program} {w : World} {K : PySem.W.Frag} {mg : Str → Option Value} {base : Heap} {ad : Nat → Addr} {fd : Nat → FuncData}
theorem inR_in {i lo hi : Int} (h1 : lo ≤ i) (h2 : i ≤ hi) : inR (.int i) lo hi = true := by
  show (decide (lo ≤ i) && decide (i ≤ hi)) = true; rw [decide_eq_true h1, decide_eq_true h2]; rfl
theorem ok_Disk___init (T : Tx K mg ad fd) : FnOk P w K mg base CX0 2 (ad 1700) (fd 1700) ["self", "blocks", "contents"] (spDkInit (ad 100017)) := by
  refine T.f_Disk___init.ok sc_Disk___init (fun vs H Q E h => ?_) (fun cdv A outer s H vs Q E hr h => ?_)
  · obtain ⟨p, dx, n, q, rfl, _⟩ := h; rfl
  · obtain ⟨p, dx, n, q, rfl, hp, n1, n2, q1, q2, k⟩ := h
    obtain ⟨t1, h1⟩ := T.v_MOST_BLOCKS; obtain ⟨t2, h2⟩ := T.v_LEAST_CONTENTS; obtain ⟨t3, h3⟩ := T.v_MOST_CONTENTS
    refine ⟨_, (pss_cons (ps_if (pt_not (pt_val (pe_call (ok_is_within T) (hr.mono (by decide)) rfl T.g_is_within T.f_is_within.kp (b_is_within T) .nil pass0 (pa_cons (pv 1) (pa_cons pe_int (pa_cons (pe_glob (v := .int 24) rfl h1 ⟨_, rfl⟩) pa_nil))))))
        (pss_one ps_never)
        pss_nil)
      (pss_cons (ps_if (pt_not (pt_val (pe_call (ok_is_within T) (hr.mono (by decide)) rfl T.g_is_within T.f_is_within.kp (b_is_within T) .nil pass0 (pa_cons (pv 2) (pa_cons (pe_glob (v := .int 2) rfl h2 ⟨_, rfl⟩) (pa_cons (pe_glob (v := .int 64) rfl h3 ⟨_, rfl⟩) pa_nil))))))
        (pss_one ps_never)
        pss_nil)
      (pss_cons (ps_fld (pv 0) (pv 1) rfl)
      (pss_one (ps_fld (pv 0) (pv 2) rfl))))), ?_⟩
    refine ⟨_, rfl, .int n, _, 1, 24, rfl, .int n, _, rfl, ?_⟩
    rw [inR_in n1 n2]; refine iteF ?_
    refine ⟨_, rfl, .int q, _, 2, 64, rfl, .int q, _, rfl, ?_⟩
    rw [inR_in q1 q2]; refine iteF ?_
    refine ⟨_, rfl, _, rfl, p, _, dx, [], rfl, hp, T.c_Disk, T.a_Disk_blocks, (by show 0 < 1000; decide), _, rfl, _, rfl, p, _, dx, _, rfl, upd_same, T.c_Disk, T.a_Disk_contents, (by show 1 < 1000; decide), ?_⟩
    rw [upd_upd]
    exact k _ ⟨dx, upd_same⟩ But.put
theorem ok_Drive_settled (T : Tx K mg ad fd) : FnOk P w K mg base CX0 1 (ad 2204) (fd 2204) ["self"] (spSettled (ad 100022) (ad 100017)) := by
  refine T.f_Drive_settled.ok sc_Drive_settled (fun vs H Q E h => ?_) (fun cdv A outer s H vs Q E hr h => ?_)
  · obtain ⟨p, d, sa, pa, tn, n, q, st, pd, rfl, _⟩ := h; rfl
  · obtain ⟨p, d, sa, pa, tn, n, q, st, pd, rfl, D, k⟩ := h
    obtain ⟨dx, hp⟩ := D.ob
    exact ⟨_, (pss_one (ps_ret (pe_fld (pv 0) rfl))), _, rfl, p, _, dx, _, _, rfl, hp, T.c_Drive, T.a_Drive__settled, drF_s d tn sa pa, k⟩
theorem ok_Drive_pending (T : Tx K mg ad fd) : FnOk P w K mg base CX0 1 (ad 2203) (fd 2203) ["self"] (spPending (ad 100022) (ad 100017)) := by
  refine T.f_Drive_pending.ok sc_Drive_pending (fun vs H Q E h => ?_) (fun cdv A outer s H vs Q E hr h => ?_)
  · obtain ⟨p, d, sa, pa, tn, n, q, st, pd, rfl, _⟩ := h; rfl
  · obtain ⟨p, d, sa, pa, tn, n, q, st, pd, rfl, D, k⟩ := h
    obtain ⟨dx, hp⟩ := D.ob; obtain ⟨xs, hx, hr⟩ := D.pe
    exact ⟨_, (pss_one (ps_ret (pe_callTy call_list_of (by rfl) T.n_list (by decide +kernel) (pa_cons (pe_fld (pv 0) rfl) pa_nil)))), _, rfl, p, _, dx, _, _, rfl, hp, T.c_Drive, T.a_Drive__pending, drF_p d tn sa pa,
      pa, xs, rfl, .inl (SqL.of hx), fun l hl => k l xs _ hl (same_new hl) upd_same hr⟩
end
end Ls

namespace Ls
open PySem PySem.Spec PyProof.Rows L2
theorem ixN_in {n : Nat} {i : Int} (h0 : 0 ≤ i) (h1 : i < n) : ixN n i = some i.toNat := by
  unfold ixN; rw [if_pos h0, if_pos (by omega)]
theorem map_set (l : List Int) (j : Nat) (x : Int) : (l.map V.int).set j (.int x) = (l.set j x).map V.int := by rw [List.map_set]
theorem DrAt.same {C CD : Addr} {H H' : Hp} {p d sa pa : Addr} {tn : Bool} {n q : Int} {st : List Int} {pd : List (Int × Int)} (D : DrAt C CD H p d sa pa tn n q st pd) (S : Same H H') : DrAt C CD H' p d sa pa tn n q st pd := by
  obtain ⟨⟨dx, h1⟩, h2, h3, ⟨xs, h4, h5⟩, h6, h7, h8, h9, h10⟩ := D
  exact ⟨⟨dx, S _ _ h1⟩, h2.same S, S _ _ h3, ⟨xs, S _ _ h4, h5.kt (.of S)⟩, h6, h7, h8, h9, h10⟩
section
variable {P : Program} {w : World} {K : PySem.W.Frag} {mg : Str → Option Value} {base : Heap} {ad : Nat → Addr} {fd : Nat → FuncData}
theorem ok_Drive_filling (T : Tx K mg ad fd) : FnOk P w K mg base CX0 1 (ad 2205) (fd 2205) ["self"] (spDrFill (ad 100022) (ad 100017)) := by
  refine T.f_Drive_filling.ok sc_Drive_filling (fun vs H Q E h => ?_) (fun cdv A outer s H vs Q E hr h => ?_)
  · obtain ⟨p, d, sa, pa, tn, n, q, st, pd, rfl, _⟩ := h; rfl
  · obtain ⟨p, d, sa, pa, tn, n, q, st, pd, rfl, D, k⟩ := h
    obtain ⟨dx, hp⟩ := D.ob; obtain ⟨xs, hx, hrs⟩ := D.pe
    refine ⟨_, (pss_cons (ps_set (i := 1) sc_Drive_filling.nd rfl (by first | exact Or.inl rfl | exact Or.inr rfl) (pe_callTy call_list_of (by rfl) T.n_list (by decide +kernel) (pa_cons (pe_fld (pv 0) rfl) pa_nil)))
      (pss_cons (ps_for PassesOwn.never rfl (pi_list (pe_fld (pv 0) rfl)) (pg_tup rfl (pgs_cons (pg_name (i := 2) sc_Drive_filling.nd rfl (by first | exact Or.inl rfl | exact Or.inr rfl)) (pgs_cons (pg_name (i := 3) sc_Drive_filling.nd rfl (by first | exact Or.inl rfl | exact Or.inr rfl)) pgs_nil)))
        (pss_one (ps_asg (pv 3) (pg_sub (pv 1) (pv 2) set_list))))
      (pss_one (ps_ret (pe_callTy call_tuple_of (by rfl) T.n_tuple (by decide +kernel) (pa_cons (pv 1) pa_nil)))))), ?_⟩
    refine ⟨_, rfl, p, _, dx, _, _, rfl, hp, T.c_Drive, T.a_Drive__settled, drF_s d tn sa pa, sa, _, rfl, .inr (SqT.of D.se), fun l hl => ?_⟩
    have S0 : Same H (upd H l (.lst (st.map V.int))) := same_new hl
    refine ⟨_, rfl, p, _, dx, _, _, rfl, S0 _ _ hp, T.c_Drive, T.a_Drive__pending, drF_p d tn sa pa, pa, rfl, ⟨_, SqL.of (S0 _ _ hx)⟩,
      for_list (K := K) (a := pa) (xs := xs) (fun i σ H' => ∃ v2 v3, σ = [some (.ref p), some (.ref l), v2, v3] ∧ H' l = some (.lst ((putS st (pd.take i)).map V.int)) ∧ Same H H')
        ⟨none, none, rfl, upd_same, S0⟩ (fun i σ H' _ z => by obtain ⟨v2, v3, _, _, S⟩ := z; exact SqL.of (S _ _ hx)) ?_ ?_⟩
    · rintro i x σ H' hi ⟨v2, v3, rfl, h1, S⟩
      obtain ⟨a, b, c, rfl, ha, hpi⟩ := hrs.at hi
      obtain ⟨r1, r2, r3, r4⟩ := D.rp (b, c) (List.mem_of_getElem? hpi)
      refine ⟨a, _, rfl, SqT.of (S _ _ ha), rfl, _, _, rfl, _, _, rfl, rfl, ?_⟩
      refine ⟨_, rfl, _, rfl, _, rfl, l, _, b, b.toNat, rfl, rfl, h1, ixN_in r1 (by rw [List.length_map, putS_len, D.ls]; exact r2), ?_⟩
      refine ⟨_, _, rfl, ?_, fun a' o e => ?_⟩
      · rw [upd_same, map_set, List.take_add_one, hpi]
        show some (HO.lst _) = some (.lst ((putS st (pd.take i ++ [(b, c)])).map V.int)); rw [putS_snoc]
      · rw [upd_ne (ne_of_none e hl)]; exact S a' o e
    · rintro σ H' ⟨v2, v3, rfl, h1, S⟩
      rw [hrs.len, List.take_length] at h1
      exact ⟨_, rfl, l, _, rfl, .inl ⟨SqL.of h1, fun t ht => k t _ (S.trans (same_new ht)) upd_same⟩⟩
theorem ok_Drive__settle (T : Tx K mg ad fd) : FnOk P w K mg base CX0 1 (ad 2209) (fd 2209) ["self", "filling"] (spSettle (ad 100022) (ad 100017)) := by
  refine T.f_Drive__settle.ok sc_Drive__settle (fun vs H Q E h => ?_) (fun cdv A outer s H vs Q E hr h => ?_)
  · obtain ⟨p, d, sa, pa, tn, n, q, st, pd, t, st', rfl, _⟩ := h; rfl
  · obtain ⟨p, d, sa, pa, tn, n, q, st, pd, t, st', rfl, D, ht, hl, hr2, k⟩ := h
    obtain ⟨dx, hp⟩ := D.ob
    refine ⟨_, (pss_cons (ps_fld (pv 0) (pv 1) rfl) (pss_one (ps_fld (pv 0) (pe_lst pa_nil) rfl))), ?_⟩
    refine ⟨_, rfl, _, rfl, p, _, dx, _, rfl, hp, T.c_Drive, T.a_Drive__settled, (by show 4 < 1000; decide), (by show 0 ≤ sizeLine; decide), fun l hnl => ?_⟩
    have npl : p ≠ l := ne_of_none upd_same hnl
    have hnl' : H l = none := by rw [upd_ne npl.symm] at hnl; exact hnl
    refine ⟨_, rfl, p, _, dx, drF d tn t pa, rfl, ?_, T.c_Drive, T.a_Drive__pending, (by show 4 < 1000; decide), ?_⟩
    · rw [upd_ne npl, upd_same, drF_ns]
    · obtain ⟨dy, hd⟩ := D.dk
      have ndp : d ≠ p := ne_of hd hp fun z => by injection z with _ _ z; exact absurd (congrArg List.length z) (by show ¬ 2 = 4; decide)
      have up : ∀ a o, a ≠ p → H a = some o → upd (upd (upd H p (.ins (ad 100022) dx (putF "_settled" (.ref t) (drF d tn sa pa)))) l (.lst [])) p (.ins (ad 100022) dx (putF "_pending" (.ref l) (drF d tn t pa))) a = some o := fun a o n e => by
        rw [upd_ne n, upd_ne (ne_of_none e hnl'), upd_ne n]; exact e
      refine k l _ hnl' ⟨⟨dx, by rw [upd_same, drF_np]⟩, ⟨dy, up _ _ ndp hd⟩, up _ _ (ne_of ht hp (by intro z; cases z)) ht, ⟨[], by rw [upd_ne npl.symm, upd_same], .nil⟩, hl, hr2, fun x hx => (by cases hx), Nat.zero_le _, D.bn⟩ fun a o n e => up a o n e
end
end Ls

namespace Ls
open PySem PySem.Spec PyProof.Rows L2
def isRaise (H : Hp) (E : XK) (C : Addr) (fld : Str) (v : V) : Prop := ∀ d, H d = none → E (.ref C) (some d) (upd H d (.xd [(fld, v)]))
def spWrite (C CD CB CC : Addr) : Sp := fun vs H Q E => ∃ p d sa pa tn n q st pd v1 v2 U1 U2, vs = [.ref p, v1, v2] ∧ DrAt C CD H p d sa pa tn n q st pd ∧ Kd H v1 U1 ∧ Kd H v2 U2 ∧ pd.length < 20000 ∧
  (inR v1 0 (n - 1) = false → isRaise H E CB "given" v1) ∧ (inR v1 0 (n - 1) = true → inR v2 0 (q - 1) = false → isRaise H E CC "given" v2) ∧
  (∀ b c, v1 = .int b → v2 = .int c → 0 ≤ b → b < n → 0 ≤ c → c < q → ∀ H', DrAt C CD H' p d sa pa tn n q st (pd ++ [(b, c)]) → But pa H H' → Q .non H')
theorem putS_rng {n q : Int} : ∀ {pd : List (Int × Int)} {st : List Int}, (∀ c ∈ st, 0 ≤ c ∧ c < q) → (∀ x ∈ pd, 0 ≤ x.1 ∧ x.1 < n ∧ 0 ≤ x.2 ∧ x.2 < q) → ∀ c ∈ putS st pd, 0 ≤ c ∧ c < q
  | [], st, h, _ => h
  | x :: pd, st, h, hp => putS_rng (pd := pd) (st := st.set x.1.toNat x.2) (fun c hc => by
      rcases List.mem_or_eq_of_mem_set hc with z | z
      · exact h c z
      · rw [z]; exact (hp x (List.mem_cons_self ..)).2.2) fun y hy => hp y (List.mem_cons_of_mem _ hy)
theorem inR_true {v : V} {lo hi : Int} (h : inR v lo hi = true) : ∃ i, v = .int i ∧ lo ≤ i ∧ i ≤ hi := by
  cases v with
  | int i =>
    have h' : (decide (lo ≤ i) && decide (i ≤ hi)) = true := h
    simp at h'; exact ⟨i, rfl, h'.1, h'.2⟩
  | _ => cases h
section
variable {P : Program} {w : World} {K : PySem.W.Frag} {mg : Str → Option Value} {base : Heap} {ad : Nat → Addr} {fd : Nat → FuncData}
theorem ok_Drive_write (T : Tx K mg ad fd) : FnOk P w K mg base (L2.CX P w) 3 (ad 2201) (fd 2201) ["self", "block", "content"] (spWrite (ad 100022) (ad 100017) (ad 100005) (ad 100006)) := by
  refine T.f_Drive_write.okX sc_Drive_write (fun vs H Q E h => ?_) (fun cdv A outer s H vs Q E hr h => ?_)
  · obtain ⟨p, d, sa, pa, tn, n, q, st, pd, v1, v2, U1, U2, rfl, _⟩ := h; rfl
  · obtain ⟨p, d, sa, pa, tn, n, q, st, pd, v1, v2, U1, U2, rfl, D, k1, k2, hl, e1, e2, k⟩ := h
    obtain ⟨dx, hp⟩ := D.ob; obtain ⟨xs, hx, hrs⟩ := D.pe
    refine ⟨_, (pss_cons (ps_if (pt_not (pt_val (pe_call (ok_is_block T) (hr.mono (by decide)) rfl T.g_is_block T.f_is_block.kp (b_is_block T) .nil pass0 (pa_cons (pe_fld (pv 0) rfl) (pa_cons (pv 1) pa_nil)))))
        (pss_one (ps_raise rfl (takes_of rfl rfl rfl rfl) (pmk_err (e_InvalidBlock T) (hr.mono (by decide)) rfl (pv 1))))
        pss_nil)
      (pss_cons (ps_if (pt_not (pt_val (pe_call (ok_is_content T) (hr.mono (by decide)) rfl T.g_is_content T.f_is_content.kp (b_is_content T) .nil pass0 (pa_cons (pe_fld (pv 0) rfl) (pa_cons (pv 2) pa_nil)))))
        (pss_one (ps_raise rfl (takes_of rfl rfl rfl rfl) (pmk_err (e_InvalidContent T) (hr.mono (by decide)) rfl (pv 2))))
        pss_nil)
      (pss_one (ps_expr (pe_bm PySem.F.plainAttrs_list PySem.F.slot_list_append PySem.F.type_list_append mt_append (pe_fld (pv 0) rfl) (pa_cons (pe_tup (pa_cons (pv 1) (pa_cons (pv 2) pa_nil))) pa_nil)))))), ?_⟩
    refine ⟨_, rfl, p, _, dx, _, _, rfl, hp, T.c_Drive, T.a_Drive_disk, drF_d d tn sa pa, _, rfl, d, n, q, v1, U1, rfl, D.dk, k1, _, rfl, ?_⟩
    cases c1 : inR v1 0 (n - 1) with
    | false => exact iteT ⟨_, rfl, e1 c1⟩
    | true =>
      refine iteF ?_
      refine ⟨_, rfl, p, _, dx, _, _, rfl, hp, T.c_Drive, T.a_Drive_disk, drF_d d tn sa pa, _, rfl, d, n, q, v2, U2, rfl, D.dk, k2, _, rfl, ?_⟩
      cases c2 : inR v2 0 (q - 1) with
      | false => exact iteT ⟨_, rfl, e2 c1 c2⟩
      | true =>
        obtain ⟨b, rfl, b0, b1⟩ := inR_true c1
        obtain ⟨c, rfl, c0, c3⟩ := inR_true c2
        refine iteF ?_
        refine ⟨_, rfl, p, _, dx, _, _, rfl, hp, T.c_Drive, T.a_Drive__pending, drF_p d tn sa pa, .inl ⟨rfl, _, SqL.of hx⟩, _, rfl, _, rfl, (by show 2 ≤ sizeLine; decide), fun t ht => ?_⟩
        have npt : pa ≠ t := ne_of_none hx ht
        refine ⟨pa, xs, _, rfl, rfl, by rw [upd_ne npt]; exact hx, by rw [hrs.len]; exact Nat.lt_of_lt_of_le hl (by decide), ?_⟩
        have up : ∀ a o, a ≠ pa → H a = some o → upd (upd H t (.tup [.int b, .int c])) pa (.lst (xs ++ [.ref t])) a = some o := fun a o n e => by
          rw [upd_ne n, upd_ne (ne_of_none e ht)]; exact e
        obtain ⟨dy, hd⟩ := D.dk
        refine k b c rfl rfl b0 (by omega) c0 (by omega) _ ⟨⟨dx, up _ _ (ne_of hp hx (by intro z; cases z)) hp⟩, ⟨dy, up _ _ (ne_of hd hx (by intro z; cases z)) hd⟩, up _ _ (ne_of D.se hx (by intro z; cases z)) D.se,
          ⟨_, upd_same, (hrs.kt fun a ts h => up _ _ (ne_of h hx (by intro z; cases z)) h).app (.cons (by rw [upd_ne npt.symm, upd_same]) .nil)⟩, D.ls, D.rs, fun x hx' => ?_, by rw [List.length_append]; show pd.length + 1 ≤ _; omega, D.bn⟩ fun a o n e => up a o n e
        rcases List.mem_append.mp hx' with z | z
        · exact D.rp x z
        · rw [List.mem_singleton.mp z]; exact ⟨b0, by show b < n; omega, c0, by show c < q; omega⟩
theorem ok_Drive_sync (T : Tx K mg ad fd) : FnOk P w K mg base CX0 2 (ad 2202) (fd 2202) ["self"] (spSync (ad 100022) (ad 100017)) := by
  refine T.f_Drive_sync.ok sc_Drive_sync (fun vs H Q E h => ?_) (fun cdv A outer s H vs Q E hr h => ?_)
  · obtain ⟨p, d, sa, pa, tn, n, q, st, pd, rfl, _⟩ := h; rfl
  · obtain ⟨p, d, sa, pa, tn, n, q, st, pd, rfl, D, k⟩ := h
    obtain ⟨dx, hp⟩ := D.ob; obtain ⟨xs, hx, hrs⟩ := D.pe
    refine ⟨_, (pss_cons (ps_set (i := 1) sc_Drive_sync.nd rfl (by first | exact Or.inl rfl | exact Or.inr rfl) (pe_callB call_len_seq (by rfl) T.n_len (by decide +kernel) (pa_cons (pe_fld (pv 0) rfl) pa_nil)))
      (pss_cons (ps_expr (pe_meth (pv 0) T.c_Drive T.m_Drive__settle (ok_Drive__settle T) (hr.mono (by decide)) (b_Drive__settle T) .nil pass0 (pa_cons (pe_meth0 (pv 0) T.c_Drive T.m_Drive_filling (ok_Drive_filling T) (hr.mono (by decide)) (b_Drive_filling T) .nil pass0) pa_nil)))
      (pss_one (ps_ret (pv 1))))), ?_⟩
    refine ⟨_, rfl, p, _, dx, _, _, rfl, hp, T.c_Drive, T.a_Drive__pending, drF_p d tn sa pa, pa, _, rfl, .inl (SqL.of hx), ?_⟩
    refine ⟨_, rfl, p, dx, _, rfl, hp, rfl, _, rfl, p, dx, _, rfl, hp, rfl, p, d, sa, pa, tn, n, q, st, pd, rfl, D, fun t H1 S ht => ?_⟩
    refine ⟨p, d, sa, pa, tn, n, q, st, pd, t, putS st pd, rfl, D.same S, ht, by rw [putS_len]; exact D.ls, putS_rng D.rs D.rp, fun pa' H' hn' D' B => ⟨_, rfl, ?_⟩⟩
    rw [hrs.len]
    exact k t pa' H' (S.free hn') D' fun a o n e => B a o n (S _ _ e)
end
end Ls

namespace Ls
open PySem PySem.Spec PyProof.Rows L2
/-- whether a cut may leave the content c in the block j -/
def mayC (st : List Int) (pd : List (Int × Int)) (tn : Bool) (q : Int) (j : Nat) (c : Int) : Prop :=
  st[j]? = some c ∨ ∃ x ∈ pd, x.1 = (j : Int) ∧ (if tn = true then 0 ≤ c ∧ c < q else c = x.2)
theorem nodup_at {α : Type} : ∀ {l : List α} {i j : Nat} {a : α}, l.Nodup → l[i]? = some a → l[j]? = some a → i = j := by
  intro l i j a hn hi hj
  obtain ⟨h1, e1⟩ := List.getElem?_eq_some_iff.mp hi; obtain ⟨h2, e2⟩ := List.getElem?_eq_some_iff.mp hj
  rcases Nat.lt_trichotomy i j with c | c | c
  · exact absurd (e1.trans e2.symm) (List.pairwise_iff_getElem.mp hn i j h1 h2 c)
  · exact c
  · exact absurd (e2.trans e1.symm) (List.pairwise_iff_getElem.mp hn j i h2 h1 c)
theorem nodup_set {α : Type} : ∀ {l : List α} {i : Nat} {a : α}, l.Nodup → a ∉ l → (l.set i a).Nodup
  | [], _, _, h, _ => h
  | x :: l, 0, a, h, n => by
    have h' := List.nodup_cons.mp h
    exact List.nodup_cons.mpr ⟨fun z => n (List.mem_cons_of_mem _ z), h'.2⟩
  | x :: l, i + 1, a, h, n => by
    have h' := List.nodup_cons.mp h
    refine List.nodup_cons.mpr ⟨fun z => ?_, nodup_set h'.2 fun z => n (List.mem_cons_of_mem _ z)⟩
    rcases List.mem_or_eq_of_mem_set z with q | q
    · exact h'.1 q
    · exact n (q ▸ List.mem_cons_self ..)
/-- at D a list of the lists css, each of its own, all new since H0 -/
structure Fnd (H0 H : Hp) (D : Addr) (as : List Addr) (css : List (List Int)) : Prop where
  l : H D = some (.lst (as.map V.ref))
  e : as.length = css.length
  g : ∀ (j : Nat) (a : Addr) (cs : List Int), as[j]? = some a → css[j]? = some cs → H a = some (.lst (cs.map V.int))
  nd : as.Nodup
  fr : ∀ a ∈ as, H0 a = none ∧ a ≠ D
  D0 : H0 D = none
  S : Same H0 H
theorem Fnd.there {H0 H : Hp} {D : Addr} {as : List Addr} {css : List (List Int)} (F : Fnd H0 H D as css) {a : Addr} (h : a ∈ as) : ∃ cs : List Int, H a = some (.lst (cs.map V.int)) := by
  obtain ⟨j, hj⟩ := List.mem_iff_getElem?.mp h
  have hl : j < css.length := F.e ▸ (List.getElem?_eq_some_iff.mp hj).1
  exact ⟨_, F.g j a _ hj (List.getElem?_eq_getElem hl)⟩
theorem Fnd.push {H0 H : Hp} {D p : Addr} {as : List Addr} {css : List (List Int)} {cs : List Int} (F : Fnd H0 H D as css) (hp : H p = none) :
    Fnd H0 (upd (upd H p (.lst (cs.map V.int))) D (.lst (as.map V.ref ++ [.ref p]))) D (as ++ [p]) (css ++ [cs]) := by
  have npD : p ≠ D := fun z => by rw [z, F.l] at hp; cases hp
  have nas : ∀ a ∈ as, a ≠ p := fun a ha z => by obtain ⟨c, hc⟩ := F.there ha; rw [z, hp] at hc; cases hc
  refine ⟨by rw [upd_same, List.map_append]; rfl, by rw [List.length_append, List.length_append, F.e]; rfl, fun j a c hj hc => ?_, ?_, fun a ha => ?_, F.D0, fun a o h => ?_⟩
  · by_cases h1 : j < as.length
    · rw [List.getElem?_append_left h1] at hj; rw [List.getElem?_append_left (F.e ▸ h1)] at hc
      have ha := List.mem_of_getElem? hj
      rw [upd_ne (F.fr a ha).2, upd_ne (nas a ha)]; exact F.g j a c hj hc
    · rw [List.getElem?_append_right (by omega)] at hj; rw [List.getElem?_append_right (by rw [← F.e]; omega)] at hc
      have e0 : j - as.length = 0 := by have := (List.getElem?_eq_some_iff.mp hj).1; simp at this; omega
      rw [e0] at hj; rw [← F.e, e0] at hc; cases hj; cases hc
      rw [upd_ne npD, upd_same]
  · refine List.nodup_append.mpr ⟨F.nd, by simp, fun a ha b hb => ?_⟩
    rw [List.mem_singleton.mp hb]; exact nas a ha
  · rcases List.mem_append.mp ha with z | z
    · exact F.fr a z
    · rw [List.mem_singleton.mp z]; exact ⟨F.S.free hp, npD⟩
  · rw [upd_ne (ne_of_none h F.D0), upd_ne (ne_of_none (F.S _ _ h) hp)]; exact F.S _ _ h
theorem Fnd.put {H0 H : Hp} {D p : Addr} {as : List Addr} {css : List (List Int)} {cs : List Int} {i : Nat} (F : Fnd H0 H D as css) (hp : H p = none) (hi : i < as.length) :
    Fnd H0 (upd (upd H p (.lst (cs.map V.int))) D (.lst ((as.map V.ref).set i (.ref p)))) D (as.set i p) (css.set i cs) := by
  have npD : p ≠ D := fun z => by rw [z, F.l] at hp; cases hp
  have nas : ∀ a ∈ as, a ≠ p := fun a ha z => by obtain ⟨c, hc⟩ := F.there ha; rw [z, hp] at hc; cases hc
  refine ⟨by rw [upd_same, List.map_set], by rw [List.length_set, List.length_set, F.e], fun j a c hj hc => ?_, ?_, fun a ha => ?_, F.D0, fun a o h => ?_⟩
  · by_cases h1 : j = i
    · subst h1
      rw [List.getElem?_set_self hi] at hj; rw [List.getElem?_set_self (F.e ▸ hi)] at hc; cases hj; cases hc
      rw [upd_ne npD, upd_same]
    · rw [List.getElem?_set_ne (Ne.symm h1)] at hj; rw [List.getElem?_set_ne (Ne.symm h1)] at hc
      have ha := List.mem_of_getElem? hj
      rw [upd_ne (F.fr a ha).2, upd_ne (nas a ha)]; exact F.g j a c hj hc
  · exact nodup_set F.nd fun z => nas p z rfl
  · rcases List.mem_or_eq_of_mem_set ha with z | z
    · exact F.fr a z
    · rw [z]; exact ⟨F.S.free hp, npD⟩
  · rw [upd_ne (ne_of_none h F.D0), upd_ne (ne_of_none (F.S _ _ h) hp)]; exact F.S _ _ h
theorem Fnd.app {H0 H : Hp} {D a : Addr} {as : List Addr} {css : List (List Int)} {cs : List Int} {i : Nat} {c : Int} (F : Fnd H0 H D as css) (hi : as[i]? = some a) (hc : css[i]? = some cs) :
    Fnd H0 (upd H a (.lst (cs.map V.int ++ [.int c]))) D as (css.set i (cs ++ [c])) := by
  have ha := List.mem_of_getElem? hi
  have hl := (List.getElem?_eq_some_iff.mp hc).1
  refine ⟨by rw [upd_ne (F.fr a ha).2.symm]; exact F.l, by rw [List.length_set, F.e], fun j b d hj hd => ?_, F.nd, F.fr, F.D0, fun b o h => ?_⟩
  · by_cases h1 : j = i
    · subst h1
      rw [hi] at hj; cases hj
      rw [List.getElem?_set_self hl] at hd; cases hd
      rw [upd_same, List.map_append]; rfl
    · rw [List.getElem?_set_ne (Ne.symm h1)] at hd
      rw [upd_ne fun z => h1 (nodup_at F.nd hj (by rw [z]; exact hi))]; exact F.g j b d hj hd
  · rw [upd_ne (ne_of_none h (F.fr a ha).1)]; exact F.S _ _ h
/-- the contents in each list are those that a cut may leave -/
def AllC (st : List Int) (pd : List (Int × Int)) (tn : Bool) (q : Int) (css : List (List Int)) : Prop :=
  css.length = st.length ∧ ∀ (j : Nat) (cs : List Int), css[j]? = some cs → (∀ c, c ∈ cs ↔ mayC st pd tn q j c) ∧ cs.length ≤ 64 + pd.length
theorem Fnd.same {H0 H H' : Hp} {D : Addr} {as : List Addr} {css : List (List Int)} (F : Fnd H0 H D as css) (S : Same H H') : Fnd H0 H' D as css :=
  ⟨S _ _ F.l, F.e, fun j a cs h h' => S _ _ (F.g j a cs h h'), F.nd, F.fr, F.D0, F.S.trans S⟩
theorem Fnd.down {H0 H1 H : Hp} {D : Addr} {as : List Addr} {css : List (List Int)} (F : Fnd H1 H D as css) (S : Same H0 H1) : Fnd H0 H D as css :=
  ⟨F.l, F.e, F.g, F.nd, fun a h => ⟨S.free (F.fr a h).1, (F.fr a h).2⟩, S.free F.D0, S.trans F.S⟩
theorem AllC.torn {st : List Int} {pd : List (Int × Int)} {q : Int} {css : List (List Int)} {b c : Int} (h : AllC st pd true q css) (hs : ∀ c ∈ st, 0 ≤ c ∧ c < q) (b0 : 0 ≤ b) (q0 : 0 ≤ q) (q1 : q ≤ 64) :
    AllC st (pd ++ [(b, c)]) true q (css.set b.toNat ((List.range q.toNat).map fun i => ((i : Nat) : Int))) := by
  refine ⟨by rw [List.length_set]; exact h.1, fun j cs hj => ?_⟩
  by_cases e : j = b.toNat
  · subst e
    have hl : b.toNat < css.length := by have := (List.getElem?_eq_some_iff.mp hj).1; rw [List.length_set] at this; exact this
    rw [List.getElem?_set_self hl] at hj; cases hj
    refine ⟨fun d => ?_, ?_⟩
    · rw [List.mem_map]
      constructor
      · rintro ⟨i, hi, rfl⟩
        have := List.mem_range.mp hi
        exact .inr ⟨(b, c), by simp, by show b = _; omega, by show 0 ≤ ((i : Nat) : Int) ∧ ((i : Nat) : Int) < q; omega⟩
      · intro hm
        have hd : 0 ≤ d ∧ d < q := by
          rcases hm with z | ⟨x, _, _, z⟩
          · exact hs d (List.mem_of_getElem? z)
          · simpa using z
        exact ⟨d.toNat, List.mem_range.mpr (by omega), by omega⟩
    · rw [List.length_map, List.length_range, List.length_append]; omega
  · rw [List.getElem?_set_ne (Ne.symm e)] at hj
    obtain ⟨h1, h2⟩ := h.2 j cs hj
    refine ⟨fun d => (h1 d).trans ?_, by rw [List.length_append]; omega⟩
    constructor
    · rintro (z | ⟨x, hx, z⟩)
      · exact .inl z
      · exact .inr ⟨x, List.mem_append_left _ hx, z⟩
    · rintro (z | ⟨x, hx, z1, z2⟩)
      · exact .inl z
      · rcases List.mem_append.mp hx with y | y
        · exact .inr ⟨x, y, z1, z2⟩
        · rw [List.mem_singleton.mp y] at z1; exact absurd (show j = b.toNat by have : b = (j : Int) := z1; omega) e
theorem AllC.whole {st : List Int} {pd : List (Int × Int)} {q : Int} {css : List (List Int)} {b c : Int} {cs0 : List Int} (h : AllC st pd false q css) (b0 : 0 ≤ b) (hc : css[b.toNat]? = some cs0) :
    AllC st (pd ++ [(b, c)]) false q (css.set b.toNat (cs0 ++ [c])) := by
  refine ⟨by rw [List.length_set]; exact h.1, fun j cs hj => ?_⟩
  by_cases e : j = b.toNat
  · subst e
    have hl : b.toNat < css.length := (List.getElem?_eq_some_iff.mp hc).1
    rw [List.getElem?_set_self hl] at hj; cases hj
    obtain ⟨h1, h2⟩ := h.2 _ cs0 hc
    refine ⟨fun d => ?_, by rw [List.length_append, List.length_append]; show cs0.length + 1 ≤ 64 + (pd.length + 1); omega⟩
    rw [List.mem_append, h1 d, List.mem_singleton]
    constructor
    · rintro ((z | ⟨x, hx, z⟩) | z)
      · exact .inl z
      · exact .inr ⟨x, List.mem_append_left _ hx, z⟩
      · exact .inr ⟨(b, c), by simp, by show b = _; omega, by simpa using z⟩
    · rintro (z | ⟨x, hx, z1, z2⟩)
      · exact .inl (.inl z)
      · rcases List.mem_append.mp hx with y | y
        · exact .inl (.inr ⟨x, y, z1, z2⟩)
        · rw [List.mem_singleton.mp y] at z2; exact .inr (by simpa using z2)
  · rw [List.getElem?_set_ne (Ne.symm e)] at hj
    obtain ⟨h1, h2⟩ := h.2 j cs hj
    refine ⟨fun d => (h1 d).trans ?_, by rw [List.length_append]; omega⟩
    constructor
    · rintro (z | ⟨x, hx, z⟩)
      · exact .inl z
      · exact .inr ⟨x, List.mem_append_left _ hx, z⟩
    · rintro (z | ⟨x, hx, z1, z2⟩)
      · exact .inl z
      · rcases List.mem_append.mp hx with y | y
        · exact .inr ⟨x, y, z1, z2⟩
        · rw [List.mem_singleton.mp y] at z1; exact absurd (show j = b.toNat by have : b = (j : Int) := z1; omega) e
theorem rgV_zero (q : Int) : rgV 0 q = ((List.range q.toNat).map fun i => ((i : Nat) : Int)).map V.int := by
  unfold rgV; rw [List.map_map, Int.sub_zero]; exact List.map_congr_left fun i _ => congrArg V.int (Int.zero_add _)
def spChoices (C CD : Addr) : Sp := fun vs H Q _ => ∃ p d sa pa tn n q st pd, vs = [.ref p] ∧ DrAt C CD H p d sa pa tn n q st pd ∧ pd.length ≤ 900 ∧
  ∀ l as css H', Fnd H H' l as css → AllC st pd tn q css → Q (.ref l) H'
section
variable {P : Program} {w : World} {K : PySem.W.Frag} {mg : Str → Option Value} {base : Heap} {ad : Nat → Addr} {fd : Nat → FuncData}
theorem ok_Drive__choices (T : Tx K mg ad fd) : FnOk P w K mg base CX0 1 (ad 2210) (fd 2210) ["self"] (spChoices (ad 100022) (ad 100017)) := by
  refine T.f_Drive__choices.ok sc_Drive__choices (fun vs H Q E h => ?_) (fun cdv A outer s H vs Q E hr h => ?_)
  · obtain ⟨p, d, sa, pa, tn, n, q, st, pd, rfl, _⟩ := h; rfl
  · obtain ⟨p, d, sa, pa, tn, n, q, st, pd, rfl, D, hl9, k⟩ := h
    obtain ⟨dx, hp⟩ := D.ob; obtain ⟨xs, hx, hrs⟩ := D.pe; obtain ⟨dy, hd⟩ := D.dk
    refine ⟨_, (pss_cons (ps_setLc (i := 1) (own := [("content", 3)]) (g := gName 3) (tt := tYes) rfl sc_Drive__choices.nd rfl rfl (sw_true rfl rfl rfl (by decide +kernel)) (pi_tup (pe_fld (pv 0) rfl)) (blkOk_by (own := [("content", 3)]) (N := ["self", "found", "block", "content", "choice"]) (sc := defScope s_Drive__choices) (by decide +kernel)) (fun _ _ _ _ _ => (pg_name (i := 3) sc_Drive__choices.nd rfl (by first | exact Or.inl rfl | exact Or.inr rfl))) (fun _ _ _ _ _ => pts_nil) (fun _ _ _ _ _ => (pe_lst (pa_cons (pv 3) pa_nil))))
      (pss_cons (ps_for PassesOwn.never rfl (pi_list (pe_fld (pv 0) rfl)) (pg_tup rfl (pgs_cons (pg_name (i := 2) sc_Drive__choices.nd rfl (by first | exact Or.inl rfl | exact Or.inr rfl)) (pgs_cons (pg_name (i := 3) sc_Drive__choices.nd rfl (by first | exact Or.inl rfl | exact Or.inr rfl)) pgs_nil)))
        (pss_one (ps_if (pt_cmpR op_isBl (pe_fld (pv 0) rfl) pe_bl (nomark _))
        (pss_one (ps_asg (pe_listRg rfl (by rfl) T.n_list (prg_1 (by rfl) T.n_range (pe_fld (pe_fld (pv 0) rfl) rfl))) (pg_sub (pv 1) (pv 2) set_list)))
        (pss_one (ps_expr (pe_bm PySem.F.plainAttrs_list PySem.F.slot_list_append PySem.F.type_list_append mt_append (pe_ix ix_list (pv 1) (pv 2) (fun _ _ => rfl)) (pa_cons (pv 3) pa_nil)))))))
      (pss_one (ps_ret (pe_lc (own := [("choice", 4)]) (g := gName 4) (tt := tYes) rfl sc_Drive__choices.nd (pi_list (pv 1)) (blkOk_by (own := [("choice", 4)]) (N := ["self", "found", "block", "content", "choice"]) (sc := defScope s_Drive__choices) (by decide +kernel)) (fun _ _ _ _ _ => (pg_name (i := 4) sc_Drive__choices.nd rfl (by first | exact Or.inl rfl | exact Or.inr rfl))) (fun _ _ _ _ _ => pts_nil) (fun _ _ _ _ _ => (pe_callB (id := "sorted") (r := rSortSet w) (cr_sortSet rfl) (by rfl) T.n_sorted (by decide +kernel) (pa_cons (pe_callTy (T := "set") (r := rSetI K w) (cr_setI rfl) (by rfl) T.n_set (by decide +kernel) (pa_cons (pv 4) pa_nil)) pa_nil)))))))), ?_⟩
    refine ⟨_, rfl, p, _, dx, _, _, rfl, hp, T.c_Drive, T.a_Drive__settled, drF_s d tn sa pa, sa, rfl, ⟨_, SqT.of D.se⟩, fun D1 hD1 =>
      lc_tup (K := K) (a := sa) (xs := st.map V.int) (fun i H' => ∃ as, Fnd H H' D1 as ((st.take i).map fun c => [c])) ⟨[], (upd_same : upd H D1 (.lst []) D1 = _), rfl, (fun j a cs hj => by simp at hj), List.nodup_nil, (fun a ha => by cases ha), hD1, same_new hD1⟩
      (fun i H' _ z => by obtain ⟨as, F⟩ := z; exact SqT.of (F.S _ _ D.se)) ?_ ?_⟩
    · rintro i x H' hi ⟨as, F⟩
      obtain ⟨c, hc, rfl⟩ : ∃ c, st[i]? = some c ∧ x = .int c := by
        rw [List.getElem?_map] at hi
        cases e : st[i]? with
        | none => rw [e] at hi; cases hi
        | some c => rw [e] at hi; exact ⟨c, rfl, (Option.some.inj hi).symm⟩
      refine ⟨rfl, ?_⟩
      unfold tYes; refine iteT ?_
      refine ⟨_, rfl, (by show 1 ≤ sizeLine; decide), fun p1 hp1 => ⟨as.map V.ref, by rw [upd_ne fun z => (by rw [← z, F.l] at hp1; cases hp1)]; exact F.l, ?_, as ++ [p1], ?_⟩⟩
      · rw [List.length_map, F.e, List.length_map, List.length_take]
        have := D.ls; have := D.bn.2.1; exact small1000 (by omega)
      · rw [List.take_add_one, hc, List.map_append]
        exact F.push (cs := [c]) hp1
    · rintro H' ⟨as, F⟩
      rw [List.length_map, List.take_length] at F
      have A0 : AllC st [] tn q (st.map fun c => [c]) := by
        refine ⟨List.length_map .., fun j cs hj => ?_⟩
        rw [List.getElem?_map] at hj
        cases e : st[j]? with
        | none => rw [e] at hj; cases hj
        | some c =>
          rw [e] at hj; cases hj
          refine ⟨fun d => ⟨fun hd => .inl (by rw [List.mem_singleton.mp hd]; exact e), fun hd => ?_⟩, by show 1 ≤ 64 + 0; decide⟩
          rcases hd with z | ⟨x, hx, _⟩
          · rw [e] at z; cases z; exact List.mem_cons_self
          · cases hx
      refine ⟨_, rfl, p, _, dx, _, _, rfl, F.S _ _ hp, T.c_Drive, T.a_Drive__pending, drF_p d tn sa pa, pa, rfl, ⟨_, SqL.of (F.S _ _ hx)⟩,
        for_list (K := K) (a := pa) (xs := xs) (fun i σ H'' => ∃ v2 v3 v4 as css, σ = [some (.ref p), some (.ref D1), v2, v3, v4] ∧ Fnd H H'' D1 as css ∧ AllC st (pd.take i) tn q css)
          ⟨none, none, none, as, _, rfl, F, A0⟩ (fun i σ H' _ z => by obtain ⟨v2, v3, v4, as, css, _, F, _⟩ := z; exact SqL.of (F.S _ _ hx)) ?_ ?_⟩
      · rintro i x σ H2 hi ⟨v2, v3, v4, as, css, rfl, F, A1⟩
        obtain ⟨a, b, c, rfl, ha, hpi⟩ := hrs.at hi
        obtain ⟨r1, r2, r3, r4⟩ := D.rp (b, c) (List.mem_of_getElem? hpi)
        refine ⟨a, _, rfl, SqT.of (F.S _ _ ha), rfl, _, _, rfl, _, _, rfl, rfl, ?_⟩
        refine ⟨_, rfl, p, _, dx, _, _, rfl, F.S _ _ hp, T.c_Drive, T.a_Drive_torn, drF_t d tn sa pa, tn, true, rfl, rfl, ?_⟩
        have hjl : b.toNat < as.length := by rw [F.e, A1.1]; have := D.ls; omega
        have hjc : b.toNat < css.length := F.e ▸ hjl
        obtain ⟨ai, hai⟩ : ∃ ai, as[b.toNat]? = some ai := ⟨_, List.getElem?_eq_getElem hjl⟩
        obtain ⟨cs, hcs⟩ : ∃ cs, css[b.toNat]? = some cs := ⟨_, List.getElem?_eq_getElem hjc⟩
        have q0 := D.bn.2.2.1; have q1 := D.bn.2.2.2
        cases tn with
        | true =>
          refine ⟨_, rfl, iteT ?_⟩
          refine ⟨_, rfl, p, _, dx, _, _, rfl, F.S _ _ hp, T.c_Drive, T.a_Drive_disk, drF_d d true sa pa, d, _, dy, _, _, rfl, F.S _ _ hd, T.c_Disk, T.a_Disk_contents, dkF_c n q, q, rfl, RgOk.of_le (by decide) (by omega) (by decide) (by omega), fun l hl => ?_⟩
          rw [rgV_zero]
          refine ⟨_, rfl, _, rfl, D1, as.map V.ref, b, b.toNat, rfl, rfl, by rw [upd_ne fun z => (by rw [← z, F.l] at hl; cases hl)]; exact F.l, ixN_in r1 (by rw [List.length_map]; show b < _; omega), ?_⟩
          refine ⟨_, _, _, _, _, rfl, F.put hl hjl, ?_⟩
          rw [List.take_add_one, hpi]
          exact A1.torn D.rs r1 (by omega) q1
        | false =>
          refine ⟨_, rfl, iteF ?_⟩
          refine ⟨_, rfl, _, rfl, D1, as.map V.ref, b, .ref ai, rfl, rfl, SqL.of F.l, ?_, .inl ⟨rfl, _, SqL.of (F.g _ ai cs hai hcs)⟩, _, rfl, ai, cs.map V.int, .int c, rfl, rfl, F.g _ ai cs hai hcs, ?_, ?_⟩
          · unfold atI; rw [List.length_map, ixN_in r1 (by show b < _; omega)]; show (as.map V.ref)[b.toNat]? = _; rw [List.getElem?_map, hai]; rfl
          · rw [List.length_map]
            have h1 := (A1.2 _ cs hcs).2
            have h2 : (List.take i pd).length ≤ pd.length := by rw [List.length_take]; omega
            exact small1000 (by omega)
          · refine ⟨_, _, _, _, _, rfl, F.app hai hcs, ?_⟩
            rw [List.take_add_one, hpi]
            exact A1.whole r1 hcs
      · rintro σ H2 ⟨v2, v3, v4, as, css, rfl, F, A1⟩
        rw [hrs.len, List.take_length] at A1
        refine ⟨_, rfl, D1, rfl, ⟨_, SqL.of F.l⟩, fun D2 hD2 =>
          lc_list (K := K) (a := D1) (xs := as.map V.ref) (fun i H' => ∃ as2 css2, Fnd H2 H' D2 as2 css2 ∧ css2.length = i ∧ ∀ (j : Nat) (cs' : List Int), css2[j]? = some cs' → ∃ cs, css[j]? = some cs ∧ (∀ c, c ∈ cs' ↔ c ∈ cs) ∧ cs'.length ≤ cs.length)
            ⟨[], [], ⟨(upd_same : upd H2 D2 (.lst []) D2 = _), rfl, (fun j a cs hj => by simp at hj), List.nodup_nil, (fun a ha => by cases ha), hD2, same_new hD2⟩, rfl, fun j cs' hj => by simp at hj⟩
            (fun i H' _ z => by obtain ⟨_, _, F2, _⟩ := z; exact SqL.of (F2.S _ _ F.l)) ?_ ?_⟩
        · rintro i x H' hi ⟨as2, css2, F2, e2, g2⟩
          rw [List.getElem?_map] at hi
          obtain ⟨ai, hai, rfl⟩ : ∃ ai, as[i]? = some ai ∧ x = .ref ai := by
            cases e : as[i]? with
            | none => rw [e] at hi; cases hi
            | some c => rw [e] at hi; exact ⟨c, rfl, (Option.some.inj hi).symm⟩
          have hil : i < css.length := F.e ▸ (List.getElem?_eq_some_iff.mp hai).1
          obtain ⟨cs, hcs⟩ : ∃ cs, css[i]? = some cs := ⟨_, List.getElem?_eq_getElem hil⟩
          have hcl := (A1.2 _ cs hcs).2
          refine ⟨rfl, ?_⟩
          unfold tYes; refine iteT ?_
          refine ⟨_, rfl, ai, cs, rfl, SqL.of (F2.S _ _ (F.g _ ai cs hai hcs)), by omega, fun ps c0 hps hc0 => ?_⟩
          refine ⟨ps, _, c0, rfl, upd_same, by omega, fun ns pl hs hnd hm hnl hpl => ?_⟩
          have F3 := F2.same (same_new (o := SetO w ps (fun j => decide (j ∈ cs)) c0) hps)
          refine ⟨as2.map V.ref, by rw [upd_ne fun z => (by rw [← z, F3.l] at hpl; cases hpl)]; exact F3.l, ?_, as2 ++ [pl], css2 ++ [ns], F3.push hpl, by rw [List.length_append, e2]; rfl, fun j cs' hj => ?_⟩
          · rw [List.length_map, F2.e, e2]
            have := A1.1; have := D.ls; have := D.bn.2.1; exact small1000 (by omega)
          · by_cases h1 : j < css2.length
            · rw [List.getElem?_append_left h1] at hj; exact g2 j cs' hj
            · rw [List.getElem?_append_right (by omega)] at hj
              have e0 : j - css2.length = 0 := by have := (List.getElem?_eq_some_iff.mp hj).1; simp at this; omega
              have ej : j = i := by omega
              rw [e0] at hj; cases hj; rw [ej]
              exact ⟨cs, hcs, fun c => by rw [hm c]; exact decide_eq_true_iff, by omega⟩
        · rintro H' ⟨as2, css2, F2, e2, g2⟩
          rw [List.length_map, F.e] at e2
          refine k D2 as2 css2 H' (F2.down F.S) ⟨e2.trans A1.1, fun j cs' hj => ?_⟩
          obtain ⟨cs, hcs, h1, h2⟩ := g2 j cs' hj
          obtain ⟨h3, h4⟩ := A1.2 j cs hcs
          exact ⟨fun c => (h1 c).trans (h3 c), by omega⟩
end
end Ls

namespace Ls
open PySem PySem.Spec PyProof.Rows L2
theorem filB_yes {H : Hp} {v : V} {n q : Int} (h : filB H v n q = true) : ∃ (a : Addr) (cs : List Int), v = .ref a ∧ H a = some (.tup (cs.map V.int)) ∧ (cs.length : Int) = n ∧ ∀ c ∈ cs, 0 ≤ c ∧ c < q := by
  unfold filB at h
  cases v with
  | ref a =>
    dsimp only at h
    cases e : H a with
    | none => rw [e] at h; cases h
    | some o =>
      rw [e] at h
      cases o with
      | tup xs =>
        dsimp only at h
        rw [Bool.and_eq_true] at h
        obtain ⟨h1, h2⟩ := h
        have : ∃ cs : List Int, xs = cs.map V.int ∧ ∀ c ∈ cs, 0 ≤ c ∧ c < q := by
          clear e h1
          induction xs with
          | nil => exact ⟨[], rfl, fun c hc => by cases hc⟩
          | cons x xs ih =>
            rw [List.all_cons, Bool.and_eq_true] at h2
            obtain ⟨cs, e, g⟩ := ih h2.2
            obtain ⟨i, e1, i0, i1⟩ := inR_true h2.1
            refine ⟨i :: cs, by rw [e, e1]; rfl, fun c hc => ?_⟩
            rcases List.mem_cons.mp hc with z | z
            · rw [z]; omega
            · exact g c z
        obtain ⟨cs, e1, g⟩ := this
        subst e1
        refine ⟨a, cs, rfl, e, ?_, g⟩
        have := of_decide_eq_true h1
        rw [List.length_map] at this; exact this
      | _ => cases h
  | _ => cases h
theorem filB_is {H : Hp} {a : Addr} {cs : List Int} {n q : Int} (h : H a = some (.tup (cs.map V.int))) (hl : (cs.length : Int) = n) (hr : ∀ c ∈ cs, 0 ≤ c ∧ c < q) : filB H (.ref a) n q = true := by
  rw [filB_tup h, List.length_map, decide_eq_true hl, Bool.true_and, List.all_eq_true]
  intro x hx
  obtain ⟨c, hc, rfl⟩ := List.mem_map.mp hx
  obtain ⟨c0, c1⟩ := hr c hc
  exact inR_in c0 (by omega)
theorem inV_ints (c : Int) (ds : List Int) : inV (.int c) (ds.map V.int) = decide (c ∈ ds) := by
  unfold inV
  rw [List.any_map, Bool.eq_iff_iff, List.any_eq_true, decide_eq_true_iff]
  constructor
  · rintro ⟨x, hx, e⟩
    have e' : (x == c) = true := e
    rw [beq_iff_eq] at e'; exact e' ▸ hx
  · intro h; exact ⟨c, h, (beq_self_eq_true c : (c == c) = true)⟩
theorem flat_ints (ds : List Int) : (ds.map V.int).all flatV = true := by
  rw [List.all_eq_true]; intro x hx; obtain ⟨c, _, rfl⟩ := List.mem_map.mp hx; rfl
/-- which of the contents are in their lists -/
def insB (cs : List Int) (css : List (List Int)) : List Bool := (cs.zip css).map fun z => decide (z.1 ∈ z.2)
theorem insB_all {cs : List Int} {css : List (List Int)} (hl : cs.length = css.length) : (insB cs css).all id = true ↔ ∀ (j : Nat) (c : Int) (ds : List Int), cs[j]? = some c → css[j]? = some ds → c ∈ ds := by
  unfold insB
  rw [List.all_map, List.all_eq_true]
  constructor
  · intro h j c ds h1 h2
    have e : (cs.zip css)[j]? = some (c, ds) := by rw [List.getElem?_zip_eq_some]; exact ⟨h1, h2⟩
    exact of_decide_eq_true (h _ (List.mem_of_getElem? e))
  · rintro h ⟨c, ds⟩ hm
    obtain ⟨j, hj⟩ := List.mem_iff_getElem?.mp hm
    rw [List.getElem?_zip_eq_some] at hj
    exact decide_eq_true (h j c ds hj.1 hj.2)
def spLeave (C CD : Addr) : Sp := fun vs H Q _ => ∃ p d sa pa tn n q st pd v U, vs = [.ref p, v] ∧ DrAt C CD H p d sa pa tn n q st pd ∧ pd.length ≤ 900 ∧ Kd H v U ∧ KdT H v ∧
  (filB H v n q = false → ∀ H', Same H H' → Q (.bl false) H') ∧
  (∀ (a : Addr) (cs : List Int), v = .ref a → H a = some (.tup (cs.map V.int)) → cs.length = st.length → (∀ c ∈ cs, 0 ≤ c ∧ c < q) → ∀ H' b, Same H H' → (b = true ↔ ∀ (j : Nat) (c : Int), cs[j]? = some c → mayC st pd tn q j c) → Q (.bl b) H')
section
variable {P : Program} {w : World} {K : PySem.W.Frag} {mg : Str → Option Value} {base : Heap} {ad : Nat → Addr} {fd : Nat → FuncData}
theorem ok_Drive_may_leave (T : Tx K mg ad fd) : FnOk P w K mg base CX0 4 (ad 2207) (fd 2207) ["self", "value"] (spLeave (ad 100022) (ad 100017)) := by
  refine T.f_Drive_may_leave.ok sc_Drive_may_leave (fun vs H Q E h => ?_) (fun cdv A outer s H vs Q E hr h => ?_)
  · obtain ⟨p, d, sa, pa, tn, n, q, st, pd, v, U, rfl, _⟩ := h; rfl
  · obtain ⟨p, d, sa, pa, tn, n, q, st, pd, v, U, rfl, D, hl9, kd, kt, kf, k⟩ := h
    obtain ⟨dx, hp⟩ := D.ob; obtain ⟨dy, hd⟩ := D.dk
    refine ⟨_, (pss_cons (ps_if (pt_not (pt_val (pe_call (ok_is_filling T) (hr.mono (by decide)) rfl T.g_is_filling T.f_is_filling.kp (b_is_filling T) .nil pass0 (pa_cons (pe_fld (pv 0) rfl) (pa_cons (pv 1) pa_nil)))))
        (pss_one (ps_ret pe_bl))
        pss_nil)
      (pss_one (ps_ret (pe_callB (cr_all rfl) (by rfl) T.n_all (by decide +kernel) (pa_cons (pe_lc (own := [("content", 2), ("choice", 3)]) (g := gTup K 2 (gCons (gName 2) (gCons (gName 3) gNil))) (tt := tYes) (te := tOp (rIn K false) (tVar 2) (tVar 3)) rfl sc_Drive_may_leave.nd (pi_zipM (by rfl) T.n_zip (pa_cons (pv 1) (pa_cons (pe_meth0 (pv 0) T.c_Drive T.m_Drive__choices (ok_Drive__choices T) (hr.mono (by decide)) (b_Drive__choices T) .nil pass0) pa_nil))) (blkOk_by (own := [("content", 2), ("choice", 3)]) (N := ["self", "value", "content", "choice"]) (sc := defScope s_Drive_may_leave) (by decide +kernel)) (fun _ _ _ _ _ => (pg_tup rfl (pgs_cons (pg_name (i := 2) sc_Drive_may_leave.nd rfl (by first | exact Or.inl rfl | exact Or.inr rfl)) (pgs_cons (pg_name (i := 3) sc_Drive_may_leave.nd rfl (by first | exact Or.inl rfl | exact Or.inr rfl)) pgs_nil)))) (fun _ _ _ _ _ => pts_nil) (fun _ _ _ _ _ => (pe_cmpR op_in_seq (pv 2) (pv 3) (by rfl)))) pa_nil))))), ?_⟩
    refine ⟨_, rfl, p, _, dx, _, _, rfl, hp, T.c_Drive, T.a_Drive_disk, drF_d d tn sa pa, _, rfl, d, n, q, v, U, rfl, D.dk, kd, kt, fun H1 S1 => ⟨_, rfl, ?_⟩⟩
    cases c1 : filB H v n q with
    | false => exact iteT (kf c1 H1 S1)
    | true =>
      refine iteF ?_
      obtain ⟨a, cs, rfl, ha, hcl, hcr⟩ := filB_yes c1
      have hls : cs.length = st.length := by have := D.ls; omega
      have D1 := D.same S1
      refine ⟨_, rfl, _, rfl, p, dx, _, rfl, S1 _ _ hp, rfl, p, d, sa, pa, tn, n, q, st, pd, rfl, D1, hl9, fun l as css H2 F A => ?_⟩
      refine ⟨a, l, _, _, rfl, SqT.of (F.S _ _ (S1 _ _ ha)), SqL.of F.l, fun D2 hD2 => ?_⟩
      have hl2 : css.length = st.length := A.1
      have up2 : ∀ {H' : Hp}, Same H2 H' → ∀ (T : Addr) (o : HO), H' T = none → Same H2 (upd H' T o) := fun S T o hT => S.trans (same_new hT)
      refine lc_zipM (K := K) (a := a) (b := l) (xs := cs.map V.int) (ys := as.map V.ref) (by rw [List.length_map, List.length_map, F.e, hl2, hls])
        (fun i H' => H' D2 = some (.lst (((insB cs css).take i).map V.bl)) ∧ Same H2 H') ⟨(upd_same : upd H2 D2 (.lst []) D2 = _), same_new hD2⟩
        (fun i H' _ z => ⟨SqT.of (z.2 _ _ (F.S _ _ (S1 _ _ ha))), SqL.of (z.2 _ _ F.l)⟩) ?_ ?_
      · rintro i x y t H' hx hy ⟨hl, S⟩ ht
        rw [List.getElem?_map] at hx hy
        obtain ⟨c, hc, rfl⟩ : ∃ c, cs[i]? = some c ∧ x = .int c := by
          cases e : cs[i]? with
          | none => rw [e] at hx; cases hx
          | some c => rw [e] at hx; exact ⟨c, rfl, (Option.some.inj hx).symm⟩
        obtain ⟨ai, hai, rfl⟩ : ∃ ai, as[i]? = some ai ∧ y = .ref ai := by
          cases e : as[i]? with
          | none => rw [e] at hy; cases hy
          | some c => rw [e] at hy; exact ⟨c, rfl, (Option.some.inj hy).symm⟩
        have hil : i < css.length := F.e ▸ (List.getElem?_eq_some_iff.mp hai).1
        obtain ⟨ds, hds⟩ : ∃ ds, css[i]? = some ds := ⟨_, List.getElem?_eq_getElem hil⟩
        have St := up2 S t (.tup [.int c, .ref ai]) ht
        refine ⟨t, _, rfl, SqT.of upd_same, rfl, _, _, rfl, _, _, rfl, rfl, rfl, ?_⟩
        unfold tYes; refine iteT ?_
        refine ⟨_, rfl, _, rfl, ai, ds.map V.int, rfl, .inl (SqL.of (St _ _ (F.g _ ai ds hai hds))), rfl, flat_ints ds, _, by rw [upd_ne (ne_of_none hl ht)]; exact hl, ?_, ?_, fun b o e => ?_⟩
        · rw [List.length_map, List.length_take]
          have : (insB cs css).length ≤ cs.length := by unfold insB; rw [List.length_map, List.length_zip]; omega
          have := D.bn.2.1; exact small1000 (by omega)
        · rw [upd_same, List.take_add_one, List.map_append, if_neg (by decide), inV_ints]
          have : (insB cs css)[i]? = some (decide (c ∈ ds)) := by
            unfold insB; rw [List.getElem?_map, (List.getElem?_zip_eq_some (z := (c, ds))).mpr ⟨hc, hds⟩]; rfl
          rw [this]; rfl
        · rw [upd_ne (ne_of_none e hD2)]; exact St _ _ e
      · rintro H' ⟨hl, S⟩
        refine ⟨D2, insB cs css, rfl, SqL.of ?_, ?_⟩
        · rw [hl, List.take_of_length_le]
          unfold insB; rw [List.length_map, List.length_zip, List.length_map]; omega
        · refine k a cs rfl ha hls hcr H' _ ((S1.trans F.S).trans S) ((insB_all (hls.trans hl2.symm)).trans ?_)
          constructor
          · intro h j c hc
            have hj : j < css.length := by have := (List.getElem?_eq_some_iff.mp hc).1; omega
            exact ((A.2 j _ (List.getElem?_eq_getElem hj)).1 c).mp (h j c _ hc (List.getElem?_eq_getElem hj))
          · intro h j c ds hc hds
            exact ((A.2 j ds hds).1 c).mpr (h j c hc)
end
end Ls

namespace Ls
open PySem PySem.Spec PyProof.Rows L2
theorem KdT.same {H H' : Hp} {v : V} {U : String} (kd : Kd H v U) (kt : KdT H v) (S : Same H H') : KdT H' v := fun a xs e h => by
  subst e
  have : H a = some (.tup xs) := by
    cases kd with
    | lst h' => rw [S _ _ h'] at h; cases h
    | tup h' => rw [S _ _ h'] at h; cases h; exact h'
    | dic h' => rw [S _ _ h'] at h; cases h
  obtain ⟨h1, h2⟩ := kt a xs rfl this
  exact ⟨fun x hx => by obtain ⟨U, k⟩ := h1 x hx; exact ⟨U, k.same S⟩, h2⟩
def spCut (C CD CF CL : Addr) : Sp := fun vs H Q E => ∃ p d sa pa tn n q st pd v U, vs = [.ref p, v] ∧ DrAt C CD H p d sa pa tn n q st pd ∧ pd.length ≤ 900 ∧ Kd H v U ∧ KdT H v ∧
  (filB H v n q = false → ∀ H', Same H H' → isRaise H' E CF "given" v) ∧
  (∀ (a : Addr) (cs : List Int), v = .ref a → H a = some (.tup (cs.map V.int)) → cs.length = st.length → (∀ c ∈ cs, 0 ≤ c ∧ c < q) →
    ((¬ ∀ (j : Nat) (c : Int), cs[j]? = some c → mayC st pd tn q j c) → ∀ H', Same H H' → isRaise H' E CL "filling" v) ∧
    ((∀ (j : Nat) (c : Int), cs[j]? = some c → mayC st pd tn q j c) → ∀ pa' H', H pa' = none → DrAt C CD H' p d a pa' tn n q cs [] → But p H H' → Q .non H'))
def spInit (C CD CF : Addr) : Sp := fun vs H Q E => ∃ (p dx d : Addr) (v : V) (U : String) (tn : Bool) (n q : Int), vs = [.ref p, .ref d, v, .bl tn] ∧ H p = some (.ins C dx []) ∧ DkAt CD H d n q ∧ p ≠ d ∧ (1 ≤ n ∧ n ≤ 24 ∧ 2 ≤ q ∧ q ≤ 64) ∧ Kd H v U ∧ KdT H v ∧
  (filB H v n q = false → ∀ H', Same H H' → isRaise H' E CF "given" v) ∧
  (∀ (a : Addr) (cs : List Int), v = .ref a → H a = some (.tup (cs.map V.int)) → (cs.length : Int) = n → (∀ c ∈ cs, 0 ≤ c ∧ c < q) → ∀ pa H', H pa = none → DrAt C CD H' p d a pa tn n q cs [] → But p H H' → Q .non H')
section
variable {P : Program} {w : World} {K : PySem.W.Frag} {mg : Str → Option Value} {base : Heap} {ad : Nat → Addr} {fd : Nat → FuncData}
theorem ok_Drive_cut (T : Tx K mg ad fd) : FnOk P w K mg base (L2.CX P w) 5 (ad 2208) (fd 2208) ["self", "filling"] (spCut (ad 100022) (ad 100017) (ad 100004) (ad 100008)) := by
  refine T.f_Drive_cut.okX sc_Drive_cut (fun vs H Q E h => ?_) (fun cdv A outer s H vs Q E hr h => ?_)
  · obtain ⟨p, d, sa, pa, tn, n, q, st, pd, v, U, rfl, _⟩ := h; rfl
  · obtain ⟨p, d, sa, pa, tn, n, q, st, pd, v, U, rfl, D, hl9, kd, kt, kf, k⟩ := h
    obtain ⟨dx, hp⟩ := D.ob; obtain ⟨dy, hd⟩ := D.dk
    refine ⟨_, (pss_cons (ps_if (pt_not (pt_val (pe_call (ok_is_filling T) (hr.mono (by decide)) rfl T.g_is_filling T.f_is_filling.kp (b_is_filling T) .nil pass0 (pa_cons (pe_fld (pv 0) rfl) (pa_cons (pv 1) pa_nil)))))
        (pss_one (ps_raise rfl (takes_of rfl rfl rfl rfl) (pmk_err (e_InvalidFilling T) (hr.mono (by decide)) rfl (pv 1))))
        pss_nil)
      (pss_cons (ps_if (pt_not (pt_val (pe_meth (pv 0) T.c_Drive T.m_Drive_may_leave (ok_Drive_may_leave T) (hr.mono (by decide)) (b_Drive_may_leave T) .nil pass0 (pa_cons (pv 1) pa_nil))))
        (pss_one (ps_raise rfl (takes_of rfl rfl rfl rfl) (pmk_err (e_NotLeft T) (hr.mono (by decide)) rfl (pv 1))))
        pss_nil)
      (pss_one (ps_expr (pe_meth (pv 0) T.c_Drive T.m_Drive__settle (ok_Drive__settle T) (hr.mono (by decide)) (b_Drive__settle T) .nil pass0 (pa_cons (pv 1) pa_nil)))))), ?_⟩
    refine ⟨_, rfl, p, _, dx, _, _, rfl, hp, T.c_Drive, T.a_Drive_disk, drF_d d tn sa pa, _, rfl, d, n, q, v, U, rfl, D.dk, kd, kt, fun H1 S1 => ⟨_, rfl, ?_⟩⟩
    cases c1 : filB H v n q with
    | false => exact iteT ⟨_, rfl, kf c1 H1 S1⟩
    | true =>
      refine iteF ?_
      obtain ⟨a, cs, rfl, ha, hcl, hcr⟩ := filB_yes c1
      have hls : cs.length = st.length := by have := D.ls; omega
      obtain ⟨k1, k2⟩ := k a cs rfl ha hls hcr
      refine ⟨_, rfl, p, dx, _, rfl, S1 _ _ hp, rfl, _, rfl, p, d, sa, pa, tn, n, q, st, pd, .ref a, U, rfl, D.same S1, hl9, kd.same S1, KdT.same kd kt S1, fun e => ?_, fun a' cs' e ha' _ _ H2 b S2 hb => ⟨_, rfl, ?_⟩⟩
      · rw [filB_is (S1 _ _ ha) hcl hcr] at e; cases e
      · cases e
        rw [S1 _ _ ha] at ha'; 
        have ecs : cs' = cs := by
          have e1 : cs.map V.int = cs'.map V.int := by injection ha' with z; injection z
          exact ((List.map_inj_right fun _ _ z => V.int.inj z).mp e1).symm
        subst ecs
        cases b with
        | false => exact iteT ⟨_, rfl, k1 (fun z => by have := hb.mpr z; cases this) H2 (S1.trans S2)⟩
        | true =>
          refine iteF ?_
          have S := S1.trans S2
          exact ⟨_, rfl, p, dx, _, rfl, S _ _ hp, rfl, _, rfl, p, d, sa, pa, tn, n, q, st, pd, a, cs', rfl, D.same S, S _ _ ha, hcl, hcr, fun pa' H' hn D' B => k2 (hb.mp rfl) pa' H' (S.free hn) D' fun a o n e => B a o n (S _ _ e)⟩
theorem ok_Drive___init (T : Tx K mg ad fd) : FnOk P w K mg base (L2.CX P w) 4 (ad 2200) (fd 2200) ["self", "disk", "filling", "torn"] (spInit (ad 100022) (ad 100017) (ad 100004)) := by
  refine T.d_Drive___init.ok sc_Drive___init (fun vs H Q E h => ?_) (fun cdv A outer s H vs Q E hr h => ?_)
  · obtain ⟨p, dx, d, v, U, tn, n, q, rfl, _⟩ := h; rfl
  · obtain ⟨p, dx, d, v, U, tn, n, q, rfl, hp, ⟨dy, hd⟩, npd, bn, kd, kt, kf, k⟩ := h
    refine ⟨_, (pss_cons (ps_if (pt_not (pt_val (pe_call (ok_is_filling T) (hr.mono (by decide)) rfl T.g_is_filling T.f_is_filling.kp (b_is_filling T) .nil pass0 (pa_cons (pv 1) (pa_cons (pv 2) pa_nil)))))
        (pss_one (ps_raise rfl (takes_of rfl rfl rfl rfl) (pmk_err (e_InvalidFilling T) (hr.mono (by decide)) rfl (pv 2))))
        pss_nil)
      (pss_cons (ps_fld (pv 0) (pv 1) rfl)
      (pss_cons (ps_fld (pv 0) (pv 3) rfl)
      (pss_cons (ps_fld (pv 0) (pv 2) rfl)
      (pss_one (ps_fld (pv 0) (pe_lst pa_nil) rfl)))))), ?_⟩
    refine ⟨_, rfl, _, rfl, d, n, q, v, U, rfl, ⟨dy, hd⟩, kd, kt, fun H1 S1 => ⟨_, rfl, ?_⟩⟩
    cases c1 : filB H v n q with
    | false => exact iteT ⟨_, rfl, kf c1 H1 S1⟩
    | true =>
      refine iteF ?_
      obtain ⟨a, cs, rfl, ha, hcl, hcr⟩ := filB_yes c1
      have hp1 := S1 _ _ hp
      have nlt : ∀ k : Nat, k < 4 → k < 1000 := fun k h => Nat.lt_trans h (by decide)
      refine ⟨_, rfl, _, rfl, p, _, dx, [], rfl, hp1, T.c_Drive, T.a_Drive_disk, nlt 0 (by decide), ?_⟩
      refine ⟨_, rfl, _, rfl, p, _, dx, [("disk", .ref d)], rfl, upd_same, T.c_Drive, T.a_Drive_torn, nlt 1 (by decide), ?_⟩
      refine ⟨_, rfl, _, rfl, p, _, dx, [("disk", .ref d), ("torn", .bl tn)], rfl, upd_same, T.c_Drive, T.a_Drive__settled, nlt 2 (by decide), (by show 0 ≤ sizeLine; decide), fun l hnl => ?_⟩
      have npl : p ≠ l := ne_of_none upd_same hnl
      have hl0 : H1 l = none := by rw [upd_ne npl.symm, upd_ne npl.symm, upd_ne npl.symm] at hnl; exact hnl
      refine ⟨_, rfl, p, _, dx, [("disk", .ref d), ("torn", .bl tn), ("_settled", .ref a)], rfl, by rw [upd_ne npl]; exact upd_same, T.c_Drive, T.a_Drive__pending, nlt 3 (by decide), ?_⟩
      have npa : a ≠ p := ne_of ha hp (by intro z; cases z)
      refine k a cs rfl ha hcl hcr l _ (S1.free hl0) ⟨⟨dx, upd_same⟩, ⟨dy, ?_⟩, ?_, ⟨[], ?_, .nil⟩, hcl, hcr, fun x hx => (by cases hx), Nat.zero_le _, bn⟩ fun b o n e => ?_
      · rw [upd_ne npd.symm, upd_ne (ne_of_none (S1 _ _ hd) hl0), upd_ne npd.symm, upd_ne npd.symm, upd_ne npd.symm]; exact S1 _ _ hd
      · rw [upd_ne npa, upd_ne (ne_of_none (S1 _ _ ha) hl0), upd_ne npa, upd_ne npa, upd_ne npa]; exact S1 _ _ ha
      · rw [upd_ne npl.symm, upd_same]
      · rw [upd_ne n, upd_ne (ne_of_none (S1 _ _ e) hl0), upd_ne n, upd_ne n, upd_ne n]; exact S1 _ _ e
end
end Ls

namespace Ls
open PySem PySem.Spec PyProof.Rows L2
section
variable {P : Program} {w : World} {K : PySem.W.Frag} {mg : Str → Option Value} {base : Heap} {ad : Nat → Addr} {fd : Nat → FuncData}
theorem ok_law_cell (T : Tx K mg ad fd) : FnOk P w K mg base CX0 1 (ad 25) (fd 25) ["script", "k"] (spCell K) := by
  refine T.f_law_cell.ok sc_law_cell (fun vs H Q E h => ?_) (fun cdv A outer s H vs Q E hr h => ?_)
  · obtain ⟨l, ns, j, rfl, _⟩ := h; rfl
  · obtain ⟨l, ns, j, rfl, hs, hn, hj, k⟩ := h
    refine ⟨_, pss_one (ps_ret (pe_ifExp (pt_cmpR op_lt (pv 1) (pe_callB call_len_seq (by rfl) T.n_len (by decide +kernel) (pa_cons (pv 0) pa_nil)) (nomark _)) (pe_ix ix_list (pv 0) (pv 1) (fun _ _ => rfl))
      (pe_op op_add (pe_op op_add (pe_op op_mul pe_int (pv 1)) pe_int) (pe_op op_mod (pe_callTy call_int1 (by rfl) T.n_int (by decide +kernel)
        (pa_cons (pe_callB (cr_sum rfl) (by rfl) T.n_sum (by decide +kernel) (pa_cons (pe_slice sl_list (pv 0) po_none (po_some pe_int)) pa_nil)) pa_nil)) pe_int)))), ?_⟩
    refine ⟨_, rfl, _, rfl, l, _, rfl, .inl hs, _, _, rfl, rfl, _, rfl, ?_⟩
    rw [List.length_map]
    refine ite2 (fun c => ?_) (fun c => ?_)
    · have c' : j < ns.length := by simpa using c
      exact ⟨_, rfl, _, rfl, l, _, _, _, rfl, rfl, hs, atI_nat (by rw [List.getElem?_map, List.getElem?_eq_getElem c']; rfl), k _ _ (Same.refl H)⟩
    · refine ⟨_, rfl, _, _, rfl, rfl, .inl ⟨by decide, by decide⟩, _, _, rfl, rfl, _, rfl, _, rfl, l, _, rfl, hs, fun p hp => ?_⟩
      refine ⟨p, ns.take 1, rfl, SqL.of ?_, .inl ⟨_, rfl, _, _, rfl, rfl, (by show (0 : Int) < 1000033; decide), _, _, rfl, rfl, k _ _ (same_new hp)⟩⟩
      rw [upd_same, cut_one]
theorem ok_law_box (T : Tx K mg ad fd) : FnOk P w K mg base CX0 1 (ad 26) (fd 26) ["great"] spBox := by
  refine T.f_law_box.ok sc_law_box (fun vs H Q E h => ?_) (fun cdv A outer s H vs Q E hr h => ?_)
  · obtain ⟨g, rfl, _⟩ := h; rfl
  · obtain ⟨g, rfl, k⟩ := h
    refine ⟨_, pss_one (ps_ret (pe_lst (pa_cons (pe_callB call_abs (by rfl) T.n_abs (by decide +kernel) (pa_cons (pv 0) pa_nil))
      (pa_cons (pe_cmpR op_ge (pe_callB call_abs (by rfl) T.n_abs (by decide +kernel) (pa_cons (pv 0) pa_nil)) (pe_op op_pow pe_int pe_int) (nomark _))
      (pa_cons (pe_op op_mod (pe_callTy call_int1 (by rfl) T.n_int (by decide +kernel) (pa_cons (pe_callB call_abs (by rfl) T.n_abs (by decide +kernel) (pa_cons (pv 0) pa_nil)) pa_nil)) pe_int)
      (pa_cons pe_int pa_nil)))))), ?_⟩
    refine ⟨_, rfl, _, rfl, _, rfl, _, rfl, _, _, rfl, rfl, ⟨by decide, by decide, by decide⟩, _, _, rfl, rfl, _, rfl, _, rfl, .inl ⟨_, rfl, _, _, rfl, rfl, (by show (0 : Int) < 2147483629; decide), ?_⟩⟩
    refine ⟨(by show 4 ≤ sizeLine; decide), fun b hb => k b _ hb (same_new hb) ⟨_, _, _, _, upd_same, ?_, Int.emod_nonneg _ (by decide), Int.emod_lt_of_pos _ (by decide), by decide, by decide⟩⟩
    split <;> omega
theorem ok_law_take (T : Tx K mg ad fd) : FnOk P w K mg base CX0 1 (ad 27) (fd 27) ["box", "many"] spTake := by
  refine T.f_law_take.ok sc_law_take (fun vs H Q E h => ?_) (fun cdv A outer s H vs Q E hr h => ?_)
  · obtain ⟨b, n, m, rfl, _⟩ := h; rfl
  · obtain ⟨b, n, m, rfl, ⟨x, c, d, f, hb, x0, c0, c1, d0, d1⟩, hn, m0, m1, k⟩ := h
    refine ⟨_, pss_cons (ps_if (PW.pt (pw_and (pt_val (pe_ix ix_list (pv 0) pe_int (fun _ _ => rfl))) (pw_and1 (pt_cmpR op_gt (pe_ix ix_list (pv 0) pe_int (fun _ _ => rfl)) pe_int (nomark _)))))
        (pss_cons (ps_set (i := 2) sc_law_take.nd rfl (Or.inl rfl) (pe_op op_mod (pe_callTy call_int1 (by rfl) T.n_int (by decide +kernel) (pa_cons (pe_ix ix_list (pv 0) pe_int (fun _ _ => rfl)) pa_nil)) (pv 1)))
        (pss_cons (ps_asg (pe_op op_fdiv (pe_ix ix_list (pv 0) pe_int (fun _ _ => rfl)) (pv 1)) (pg_sub (pv 0) pe_int set_list))
        (pss_one (ps_ret (pv 2))))) pss_nil)
      (pss_cons (ps_asg (pe_op op_add (pe_ix ix_list (pv 0) pe_int (fun _ _ => rfl)) pe_int) (pg_sub (pv 0) pe_int set_list))
      (pss_cons (ps_set (i := 3) sc_law_take.nd rfl (Or.inl rfl) (pe_op op_mod (pe_callTy call_int1 (by rfl) T.n_int (by decide +kernel) (pa_cons (pe_op op_pow (pe_op op_add (pe_op op_add
        (pe_ix ix_list (pv 0) pe_int (fun _ _ => rfl)) (pe_op op_mul pe_int (pe_ix ix_list (pv 0) pe_int (fun _ _ => rfl)))) pe_int) pe_int) pa_nil)) pe_int))
      (pss_one (ps_ret (pe_op op_mod (pe_callTy call_int1 (by rfl) T.n_int (by decide +kernel) (pa_cons (pe_op op_fdiv (pe_op op_mod (pe_callTy call_int1 (by rfl) T.n_int (by decide +kernel)
        (pa_cons (pe_op op_pow (pe_op op_add (pe_op op_mul (pv 3) pe_int) (pe_op op_mul pe_int (pe_ix ix_list (pv 0) pe_int (fun _ _ => rfl)))) pe_int) pa_nil)) pe_int) pe_int) pa_nil)) (pv 1)))))), ?_⟩
    -- box[1] and box[0] > 0
    refine ⟨_, rfl, b, _, _, _, rfl, rfl, SqL.of hb, atI_nat (j := 1) rfl, _, rfl, ?_⟩
    by_cases hd : f = true ∧ 0 < x
    · obtain ⟨rfl, hx⟩ := hd
      refine iteT ⟨_, rfl, b, _, _, _, rfl, rfl, SqL.of hb, atI_nat (j := 0) rfl, _, _, rfl, rfl, _, rfl, ?_⟩
      refine ite2 (fun _ => ?_) (fun c => absurd (decide_eq_true hx) c)
      -- digit = int(box[0]) % many; box[0] = box[0] // many; return digit
      refine ⟨_, rfl, b, _, _, _, rfl, rfl, SqL.of hb, atI_nat (j := 0) rfl, .inl ⟨_, rfl, _, rfl, _, _, rfl, rfl, m0, ?_⟩⟩
      refine ⟨_, rfl, b, _, _, _, rfl, rfl, SqL.of hb, atI_nat (j := 0) rfl, _, rfl, _, _, rfl, rfl, ⟨m0, by omega⟩, _, rfl, b, _, 0, 0, rfl, rfl, hb, rfl, ?_⟩
      refine ⟨_, rfl, k (x % m) _ (Int.emod_nonneg _ (by omega)) (Int.emod_lt_of_pos _ m0) ⟨x / m, c, d, true, upd_same, Int.ediv_nonneg x0 (by omega), c0, c1, d0, by omega⟩ But.put ?_⟩
      intro a ha; rw [← ha, upd_ne]; intro e; rw [e, upd_same] at ha; cases ha
    · refine @cutp _ ?B ?b ?h
      case h =>
        intro q
        show (if f = true then _ else _)
        by_cases hf : f = true
        · rw [if_pos hf]
          refine ⟨_, rfl, b, _, _, _, rfl, rfl, SqL.of hb, atI_nat (j := 0) rfl, _, _, rfl, rfl, _, rfl, ?_⟩
          rw [decide_eq_false (fun z => hd ⟨hf, z⟩)]; exact q
        · rw [if_neg hf]; exact q
      case b =>
        refine iteF ?_
        -- box[3] = box[3] + 1
        refine ⟨_, rfl, b, _, _, _, rfl, rfl, SqL.of hb, atI_nat (j := 3) rfl, _, _, rfl, rfl, _, rfl, b, _, 3, 3, rfl, rfl, hb, rfl, ?_⟩
        have hb2 : upd H b (.lst [.int x, .bl f, .int c, .int (d + 1)]) b = some (.lst [.int x, .bl f, .int c, .int (d + 1)]) := upd_same
        -- mixed = ..
        refine ⟨_, rfl, b, _, _, _, rfl, rfl, SqL.of hb2, atI_nat (j := 2) rfl, _, rfl, b, _, _, _, rfl, rfl, SqL.of hb2, atI_nat (j := 3) rfl, _, _, rfl, rfl, .inl ⟨by decide, by decide⟩, _, _, rfl, rfl, _, _, rfl, rfl, _, _, rfl, rfl, ?_⟩
        refine ⟨⟨by decide, by decide, by omega⟩, .inl ⟨_, rfl, _, _, rfl, rfl, (by show (0 : Int) < 2147483647; decide), ?_⟩⟩
        generalize hz : (c + 49979687 * (d + 1) + 179424673) ^ (5 : Int).toNat % 2147483647 = z
        have z0 : 0 ≤ z := by rw [← hz]; exact Int.emod_nonneg _ (by decide)
        have z1 : z < 2147483647 := by rw [← hz]; exact Int.emod_lt_of_pos _ (by decide)
        -- return ..
        refine ⟨_, rfl, _, _, rfl, rfl, .inl ⟨by omega, by omega⟩, _, rfl, b, _, _, _, rfl, rfl, SqL.of hb2, atI_nat (j := 3) rfl, _, _, rfl, rfl, .inl ⟨by decide, by decide⟩, _, _, rfl, rfl, _, _, rfl, rfl, ?_⟩
        refine ⟨⟨by decide, by decide, by omega⟩, .inl ⟨_, rfl, _, _, rfl, rfl, (by show (0 : Int) < 2147483587; decide), _, _, rfl, rfl, ⟨by decide, by decide⟩, .inl ⟨_, rfl, _, rfl, _, _, rfl, rfl, m0, ?_⟩⟩⟩
        refine k _ _ (Int.emod_nonneg _ (by omega)) (Int.emod_lt_of_pos _ m0) ⟨x, c, d + 1, f, hb2, x0, c0, c1, by omega, by omega⟩ But.put ?_
        intro a ha; rw [← ha, upd_ne]; intro e; rw [e, upd_same] at ha; cases ha
end
end Ls

namespace Ls
open PySem PySem.Spec PyProof.Rows L2
/-- only what stands at b is changed; nothing goes -/
structure Mv (b : Addr) (H H' : Hp) : Prop where
  k : But b H H'
  f : ∀ a, H' a = none → H a = none
theorem Mv.refl (b : Addr) (H : Hp) : Mv b H H := ⟨.refl b H, fun _ h => h⟩
theorem Mv.trans {b : Addr} {H H1 H2 : Hp} (x : Mv b H H1) (y : Mv b H1 H2) : Mv b H H2 := ⟨x.k.trans y.k, fun a h => x.f a (y.f a h)⟩
theorem Mv.of {b : Addr} {H H' : Hp} (S : Same H H') : Mv b H H' := ⟨.of S, fun a h => S.free h⟩
theorem Mv.new {b p : Addr} {H : Hp} {o : HO} (h : H p = none) : Mv b H (upd H p o) := .of (same_new h)
def spSizes : Sp := fun vs H Q _ => ∃ (b : Addr) (N : Nat), vs = [.ref b] ∧ BoxAt H b N ∧ N ≤ 900000 ∧
  ∀ t n q H', H t = none → H' t = some (.tup [.int n, .int q]) → 1 ≤ n → n ≤ 24 → 2 ≤ q → q ≤ 64 → BoxAt H' b (N + 4) → Mv b H H' → Q (.ref t) H'
def spPut : Sp := fun vs H Q _ => ∃ (f l : Addr) (st : List Int) (xs : List V) (pd : List (Int × Int)), vs = [.ref f, .ref l] ∧ H f = some (.tup (st.map V.int)) ∧ H l = some (.lst xs) ∧ Prs H xs pd ∧
  (∀ x ∈ pd, 0 ≤ x.1 ∧ x.1 < st.length) ∧ ∀ t H', H t = none → H' t = some (.tup ((putS st pd).map V.int)) → Same H H' → Q (.ref t) H'
section
variable {P : Program} {w : World} {K : PySem.W.Frag} {mg : Str → Option Value} {base : Heap} {ad : Nat → Addr} {fd : Nat → FuncData}
theorem ok_law_put (T : Tx K mg ad fd) : FnOk P w K mg base CX0 1 (ad 31) (fd 31) ["filling", "writes"] spPut := by
  refine T.f_law_put.ok sc_law_put (fun vs H Q E h => ?_) (fun cdv A outer s H vs Q E hr h => ?_)
  · obtain ⟨f, l, st, xs, pd, rfl, _⟩ := h; rfl
  · obtain ⟨f, l, st, xs, pd, rfl, hf, hx, hrs, hin, k⟩ := h
    refine ⟨_, (pss_cons (ps_set (i := 2) sc_law_put.nd rfl (by first | exact Or.inl rfl | exact Or.inr rfl) (pe_callTy call_list_of (by rfl) T.n_list (by decide +kernel) (pa_cons (pv 0) pa_nil)))
      (pss_cons (ps_for PassesOwn.never rfl (pi_list (pv 1)) (pg_tup rfl (pgs_cons (pg_name (i := 3) sc_law_put.nd rfl (by first | exact Or.inl rfl | exact Or.inr rfl)) (pgs_cons (pg_name (i := 4) sc_law_put.nd rfl (by first | exact Or.inl rfl | exact Or.inr rfl)) pgs_nil)))
        (pss_one (ps_asg (pv 4) (pg_sub (pv 2) (pv 3) set_list))))
      (pss_one (ps_ret (pe_callTy call_tuple_of (by rfl) T.n_tuple (by decide +kernel) (pa_cons (pv 2) pa_nil)))))), ?_⟩
    refine ⟨_, rfl, f, _, rfl, .inr (SqT.of hf), fun g hg => ?_⟩
    have S0 : Same H (upd H g (.lst (st.map V.int))) := same_new hg
    refine ⟨_, rfl, l, rfl, ⟨_, SqL.of (S0 _ _ hx)⟩,
      for_list (K := K) (a := l) (xs := xs) (fun i σ H' => ∃ v3 v4, σ = [some (.ref f), some (.ref l), some (.ref g), v3, v4] ∧ H' g = some (.lst ((putS st (pd.take i)).map V.int)) ∧ Same H H')
        ⟨none, none, rfl, upd_same, S0⟩ (fun i σ H' _ z => by obtain ⟨v2, v3, _, _, S⟩ := z; exact SqL.of (S _ _ hx)) ?_ ?_⟩
    · rintro i x σ H' hi ⟨v2, v3, rfl, h1, S⟩
      obtain ⟨a, b, c, rfl, ha, hpi⟩ := hrs.at hi
      obtain ⟨r1, r2⟩ := hin (b, c) (List.mem_of_getElem? hpi)
      refine ⟨a, _, rfl, SqT.of (S _ _ ha), rfl, _, _, rfl, _, _, rfl, rfl, ?_⟩
      refine ⟨_, rfl, _, rfl, _, rfl, g, _, b, b.toNat, rfl, rfl, h1, ixN_in r1 (by rw [List.length_map, putS_len]; exact r2), ?_⟩
      refine ⟨_, _, rfl, ?_, fun a' o e => ?_⟩
      · rw [upd_same, map_set, List.take_add_one, hpi]
        show some (HO.lst _) = some (.lst ((putS st (pd.take i ++ [(b, c)])).map V.int)); rw [putS_snoc]
      · rw [upd_ne (ne_of_none e hg)]; exact S a' o e
    · rintro σ H' ⟨v2, v3, rfl, h1, S⟩
      rw [hrs.len, List.take_length] at h1
      exact ⟨_, rfl, g, _, rfl, .inl ⟨SqL.of h1, fun t ht => k t _ (S.free ht) upd_same (S.trans (same_new ht))⟩⟩
theorem ok_law_sizes (T : Tx K mg ad fd) : FnOk P w K mg base CX0 2 (ad 28) (fd 28) ["box"] spSizes := by
  refine T.f_law_sizes.ok sc_law_sizes (fun vs H Q E h => ?_) (fun cdv A outer s H vs Q E hr h => ?_)
  · obtain ⟨b, N, rfl, _⟩ := h; rfl
  · obtain ⟨b, N, rfl, B, hN, k⟩ := h
    refine ⟨_, (pss_cons (ps_set (i := 1) sc_law_sizes.nd rfl (by first | exact Or.inl rfl | exact Or.inr rfl) (pe_call (ok_law_take T) (hr.mono (by decide)) rfl T.g_law_take T.f_law_take.kp (b_law_take T) .nil pass0 (pa_cons (pv 0) (pa_cons pe_int pa_nil))))
      (pss_cons (ps_set (i := 2) sc_law_sizes.nd rfl (by first | exact Or.inl rfl | exact Or.inr rfl) (pe_ifExp (pt_cmpR op_eq (pe_call (ok_law_take T) (hr.mono (by decide)) rfl T.g_law_take T.f_law_take.kp (b_law_take T) .nil pass0 (pa_cons (pv 0) (pa_cons pe_int pa_nil))) pe_int (nomark _)) (pe_op op_add pe_int (pe_call (ok_law_take T) (hr.mono (by decide)) rfl T.g_law_take T.f_law_take.kp (b_law_take T) .nil pass0 (pa_cons (pv 0) (pa_cons pe_int pa_nil)))) (pe_ix ix_list (pe_lst (pa_cons pe_int (pa_cons pe_int (pa_cons pe_int (pa_cons pe_int pa_nil))))) (pe_call (ok_law_take T) (hr.mono (by decide)) rfl T.g_law_take T.f_law_take.kp (b_law_take T) .nil pass0 (pa_cons (pv 0) (pa_cons pe_int pa_nil))) (fun _ _ => rfl))))
      (pss_cons (ps_if (pt_cmpR op_lt (pv 1) pe_int (nomark _))
        (pss_one (ps_ret (pe_tup (pa_cons (pe_ix ix_list (pe_lst (pa_cons pe_int (pa_cons pe_int pa_nil))) (pv 1) (fun _ _ => rfl)) (pa_cons (pv 2) pa_nil)))))
        pss_nil)
      (pss_one (ps_ret (pe_tup (pa_cons (pe_op op_add pe_int (pe_call (ok_law_take T) (hr.mono (by decide)) rfl T.g_law_take T.f_law_take.kp (b_law_take T) .nil pass0 (pa_cons (pv 0) (pa_cons (pe_ix ix_list (pe_lst (pa_cons pe_int (pa_cons pe_int (pa_cons pe_int (pa_cons pe_int pa_nil))))) (pe_op op_sub (pv 1) pe_int) (fun _ _ => rfl)) pa_nil)))) (pa_cons (pv 2) pa_nil)))))))), ?_⟩
    refine ⟨_, rfl, b, N, 6, rfl, B, by omega, by decide, by decide, fun way H1 w0 w1 B1 M1 F1 => ?_⟩
    refine ⟨_, rfl, b, N + 1, 2, rfl, B1, by omega, by decide, by decide, fun x2 H2 x0 x1 B2 M2 F2 => ?_⟩
    refine ⟨rfl, _, rfl, ?_⟩
    refine @cutp _ (∀ (q : Int) (H3 : Hp), 2 ≤ q → q ≤ 64 → BoxAt H3 b (N + 3) → Mv b H H3 → gName 2 (.int q) ?s H3 ?D) ?b ?h
    case h =>
      intro rest
      refine ite2 (fun c => ?_) (fun c => ?_)
      · refine ⟨_, rfl, b, N + 2, 63, rfl, B2, by omega, by decide, by decide, fun x3 H3 y0 y1 B3 M3 F3 => ⟨_, _, rfl, rfl, ?_⟩⟩
        exact rest (2 + x3) H3 (by omega) (by omega) B3 (((Mv.mk M1 F1).trans ⟨M2, F2⟩).trans ⟨M3, F3⟩)
      · refine ⟨(by show 4 ≤ sizeLine; decide), fun l hl => ?_⟩
        have nlb : b ≠ l := by obtain ⟨x, c, d, f, hb, _⟩ := B2; exact ne_of_none hb hl
        refine ⟨_, rfl, b, N + 2, 4, rfl, B2.same (same_new hl), by omega, by decide, by decide, fun x3 H3 y0 y1 B3 M3 F3 => ?_⟩
        have hl3 := M3 l _ (Ne.symm nlb) upd_same
        obtain ⟨m, em, m4⟩ : ∃ m : Nat, x3 = (m : Int) ∧ m < 4 := ⟨x3.toNat, by omega, by omega⟩
        subst em
        have W := (((Mv.mk M1 F1).trans ⟨M2, F2⟩).trans (Mv.new hl)).trans ⟨M3, F3⟩
        match m, m4 with
        | 0, _ => exact ⟨l, _, _, _, rfl, rfl, SqL.of hl3, atI_nat (j := 0) rfl, rest 2 H3 (by decide) (by decide) B3 W⟩
        | 1, _ => exact ⟨l, _, _, _, rfl, rfl, SqL.of hl3, atI_nat (j := 1) rfl, rest 3 H3 (by decide) (by decide) B3 W⟩
        | 2, _ => exact ⟨l, _, _, _, rfl, rfl, SqL.of hl3, atI_nat (j := 2) rfl, rest 64 H3 (by decide) (by decide) B3 W⟩
        | 3, _ => exact ⟨l, _, _, _, rfl, rfl, SqL.of hl3, atI_nat (j := 3) rfl, rest 4 H3 (by decide) (by decide) B3 W⟩
        | m + 4, z => exact absurd z (by omega)
    case b =>
      intro q H3 q0 q1 B3 W
      refine ⟨_, rfl, _, _, rfl, rfl, _, rfl, ?_⟩
      have hb3 : H3 b ≠ none := by obtain ⟨x, c, d, f, hb, _⟩ := B3; rw [hb]; exact fun z => by cases z
      refine ite2 (fun c => ?_) (fun c => ?_)
      · refine ⟨(by show 2 ≤ sizeLine; decide), fun l hl => ?_⟩
        have hl3 : upd H3 l (.lst [.int 1, .int 24]) l = some (.lst [.int 1, .int 24]) := upd_same
        obtain ⟨m, em, m4⟩ : ∃ m : Nat, way = (m : Int) ∧ m < 2 := ⟨way.toNat, by omega, by have := of_decide_eq_true (by simpa using c : decide (way < 2) = true); omega⟩
        subst em
        have go : ∀ n : Int, 1 ≤ n → n ≤ 24 → ∀ t, upd H3 l (.lst [.int 1, .int 24]) t = none → Q (.ref t) (upd (upd H3 l (.lst [.int 1, .int 24])) t (.tup [.int n, .int q])) := fun n n0 n1 t ht =>
          k t n q _ (W.f t ((same_new hl).free ht)) upd_same n0 n1 q0 q1 (((B3.same (same_new hl)).same (same_new ht)).mono (by omega)) ((W.trans (Mv.new hl)).trans (Mv.new ht))
        match m, m4 with
        | 0, _ => exact ⟨_, rfl, l, _, _, _, rfl, rfl, SqL.of hl3, atI_nat (j := 0) rfl, _, rfl, (by show 2 ≤ sizeLine; decide), go 1 (by decide) (by decide)⟩
        | 1, _ => exact ⟨_, rfl, l, _, _, _, rfl, rfl, SqL.of hl3, atI_nat (j := 1) rfl, _, rfl, (by show 2 ≤ sizeLine; decide), go 24 (by decide) (by decide)⟩
        | m + 2, z => exact absurd z (by omega)
      · refine ⟨_, rfl, (by show 4 ≤ sizeLine; decide), fun l hl => ?_⟩
        have nlb : b ≠ l := fun z => hb3 (z ▸ hl)
        have hl3 : upd H3 l (.lst [.int 24, .int 3, .int 3, .int 6]) l = some (.lst [.int 24, .int 3, .int 3, .int 6]) := upd_same
        obtain ⟨m, em, m4⟩ : ∃ m : Nat, way = (m : Int) + 2 ∧ m < 4 := ⟨(way - 2).toNat, by have : ¬ way < 2 := fun z => c (by simpa using z); omega, by omega⟩
        subst em
        have go : ∀ (z : Int), 1 ≤ z → z ≤ 24 → ∀ x3 H4, 0 ≤ x3 → x3 < z → BoxAt H4 b (N + 3 + 1) → But b (upd H3 l (.lst [.int 24, .int 3, .int 3, .int 6])) H4 → (∀ a, H4 a = none → upd H3 l (.lst [.int 24, .int 3, .int 3, .int 6]) a = none) →
            ∀ t, H4 t = none → Q (.ref t) (upd H4 t (.tup [.int (1 + x3), .int q])) := fun z z0 z1 x3 H4 y0 y1 B4 M4 F4 t ht => by
          have W4 := (W.trans (Mv.new hl)).trans (Mv.mk M4 F4)
          exact k t (1 + x3) q _ (W4.f t ht) upd_same (by omega) (by omega) q0 q1 (B4.same (same_new ht)) (W4.trans (Mv.new ht))
        have Bl := B3.same (same_new (o := .lst [.int 24, .int 3, .int 3, .int 6]) hl)
        refine ⟨_, rfl, _, _, rfl, rfl, ?_⟩
        have fin : ∀ (z : Int), 1 ≤ z → z ≤ 24 → _ := fun z z0 z1 => (⟨b, N + 3, z, rfl, Bl, by omega, by omega, by omega, fun x3 H4 y0 y1 B4 M4 F4 => ⟨_, _, rfl, rfl, _, rfl, (by show 2 ≤ sizeLine; decide), go z z0 z1 x3 H4 y0 y1 B4 M4 F4⟩⟩ : spTake ([.ref b, .int z] ++ []) _ (fun y H2 =>
                      rI0 (fun i j => V.int (i + j)) (V.int 1) y H2 fun x H1 =>
                        tCons (tVar 2) tNil
                          ((List.set
                                (L2.start ["box", "way", "contents"] [V.ref b]) 1
                                (some (V.int (↑m + 2)))).set
                            2 (some (V.int q)))
                          H1 fun xs H2 =>
                          (fun xs H1 =>
                              xs.length ≤ sizeLine ∧
                                ∀ (p : Addr),
                                  H1 p = none →
                                    { nx := fun x H' => Q V.non H', rt := Q : Ends }.rt (V.ref p) (upd H1 p (HO.tup xs)))
                            (x :: xs) H2) E0)
        match m, m4 with
        | 0, _ => exact ⟨l, _, _, _, rfl, rfl, SqL.of hl3, atI_nat (j := 0) rfl, fin 24 (by decide) (by decide)⟩
        | 1, _ => exact ⟨l, _, _, _, rfl, rfl, SqL.of hl3, atI_nat (j := 1) rfl, fin 3 (by decide) (by decide)⟩
        | 2, _ => exact ⟨l, _, _, _, rfl, rfl, SqL.of hl3, atI_nat (j := 2) rfl, fin 3 (by decide) (by decide)⟩
        | 3, _ => exact ⟨l, _, _, _, rfl, rfl, SqL.of hl3, atI_nat (j := 3) rfl, fin 6 (by decide) (by decide)⟩
        | m + 4, z => exact absurd z (by omega)
end
end Ls

namespace Ls
open PySem PySem.Spec PyProof.Rows L2
/-! ### values whose repr is short -/
structure Tiny (m : Nat) (d : PyData) : Prop where
  l : d.leavesShort 40 = true
  b : d.bulk ≤ m
  s : d.showable = true
theorem Tiny.len {m : Nat} {d : PyData} (t : Tiny m d) (h : m ≤ 40000) : d.shown.length ≤ sizeLine := by
  have h1 := PyData.shown_le_bulk 40 (by decide) d t.l
  have h2 := t.b
  have h3 : (40 + 2) * d.bulk ≤ 42 * 40000 := Nat.mul_le_mul (by decide) (by omega)
  rw [sizeLine_eq]; omega
/-- short values that are no objects -/
inductive Fl : V → PyData → Prop
  | non : Fl .non .none
  | bl (b : Bool) : Fl (.bl b) (.bool b)
  | int (i : Int) : i.natAbs < 10 ^ 21 → Fl (.int i) (.int i)
  | str (x : Str) : x.cps.size ≤ 10 → (x.cps.toList.all fun c => decide (c < 16 ^ 8)) = true → Fl (.str x) (.str x)
theorem int_showable {i : Int} (h : i.natAbs < 10 ^ 21) : i.natAbs.log2 < 1920 := by
  by_cases h0 : i.natAbs = 0
  · rw [h0]; decide
  · rw [Nat.log2_lt h0]; exact Nat.lt_of_lt_of_le h (Nat.le_trans (by decide : 10 ^ 21 ≤ 2 ^ 70) (Nat.pow_le_pow_right (by decide) (by decide)))
theorem Fl.tiny {v : V} {d : PyData} (f : Fl v d) : Tiny 10 d ∧ d.depth = 0 := by
  cases f with
  | non => exact ⟨⟨rfl, by decide, rfl⟩, rfl⟩
  | bl b => exact ⟨⟨rfl, Nat.zero_le _, rfl⟩, rfl⟩
  | int i h =>
    refine ⟨⟨decide_eq_true ?_, Nat.zero_le _, decide_eq_true (int_showable h)⟩, rfl⟩
    have e := int_text_length_le10 (k := 21) (by decide) h
    show (Str.ofString (toString i)).length ≤ 40
    rw [PySem.ofString_length]; omega
  | str x h1 h2 => exact ⟨⟨h2, h1, rfl⟩, rfl⟩
inductive FlAll : List V → List PyData → Prop
  | nil : FlAll [] []
  | cons {v d vs ds} : Fl v d → FlAll vs ds → FlAll (v :: vs) (d :: ds)
theorem FlAll.tiny : ∀ {vs : List V} {ds : List PyData}, FlAll vs ds → PyData.leavesShortAll 40 ds = true ∧ PyData.bulkAll ds ≤ 11 * vs.length ∧ PyData.showableAll ds = true ∧ PyData.depthAll ds = 0
  | _, _, .nil => ⟨rfl, by decide, rfl, rfl⟩
  | _, _, .cons (v := v) (d := d) (vs := vs) (ds := ds) h t => by
    obtain ⟨h1, h2, h3, h4⟩ := t.tiny
    obtain ⟨⟨q1, q2, q3⟩, q4⟩ := h.tiny
    refine ⟨?_, ?_, ?_, ?_⟩
    · show (PyData.leavesShort 40 d && PyData.leavesShortAll 40 ds) = true; rw [q1, h1]; rfl
    · show PyData.bulk d + 1 + PyData.bulkAll ds ≤ 11 * (vs.length + 1); omega
    · show (PyData.showable d && PyData.showableAll ds) = true; rw [q3, h3]; rfl
    · show max (PyData.depth d) (PyData.depthAll ds) = 0; rw [q4, h4]; rfl
theorem FlAll.ints : ∀ (cs : List Int), (∀ c ∈ cs, c.natAbs < 10 ^ 21) → FlAll (cs.map V.int) (cs.map PyData.int)
  | [], _ => .nil
  | c :: cs, h => .cons (.int c (h c (List.mem_cons_self ..))) (FlAll.ints cs fun d hd => h d (List.mem_cons_of_mem _ hd))
theorem FlAll.app : ∀ {vs ws : List V} {ds es : List PyData}, FlAll vs ds → FlAll ws es → FlAll (vs ++ ws) (ds ++ es)
  | _, _, _, _, .nil, r => r
  | _, _, _, _, .cons h t, r => .cons h (t.app r)
/-- short values, or tuples of such -/
inductive It (H : Hp) : V → PyData → Prop
  | fl {v d} : Fl v d → It H v d
  | tup {a xs ds} : H a = some (.tup xs) → FlAll xs ds → xs.length ≤ 40 → It H (.ref a) (.tuple ds)
inductive ItAll (H : Hp) : List V → List PyData → Prop
  | nil : ItAll H [] []
  | cons {v d vs ds} : It H v d → ItAll H vs ds → ItAll H (v :: vs) (d :: ds)
theorem ItAll.of {H : Hp} : ∀ {vs : List V} {ds : List PyData}, FlAll vs ds → ItAll H vs ds
  | _, _, .nil => .nil
  | _, _, .cons h t => .cons (.fl h) (ItAll.of t)
theorem ItAll.app {H : Hp} : ∀ {vs ws : List V} {ds es : List PyData}, ItAll H vs ds → ItAll H ws es → ItAll H (vs ++ ws) (ds ++ es)
  | _, _, _, _, .nil, r => r
  | _, _, _, _, .cons h t, r => .cons h (t.app r)
theorem It.kt {H H' : Hp} (S : KT H H') {v : V} {d : PyData} (h : It H v d) : It H' v d := by
  cases h with
  | fl h => exact .fl h
  | tup h1 h2 h3 => exact .tup (S _ _ h1) h2 h3
theorem ItAll.kt {H H' : Hp} (S : KT H H') : ∀ {vs : List V} {ds : List PyData}, ItAll H vs ds → ItAll H' vs ds
  | _, _, .nil => .nil
  | _, _, .cons h t => .cons (h.kt S) (t.kt S)
theorem It.tiny {H : Hp} {v : V} {d : PyData} (h : It H v d) : Tiny 440 d ∧ d.depth ≤ 1 := by
  cases h with
  | fl h => exact ⟨⟨h.tiny.1.l, Nat.le_trans h.tiny.1.b (by decide), h.tiny.1.s⟩, by rw [h.tiny.2]; decide⟩
  | @tup a xs ds h1 h2 h3 =>
    obtain ⟨q1, q2, q3, q4⟩ := h2.tiny
    exact ⟨⟨q1, by show PyData.bulkAll ds ≤ 440; omega, q3⟩, by show PyData.depthAll ds + 1 ≤ 1; omega⟩
theorem ItAll.tiny {H : Hp} : ∀ {vs : List V} {ds : List PyData}, ItAll H vs ds → PyData.leavesShortAll 40 ds = true ∧ PyData.bulkAll ds ≤ 441 * vs.length ∧ PyData.showableAll ds = true ∧ PyData.depthAll ds ≤ 1
  | _, _, .nil => ⟨rfl, by decide, rfl, by decide⟩
  | _, _, .cons (v := v) (d := d) (vs := vs) (ds := ds) h t => by
    obtain ⟨h1, h2, h3, h4⟩ := t.tiny
    obtain ⟨⟨q1, q2, q3⟩, q4⟩ := h.tiny
    refine ⟨?_, ?_, ?_, ?_⟩
    · show (PyData.leavesShort 40 d && PyData.leavesShortAll 40 ds) = true; rw [q1, h1]; rfl
    · show PyData.bulk d + 1 + PyData.bulkAll ds ≤ 441 * (vs.length + 1); omega
    · show (PyData.showable d && PyData.showableAll ds) = true; rw [q3, h3]; rfl
    · show max (PyData.depth d) (PyData.depthAll ds) ≤ 1; omega
theorem Fl.dp {K : PySem.W.Frag} {H : Hp} {v : V} {d : PyData} (f : Fl v d) : Dp K H v d := by
  cases f with
  | non => exact .non
  | bl b => exact .bl b
  | int i h => exact .int i
  | str x h1 h2 => exact .str x
theorem FlAll.dp {K : PySem.W.Frag} {H : Hp} : ∀ {vs : List V} {ds : List PyData}, FlAll vs ds → DpAll K H vs ds
  | _, _, .nil => .nil
  | _, _, .cons h t => .cons h.dp t.dp
theorem It.dp {K : PySem.W.Frag} {H : Hp} {v : V} {d : PyData} (f : It H v d) : Dp K H v d := by
  cases f with
  | fl h => exact h.dp
  | tup h1 h2 h3 => exact .tup (SqT.of h1) h2.dp
theorem ItAll.dp {K : PySem.W.Frag} {H : Hp} : ∀ {vs : List V} {ds : List PyData}, ItAll H vs ds → DpAll K H vs ds
  | _, _, .nil => .nil
  | _, _, .cons h t => .cons h.dp t.dp
/-- what a law passes and looks at again -/
inductive Pv (H : Hp) : V → Prop
  | fl {v d} : Fl v d → Pv H v
  | tup {a xs ds} : H a = some (.tup xs) → ItAll H xs ds → xs.length ≤ 60 → Pv H (.ref a)
  | lst {a xs ds} : H a = some (.lst xs) → FlAll xs ds → xs.length ≤ 40 → Pv H (.ref a)
  | dic {a} : H a = some (.dK []) → Pv H (.ref a)
theorem Pv.same {H H' : Hp} (S : Same H H') {v : V} (h : Pv H v) : Pv H' v := by
  cases h with
  | fl f => exact .fl f
  | tup h1 h2 h3 => exact .tup (S _ _ h1) (h2.kt (.of S)) h3
  | lst h1 h2 h3 => exact .lst (S _ _ h1) h2 h3
  | dic h1 => exact .dic (S _ _ h1)
/-- a value whose repr the law may ask for -/
def Ry (K : PySem.W.Frag) (H : Hp) (v : V) : Prop := ∃ d, Rp K H v d ∧ d.showable = true ∧ d.depth ≤ 60 ∧ d.shown.length ≤ sizeLine
theorem Ry.fl {K : PySem.W.Frag} {H : Hp} {v : V} {d : PyData} (f : Fl v d) : Ry K H v := ⟨d, .of f.dp, f.tiny.1.s, by rw [f.tiny.2]; decide, f.tiny.1.len (by decide)⟩
theorem Ry.tup {K : PySem.W.Frag} {H : Hp} {a : Addr} {xs : List V} {ds : List PyData} (h : H a = some (.tup xs)) (g : ItAll H xs ds) (l : xs.length ≤ 60) : Ry K H (.ref a) := by
  obtain ⟨q1, q2, q3, q4⟩ := g.tiny
  exact ⟨.tuple ds, .of (.tup (SqT.of h) g.dp), q3, by show PyData.depthAll ds + 1 ≤ 60; omega, Tiny.len (m := 441 * 60) ⟨q1, by show PyData.bulkAll ds ≤ _; omega, q3⟩ (by decide)⟩
theorem Ry.lst {K : PySem.W.Frag} {H : Hp} {a : Addr} {xs : List V} {ds : List PyData} (h : H a = some (.lst xs)) (g : FlAll xs ds) (l : xs.length ≤ 41) : Ry K H (.ref a) := by
  obtain ⟨q1, q2, q3, q4⟩ := g.tiny
  exact ⟨.list ds, .of (.lst (SqL.of h) g.dp), q3, by show PyData.depthAll ds + 1 ≤ 60; omega, Tiny.len (m := 11 * 41) ⟨q1, by show PyData.bulkAll ds ≤ _; omega, q3⟩ (by decide)⟩
theorem Ry.dic {K : PySem.W.Frag} {H : Hp} {a : Addr} {k : Str} {i : Int} (h : H a = some (.dK [(.inr k, .int i)])) (hk : k.cps.size ≤ 10 ∧ (k.cps.toList.all fun c => decide (c < 16 ^ 8)) = true) (hi : i.natAbs < 10 ^ 21) : Ry K H (.ref a) := by
  obtain ⟨⟨q1, q2, q3⟩, q4⟩ := (Fl.str k hk.1 hk.2).tiny
  obtain ⟨⟨p1, p2, p3⟩, p4⟩ := (Fl.int i hi).tiny
  refine ⟨.dict [(.str k, .int i)], .dic h (.int i .nil), ?_, ?_, Tiny.len (m := 30) ⟨?_, ?_, ?_⟩ (by decide)⟩
  · show (PyData.showable (.str k) && PyData.showable (.int i) && true) = true; rw [q3, p3]; rfl
  · show max (max 0 0) 0 + 1 ≤ 60; decide
  · show (PyData.leavesShort 40 (.str k) && PyData.leavesShort 40 (.int i) && true) = true; rw [q1, p1]; rfl
  · show PyData.bulk (.str k) + PyData.bulk (.int i) + 2 + 0 ≤ 30; omega
  · show (PyData.showable (.str k) && PyData.showable (.int i) && true) = true; rw [q3, p3]; rfl
end Ls

namespace Ls
open PySem PySem.Spec PyProof.Rows L2
/-- only what v stands for is changed; nothing goes -/
def Kp (v : V) (H H' : Hp) : Prop := (∀ a o, v ≠ .ref a → H a = some o → H' a = some o) ∧ ∀ a, H' a = none → H a = none
def spSame : Sp := fun vs H Q _ => ∃ (l : Addr) (x : Str) (v : V), vs = [.ref l, .str x, v] ∧ H l = some (.lst [.str x, v]) ∧ Pv H v ∧ v ≠ .ref l ∧ ∀ H', Kp v H H' → Q (.bl true) H'
section
variable {P : Program} {w : World} {K : PySem.W.Frag} {mg : Str → Option Value} {base : Heap} {ad : Nat → Addr} {fd : Nat → FuncData}
theorem cutq {A : Prop} {c : Hp → Prop} (R : Hp → Prop) (h : (∀ H, c H → R H) → A) (b : ∀ H, c H → R H) : A := h b
theorem Kd.uniq {H : Hp} {v : V} {U W : String} (k : Kd H v U) (l : Kd H v W) : U = W := by
  cases k <;> cases l <;> first | rfl | (rename_i h1 _ h2; rw [h1] at h2; cases h2)
theorem kit_ne {K : PySem.W.Frag} {H : Hp} {v : V} {U W : String} (k : Kd H v U) (hw : W = "int" ∨ W = "bool" ∨ W = "tuple" ∨ W = "list" ∨ W = "dict") (e : isK U W = false) : PySem.W.kitOne K (.type U) (.type W) = some false := by rw [k.isi hw, e]
theorem Pv.kd {H : Hp} {v : V} (h : Pv H v) : ∃ U, Kd H v U := by
  cases h with
  | fl f =>
    cases f with
    | non => exact ⟨_, .non⟩
    | bl b => exact ⟨_, .bl b⟩
    | int i h => exact ⟨_, .int i⟩
    | str x h1 h2 => exact ⟨_, .str x⟩
  | tup h1 => exact ⟨_, .tup h1⟩
  | lst h1 => exact ⟨_, .lst h1⟩
  | dic h1 => exact ⟨_, .dic h1⟩
theorem ok_law_same (T : Tx K mg ad fd) : FnG P w K mg base CX0 1 (ad 30) (fd 30) ["told", "word", "passed"] spSame := by
  refine funG T.f_law_same sc_law_same (fun vs H Q E h => ?_) (fun cdv A outer s H vs Q E hgd hr h => ?_)
  · obtain ⟨l, x, v, rfl, _⟩ := h; rfl
  · obtain ⟨l, x, v, rfl, hl, hv, hne, k⟩ := h
    refine ⟨_, (pss_cons (ps_if (pt_val (pe_callB call_isi (by rfl) T.n_isinstance (by decide +kernel) (pa_cons (pv 2) (pa_cons (pe_bltn (v := .ty "list") (by rfl) T.n_list (by decide +kernel) rfl) pa_nil))))
        (pss_one (ps_expr (pe_bm PySem.F.plainAttrs_list PySem.F.slot_list_append PySem.F.type_list_append mt_append (pv 2) (pa_cons pe_str pa_nil))))
        pss_nil)
      (pss_cons (ps_if (pt_val (pe_callB call_isi (by rfl) T.n_isinstance (by decide +kernel) (pa_cons (pv 2) (pa_cons (pe_bltn (v := .ty "dict") (by rfl) T.n_dict (by decide +kernel) rfl) pa_nil))))
        (pss_one (ps_asg pe_int (pg_sub (pv 2) pe_str (set_dict (Nat.lt_of_le_of_lt (Nat.add_le_add_left (by decide) _) hr.units)))))
        pss_nil)
      (pss_one (ps_ret (pe_and (pe_cmpR op_eq (pe_ix ix_list (pv 0) pe_int (fun _ _ => rfl)) (pv 1) (nomark _)) (pe_one (pe_cmpR op_eq (pe_callB (cr_repr hgd hr) (by rfl) T.n_repr (by decide +kernel) (pa_cons (pe_ix ix_list (pv 0) pe_int (fun _ _ => rfl)) pa_nil)) (pe_callB (cr_repr hgd hr) (by rfl) T.n_repr (by decide +kernel) (pa_cons (pv 2) pa_nil)) (nomark _)))))))), ?_⟩
    refine cutq (c := fun H2 => H2 l = some (.lst [.str x, v]) ∧ Ry K H2 v ∧ Kp v H H2) (tRet ?te ?D ?σ) ?h ?b
    case h =>
      intro rest
      obtain ⟨U, kd⟩ := hv.kd
      refine ⟨_, rfl, v, .ty "list", _, _, _, rfl, .ty _, kd.tx, kd.isi (.inr (.inr (.inr (.inl rfl)))), _, rfl, ?_⟩
      change if isK U "list" = true then _ else tNext { nx := tSeq _ (tRet ?te) ?D, rt := _ } ?σ _
      cases hv with
      | @fl v d f =>
        have rest' := rest H ⟨hl, .fl f, fun a o _ e => e, fun a e => e⟩
        cases f with
        | non => cases kd; exact (iteF ⟨_, rfl, _, .ty "dict", _, _, _, rfl, .ty _, (Kd.non (H := H)).tx, (Kd.non (H := H)).isi (.inr (.inr (.inr (.inr rfl)))), _, rfl, iteF rest'⟩)
        | bl b => cases kd; exact (iteF ⟨_, rfl, _, .ty "dict", _, _, _, rfl, .ty _, (Kd.bl (H := H) b).tx, (Kd.bl (H := H) b).isi (.inr (.inr (.inr (.inr rfl)))), _, rfl, iteF rest'⟩)
        | int i h => cases kd; exact (iteF ⟨_, rfl, _, .ty "dict", _, _, _, rfl, .ty _, (Kd.int (H := H) i).tx, (Kd.int (H := H) i).isi (.inr (.inr (.inr (.inr rfl)))), _, rfl, iteF rest'⟩)
        | str y h1 h2 => cases kd; exact (iteF ⟨_, rfl, _, .ty "dict", _, _, _, rfl, .ty _, (Kd.str (H := H) y).tx, (Kd.str (H := H) y).isi (.inr (.inr (.inr (.inr rfl)))), _, rfl, iteF rest'⟩)
      | @tup a xs ds h1 h2 h3 =>
        have rest' := rest H ⟨hl, .tup h1 h2 h3, fun a o _ e => e, fun a e => e⟩
        cases kd.uniq (.tup h1)
        exact (iteF ⟨_, rfl, _, .ty "dict", _, _, _, rfl, .ty _, (Kd.tup h1).tx, (Kd.tup h1).isi (.inr (.inr (.inr (.inr rfl)))), _, rfl, iteF rest'⟩)
      | @lst a xs ds h1 h2 h3 =>
        have nla : l ≠ a := fun z => hne (by rw [z])
        have h1' : upd H a (.lst (xs ++ [.str "more"])) a = some (.lst (xs ++ [.str "more"])) := upd_same
        have fa : FlAll (xs ++ [.str "more"]) (ds ++ [.str "more"]) := h2.app (.cons (.str "more" (by decide +kernel) (by decide +kernel)) .nil)
        have rest' := rest _ ⟨by rw [upd_ne nla]; exact hl, .lst h1' fa (by rw [List.length_append]; show xs.length + 1 ≤ 41; omega), fun b o n e => by rw [upd_ne fun z => n (by rw [z])]; exact e, fun b e => by
          rw [← e, upd_ne]; intro z; rw [z, upd_same] at e; cases e⟩
        cases kd.uniq (.lst h1)
        refine (iteT ?_)
        refine ⟨_, rfl, .inl ⟨rfl, _, SqL.of h1⟩, a, xs, _, rfl, rfl, h1, Nat.lt_of_le_of_lt h3 (by decide), ?_⟩
        exact ⟨_, rfl, _, .ty "dict", _, _, _, rfl, .ty _, (Kd.lst h1').tx, (Kd.lst h1').isi (.inr (.inr (.inr (.inr rfl)))), _, rfl, iteF rest'⟩
      | @dic a h1 =>
        have nla : l ≠ a := fun z => hne (by rw [z])
        have h1' : upd H a (.dK (putK [] (.inr "more") (.int 1))) a = some (.dK [(.inr "more", .int 1)]) := upd_same
        have rest' := rest _ ⟨by rw [upd_ne nla]; exact hl, .dic h1' ⟨by decide +kernel, by decide +kernel⟩ (by decide), fun b o n e => by rw [upd_ne fun z => n (by rw [z])]; exact e, fun b e => by
          rw [← e, upd_ne]; intro z; rw [z, upd_same] at e; cases e⟩
        cases kd.uniq (.dic h1)
        refine (iteF ?_)
        refine ⟨_, rfl, _, .ty "dict", _, _, _, rfl, .ty _, (Kd.dic h1).tx, (Kd.dic h1).isi (.inr (.inr (.inr (.inr rfl)))), _, rfl, iteT ?_⟩
        exact ⟨_, rfl, a, _, rfl, DPut.k (k := .inr "more") h1 (Nat.zero_lt_of_lt (by decide : 0 < sizeLine)), rest'⟩
    case b =>
      rintro H2 ⟨hl2, ⟨d, r1, r2, r3, r4⟩, kp⟩
      refine ⟨_, rfl, l, _, _, _, rfl, rfl, SqL.of hl2, atI_nat (j := 0) rfl, _, rfl, rfl, ?_⟩
      refine ⟨_, rfl, ?_⟩
      rw [if_pos (decide_eq_true rfl)]
      refine ⟨_, rfl, l, _, _, _, rfl, rfl, SqL.of hl2, atI_nat (j := 1) rfl, v, d, rfl, r1, r2, r3, r4, ?_⟩
      refine ⟨_, rfl, v, d, rfl, r1, r2, r3, r4, rfl, ?_⟩
      rw [decide_eq_true (rfl : V.str d.shown = V.str d.shown)]
      exact k H2 kp
end
end Ls

namespace Ls
open PySem PySem.Spec PyProof.Rows L2
theorem ix_any {K : PySem.W.Frag} {l : Addr} {xs : List V} {i : Int} {H : Hp} {Q : VK} (h : SqL K H l xs) (h0 : 0 ≤ i) (h1 : i < xs.length) (q : ∀ v ∈ xs, Q v H) : rIxL K (.ref l) (.int i) H Q := by
  have hl : i.toNat < xs.length := by omega
  refine ⟨l, xs, i, xs[i.toNat], rfl, rfl, h, ?_, q _ (List.getElem_mem hl)⟩
  unfold atI; rw [ixN_in h0 h1]; exact List.getElem?_eq_getElem hl
theorem sIx_m1 (n d : Nat) : HT.sIx n d (some (-1)) = ((-1 : Int) + (n : Int)).toNat := by
  show (if (-1 : Int) < 0 then ((-1 : Int) + (n : Int)).toNat else min (-1 : Int).toNat n) = _; rw [if_pos (by decide)]
theorem rCat_new {K : PySem.W.Frag} {H0 H : Hp} {a b : Addr} {xs ys : List V} {Q : VK} (ha : H a = some (.tup xs)) (hb : H b = some (.tup ys)) (na : H0 a = none) (nb : H0 b = none) (S : Same H0 H) (l : xs.length + ys.length ≤ 1000)
    (q : ∀ c H', H' c = some (.tup (xs ++ ys)) → H0 c = none → Same H H' → Q (.ref c) H') : rCatA K (.ref a) (.ref b) H Q := by
  refine ⟨a, b, xs, ys, rfl, rfl, SqT.of ha, SqT.of hb, Nat.le_trans l (by decide), fun e => ?_, fun _ e => ?_, fun _ _ p hp => ?_⟩
  · subst e; exact q b H hb nb (Same.refl H)
  · subst e; exact q a H (by rw [List.append_nil]; exact ha) na (Same.refl H)
  · exact q p _ upd_same (S.free hp) (same_new hp)
theorem cutV_ints (st : List Int) (lo hi : Option Int) : ∃ ds : List Int, cutV (st.map V.int) lo hi = ds.map V.int ∧ ds.length ≤ st.length ∧ ∀ c ∈ ds, c ∈ st := by
  refine ⟨(st.drop (HT.sIx (st.map V.int).length 0 lo)).take (HT.sIx (st.map V.int).length (st.map V.int).length hi - HT.sIx (st.map V.int).length 0 lo), ?_, ?_, fun c hc => List.mem_of_mem_drop (List.mem_of_mem_take hc)⟩
  · unfold cutV; rw [List.map_take, List.map_drop]
  · rw [List.length_take, List.length_drop]; omega
theorem ItAll.kd {H : Hp} : ∀ {vs : List V} {ds : List PyData}, ItAll H vs ds → ∀ x ∈ vs, ∃ U, Kd H x U
  | _, _, .cons h t, x, hx => by
    rcases List.mem_cons.mp hx with e | e
    · subst e
      cases h with
      | fl f => exact (Pv.fl (H := H) f).kd
      | tup h1 _ _ => exact ⟨_, .tup h1⟩
    · exact t.kd x e
theorem Pv.kdt {H : Hp} {v : V} (h : Pv H v) : KdT H v := fun a xs e ht => by
  subst e
  cases h with
  | fl f => cases f
  | tup h1 h2 h3 => rw [h1] at ht; cases ht; exact ⟨h2.kd, Nat.le_trans h3 (by decide)⟩
  | lst h1 => rw [h1] at ht; cases ht
  | dic h1 => rw [h1] at ht; cases ht
theorem small21 {i : Int} (h0 : -100000 ≤ i) (h1 : i ≤ 100000) : i.natAbs < 10 ^ 21 := Nat.lt_of_lt_of_le (m := 100001) (by omega) (by decide)
theorem It.same {H H' : Hp} (S : Same H H') {v : V} {d : PyData} (h : It H v d) : It H' v d := h.kt (.of S)
/-- v is no filling of n blocks with q contents; it is new since H0 -/
structure OddAt (H0 H : Hp) (v : V) (n q : Int) : Prop where
  p : Pv H v
  f : filB H v n q = false
  n : ∀ a, v = .ref a → H0 a = none
def spOdd : Sp := fun vs H Q _ => ∃ (way at' q more : Int) (f : Addr) (st : List Int), vs = [.int way, .int at', .ref f, .int q, .int more] ∧ H f = some (.tup (st.map V.int)) ∧ 0 ≤ way ∧ way < 18 ∧ 0 ≤ at' ∧ at' < st.length ∧ st.length ≤ 24 ∧
  (∀ c ∈ st, 0 ≤ c ∧ c < q) ∧ 2 ≤ q ∧ q ≤ 64 ∧ 1 ≤ more ∧ more ≤ 1000 ∧ ∀ v H', Same H H' → OddAt H H' v st.length q → Q v H'
section
variable {P : Program} {w : World} {K : PySem.W.Frag} {mg : Str → Option Value} {base : Heap} {ad : Nat → Addr} {fd : Nat → FuncData}
theorem ok_law_odd (T : Tx K mg ad fd) : FnOk P w K mg base CX0 1 (ad 29) (fd 29) ["way", "at", "filling", "contents", "more"] spOdd := by
  refine T.f_law_odd_filling.ok sc_law_odd_filling (fun vs H Q E h => ?_) (fun cdv A outer s H vs Q E hr h => ?_)
  · obtain ⟨way, at', q, more, f, st, rfl, _⟩ := h; rfl
  · obtain ⟨way, at', q, more, f, st, rfl, hf, w0, w1, a0, a1, hl, hrg, q0, q1, m0, m1, k⟩ := h
    refine ⟨_, (pss_cons (ps_if (pt_cmpR op_lt (pv 0) pe_int (nomark _))
        (pss_cons (ps_set (i := 5) sc_law_odd_filling.nd rfl (by first | exact Or.inl rfl | exact Or.inr rfl) (pe_ix ix_list (pe_lst (pa_cons (pv 3) (pa_cons (pe_un un_neg pe_int) (pa_cons (pe_op op_add (pv 3) (pv 4)) (pa_cons pe_bl (pa_cons pe_bl (pa_cons pe_non (pa_cons pe_str (pa_cons (pe_tup (pa_cons (pe_ix ix_tup (pv 2) (pv 1) (fun _ _ => rfl)) pa_nil)) pa_nil))))))))) (pv 0) (fun _ _ => rfl)))
      (pss_one (ps_ret (pe_op op_catA (pe_op op_catA (pe_slice sl_tupA (pv 2) po_none (po_some (pv 1))) (pe_tup (pa_cons (pv 5) pa_nil))) (pe_slice sl_tupA (pv 2) (po_some (pe_op op_add (pv 1) pe_int)) po_none)))))
        pss_nil)
      (pss_one (ps_ret (pe_ix ix_list (pe_lst (pa_cons (pe_callTy call_list_of (by rfl) T.n_list (by decide +kernel) (pa_cons (pv 2) pa_nil)) (pa_cons (pe_op op_catA (pv 2) (pe_tup (pa_cons pe_int pa_nil))) (pa_cons (pe_slice sl_tupA (pv 2) po_none (po_some (pe_un un_neg pe_int))) (pa_cons (pe_tup pa_nil) (pa_cons pe_non (pa_cons (pe_lst pa_nil) (pa_cons pe_str (pa_cons pe_dnewK (pa_cons (pe_tup (pa_cons (pv 2) pa_nil)) (pa_cons pe_int pa_nil))))))))))) (pe_op op_sub (pv 0) pe_int) (fun _ _ => rfl))))), ?_⟩
    have ha : at'.toNat < st.length := by omega
    have hx : (st.map V.int)[at'.toNat]? = some (.int st[at'.toNat]) := by rw [List.getElem?_map, List.getElem?_eq_getElem ha]; rfl
    have hs9 : ∀ c ∈ st, c.natAbs < 10 ^ 21 := fun c hc => by obtain ⟨c0, c1⟩ := hrg c hc; exact small21 (by omega) (by omega)
    refine ⟨_, rfl, _, _, rfl, rfl, _, rfl, ?_⟩
    refine ite2 (fun c => ?_) (fun c => ?_)
    · have w8 : way < 8 := by simpa using c
      have atx : atI (st.map V.int) at' = some (.int st[at'.toNat]) := by unfold atI; rw [ixN_in a0 (by rw [List.length_map]; exact a1)]; exact hx
      refine ⟨_, rfl, _, rfl, _, rfl, _, rfl, _, _, rfl, rfl, _, rfl, _, rfl, f, _, at', _, rfl, rfl, SqT.of hf, atx, (by show 1 ≤ sizeLine; decide), fun t1 ht1 => ⟨(by show 8 ≤ sizeLine; decide), fun l hl => ⟨_, rfl, ?_⟩⟩⟩
      have St1 : Same H (upd H t1 (.tup [.int st[at'.toNat]])) := same_new ht1
      have Sl := St1.trans (same_new (o := .lst [V.int q, .int (-1), .int (q + more), .bl true, .bl false, .non, .str "0", .ref t1]) hl)
      refine ix_any (SqL.of upd_same) w0 w8 fun odd hodd => ?_
      have hodd2 : (∃ d, It (upd (upd H t1 (.tup [.int st[at'.toNat]])) l (.lst [V.int q, .int (-1), .int (q + more), .bl true, .bl false, .non, .str "0", .ref t1])) odd d) ∧ inR odd 0 (q - 1) = false := by
        simp only [List.mem_cons, List.not_mem_nil, or_false] at hodd
        rcases hodd with e | e | e | e | e | e | e | e <;> subst e
        · exact ⟨⟨_, .fl (.int _ (small21 (by omega) (by omega)))⟩, by unfold inR; simp; omega⟩
        · exact ⟨⟨_, .fl (.int _ (by decide))⟩, rfl⟩
        · exact ⟨⟨_, .fl (.int _ (small21 (by omega) (by omega)))⟩, by unfold inR; simp; intro; omega⟩
        · exact ⟨⟨_, .fl (.bl _)⟩, rfl⟩
        · exact ⟨⟨_, .fl (.bl _)⟩, rfl⟩
        · exact ⟨⟨_, .fl .non⟩, rfl⟩
        · exact ⟨⟨_, .fl (.str _ (by decide +kernel) (by decide +kernel))⟩, rfl⟩
        · refine ⟨⟨_, .tup (a := t1) (xs := [.int st[at'.toNat]]) (ds := [.int st[at'.toNat]]) ?_ (.cons (.int _ (hs9 _ (List.getElem_mem ha))) .nil) (by show 1 ≤ 40; decide)⟩, rfl⟩
          rw [upd_ne fun z => (by rw [← z, upd_same] at hl; cases hl), upd_same]
      obtain ⟨⟨dd, hit⟩, hin⟩ := hodd2
      clear hodd
      generalize upd (upd H t1 (.tup [.int st[at'.toNat]])) l (.lst [V.int q, .int (-1), .int (q + more), .bl true, .bl false, .non, .str "0", .ref t1]) = H1 at Sl hit ⊢
      refine ⟨_, rfl, _, rfl, _, rfl, f, _, rfl, SqT.of (Sl _ _ hf), fun hw => ?_, fun _ p1 hp1 => ?_⟩
      · exfalso
        obtain ⟨_, h2⟩ := hw
        have e : at' = ((at'.toNat : Nat) : Int) := by omega
        rw [e, HT.sIx_nat, List.length_map] at h2; omega
      · obtain ⟨ds1, e1, l1, g1⟩ := cutV_ints st none (some at')
        rw [e1]
        have S1 : Same H1 (upd H1 p1 (.tup (ds1.map V.int))) := same_new hp1
        refine ⟨_, rfl, (by show 1 ≤ sizeLine; decide), fun t2 ht2 => ?_⟩
        have S2 := S1.trans (same_new (o := .tup [odd]) ht2)
        have h1p : upd (upd H1 p1 (.tup (ds1.map V.int))) t2 (.tup [odd]) p1 = some (.tup (ds1.map V.int)) := by rw [upd_ne fun z => (by rw [← z, upd_same] at ht2; cases ht2)]; exact upd_same
        refine rCat_new (H0 := H) h1p upd_same (Sl.free hp1) ((Sl.trans S1).free ht2) (Sl.trans S2) (by rw [List.length_map]; show _ + 1 ≤ 1000; omega) fun c1 H2 hc1 nc1 S3 => ?_
        have SH2 := (Sl.trans S2).trans S3
        refine ⟨_, rfl, _, rfl, _, _, rfl, rfl, _, rfl, f, _, rfl, SqT.of (SH2 _ _ hf), fun hw => ?_, fun _ p2 hp2 => ?_⟩
        · exfalso
          obtain ⟨h2, _⟩ := hw
          have e : at' + 1 = ((at'.toNat + 1 : Nat) : Int) := by omega
          rw [e, HT.sIx_nat, List.length_map] at h2; omega
        · obtain ⟨ds2, e2, l2, g2⟩ := cutV_ints st (some (at' + 1)) none
          rw [e2]
          have S4 : Same H2 (upd H2 p2 (.tup (ds2.map V.int))) := same_new hp2
          refine rCat_new (H0 := H) (S4 _ _ hc1) upd_same nc1 (SH2.free hp2) (SH2.trans S4) (by rw [List.length_append, List.length_map, List.length_map]; show _ + 1 + _ ≤ 1000; omega) fun c2 H3 hc2 nc2 S5 => ?_
          have SS := (S2.trans S3).trans (S4.trans S5)
          have s9 : ∀ ds : List Int, (∀ c ∈ ds, c ∈ st) → FlAll (ds.map V.int) (ds.map PyData.int) := fun ds g => FlAll.ints ds fun c hc => hs9 c (g c hc)
          refine k (.ref c2) H3 (Sl.trans SS) ⟨.tup hc2 (((ItAll.of (s9 ds1 g1)).app (.cons (hit.same SS) .nil)).app (.of (s9 ds2 g2))) (by rw [List.length_append, List.length_append, List.length_map, List.length_map]; show _ + 1 + _ ≤ 60; omega), ?_, fun a e => by cases e; exact nc2⟩
          rw [filB_tup hc2]
          have : (((ds1.map V.int ++ [odd]) ++ ds2.map V.int).all fun x => inR x 0 (q - 1)) = false := by
            rw [List.all_eq_false]; exact ⟨odd, by simp, by rw [hin]; decide⟩
          rw [this, Bool.and_false]
    · have w8 : ¬ way < 8 := by simpa using c
      refine ⟨_, rfl, f, _, rfl, .inr (SqT.of hf), fun b1 n1 => ?_⟩
      obtain ⟨H1, e1⟩ : ∃ X, X = upd H b1 (.lst (st.map V.int)) := ⟨_, rfl⟩
      rw [← e1]
      have s1 : Same H H1 := e1 ▸ same_new n1
      have g1 : H1 b1 = some (.lst (st.map V.int)) := by rw [e1]; exact upd_same
      clear e1
      refine ⟨_, rfl, (by show 1 ≤ sizeLine; decide), fun b2 n2 => ?_⟩
      obtain ⟨H2, e2⟩ : ∃ X, X = upd H1 b2 (.tup [.int 0]) := ⟨_, rfl⟩
      rw [← e2]
      have s2 : Same H1 H2 := e2 ▸ same_new n2
      have g2 : H2 b2 = some (.tup [.int 0]) := by rw [e2]; exact upd_same
      clear e2
      have f2 := s2 _ _ (s1 _ _ hf)
      refine ⟨f, b2, _, _, rfl, rfl, SqT.of f2, SqT.of g2, (by rw [List.length_map]; show st.length + 1 ≤ _; rw [sizeLine_eq]; omega), fun e => ?_, fun _ e => (by cases e), fun _ _ b3 n3 => ?_⟩
      · exfalso; rw [List.map_eq_nil_iff] at e; rw [e] at ha; exact absurd ha (Nat.not_lt_zero _)
      obtain ⟨H3, e3⟩ : ∃ X, X = upd H2 b3 (.tup (st.map V.int ++ [.int 0])) := ⟨_, rfl⟩
      rw [← e3]
      have s3 : Same H2 H3 := e3 ▸ same_new n3
      have g3 : H3 b3 = some (.tup (st.map V.int ++ [.int 0])) := by rw [e3]; exact upd_same
      clear e3
      refine ⟨_, rfl, _, rfl, _, rfl, f, _, rfl, SqT.of (s3 _ _ f2), fun hw => ?_, fun _ b4 n4 => ?_⟩
      · exfalso
        obtain ⟨_, h2⟩ := hw
        rw [sIx_m1, List.length_map] at h2; omega
      obtain ⟨H4, e4⟩ : ∃ X, X = upd H3 b4 (.tup (cutV (st.map V.int) none (some (-1)))) := ⟨_, rfl⟩
      rw [← e4]
      have s4 : Same H3 H4 := e4 ▸ same_new n4
      have g4 : H4 b4 = some (.tup (cutV (st.map V.int) none (some (-1)))) := by rw [e4]; exact upd_same
      clear e4
      refine ⟨(by show 0 ≤ sizeLine; decide), fun b5 n5 => ?_⟩
      obtain ⟨H5, e5⟩ : ∃ X, X = upd H4 b5 (.tup []) := ⟨_, rfl⟩
      rw [← e5]
      have s5 : Same H4 H5 := e5 ▸ same_new n5
      have g5 : H5 b5 = some (.tup []) := by rw [e5]; exact upd_same
      clear e5
      refine ⟨(by show 0 ≤ sizeLine; decide), fun b6 n6 => ?_⟩
      obtain ⟨H6, e6⟩ : ∃ X, X = upd H5 b6 (.lst []) := ⟨_, rfl⟩
      rw [← e6]
      have s6 : Same H5 H6 := e6 ▸ same_new n6
      have g6 : H6 b6 = some (.lst []) := by rw [e6]; exact upd_same
      clear e6
      refine fun b7 n7 => ?_
      obtain ⟨H7, e7⟩ : ∃ X, X = upd H6 b7 (.dK []) := ⟨_, rfl⟩
      rw [← e7]
      have s7 : Same H6 H7 := e7 ▸ same_new n7
      have g7 : H7 b7 = some (.dK []) := by rw [e7]; exact upd_same
      clear e7
      refine ⟨_, rfl, (by show 1 ≤ sizeLine; decide), fun b8 n8 => ?_⟩
      obtain ⟨H8, e8⟩ : ∃ X, X = upd H7 b8 (.tup [.ref f]) := ⟨_, rfl⟩
      rw [← e8]
      have s8 : Same H7 H8 := e8 ▸ same_new n8
      have g8 : H8 b8 = some (.tup [.ref f]) := by rw [e8]; exact upd_same
      clear e8
      refine ⟨(by show 10 ≤ sizeLine; decide), fun b9 n9 => ?_⟩
      have s9 := same_new (o := .lst [.ref b1, .ref b3, .ref b4, .ref b5, .non, .ref b6, .str "01", .ref b7, .ref b8, .int 0]) n9
      refine ⟨_, rfl, _, _, rfl, rfl, ix_any (SqL.of upd_same) (by omega) (by show way - 8 < 10; omega) fun v hv => ?_⟩
      simp only [List.mem_cons, List.not_mem_nil, or_false] at hv
      have t8 := s8.trans s9; have t7 := s7.trans t8; have t6 := s6.trans t7; have t5 := s5.trans t6; have t4 := s4.trans t5; have t3 := s3.trans t4; have t2 := s2.trans t3; have t1 := s1.trans t2
      have u1 := s1; have u2 := u1.trans s2; have u3 := u2.trans s3; have u4 := u3.trans s4; have u5 := u4.trans s5; have u6 := u5.trans s6; have u7 := u6.trans s7
      have fa : FlAll (st.map V.int) (st.map PyData.int) := FlAll.ints st hs9
      rcases hv with e | e | e | e | e | e | e | e | e | e <;> subst e
      · exact k _ _ t1 ⟨.lst (t2 _ _ g1) fa (by rw [List.length_map]; omega), filB_lst (t2 _ _ g1), fun a e => by cases e; exact n1⟩
      · refine k _ _ t1 ⟨.tup (t4 _ _ g3) ((ItAll.of fa).app (.cons (.fl (.int 0 (by decide))) .nil)) (by rw [List.length_append, List.length_map]; show st.length + 1 ≤ 60; omega), ?_, fun a e => by cases e; exact u2.free n3⟩
        rw [filB_tup (t4 _ _ g3), List.length_append, List.length_map, decide_eq_false (by show ¬ ((st.length + 1 : Nat) : Int) = _; omega)]; rfl
      · obtain ⟨ds, e1, l1, gg1⟩ := cutV_ints st none (some (-1))
        have el : (cutV (st.map V.int) none (some (-1))).length = st.length - 1 := by
          unfold cutV; rw [sIx_m1, HT.sIx_none, List.length_take, List.length_drop, List.length_map]; omega
        have g4' := t5 _ _ g4
        rw [e1] at g4' el
        refine k _ _ t1 ⟨.tup g4' (.of (FlAll.ints ds fun c hc => hs9 c (gg1 c hc))) (by rw [List.length_map]; omega), ?_, fun a e => by cases e; exact u3.free n4⟩
        rw [filB_tup g4', el, decide_eq_false (by omega)]; rfl
      · refine k _ _ t1 ⟨.tup (t6 _ _ g5) .nil (by decide), ?_, fun a e => by cases e; exact u4.free n5⟩
        rw [filB_tup (t6 _ _ g5), decide_eq_false (by show ¬ ((0 : Nat) : Int) = _; omega)]; rfl
      · exact k _ _ t1 ⟨.fl .non, rfl, fun a e => by cases e⟩
      · exact k _ _ t1 ⟨.lst (t7 _ _ g6) .nil (by decide), filB_lst (t7 _ _ g6), fun a e => by cases e; exact u5.free n6⟩
      · exact k _ _ t1 ⟨.fl (.str "01" (by decide +kernel) (by decide +kernel)), rfl, fun a e => by cases e⟩
      · exact k _ _ t1 ⟨.dic (t8 _ _ g7), filB_dic (t8 _ _ g7), fun a e => by cases e; exact u6.free n7⟩
      · refine k _ _ t1 ⟨.tup (s9 _ _ g8) (.cons (.tup (t1 _ _ hf) fa (by rw [List.length_map]; omega)) .nil) (by show 1 ≤ 60; decide), ?_, fun a e => by cases e; exact u7.free n8⟩
        rw [filB_tup (s9 _ _ g8)]; show (_ && (inR (.ref f) 0 (q - 1) && true)) = false; rw [show inR (.ref f) 0 (q - 1) = false from rfl]; simp
      · exact k _ _ t1 ⟨.fl (.int 0 (by decide)), rfl, fun a e => by cases e⟩
end
end Ls

namespace Ls
open PySem PySem.Spec PyProof.Rows L2
theorem takes_no {X : Cx} : Takes X (fun _ _ _ _ => False) := fun u s' ⟨_, _, _, _, _, _, _, _, _, _, _, _, _, _, _, _, w⟩ => w.elim
/-- self by position, torn, filling and disk by name, in the parameters' order -/
def gDr {α : Type} (us _mv ws : List α) : List α := match us, ws with
  | [s], [t, f, d] => [s, d, f, t]
  | _, _ => []
section
variable {P : Program} {w : World} {K : PySem.W.Frag} {mg : Str → Option Value} {base : Heap} {ad : Nat → Addr} {fd : Nat → FuncData}
theorem b_Drive___init (T : Tx K mg ad fd) : ∃ ds, Vals [V.bl true] ds ∧ Binds K (fd 2200) ["self", "disk", "filling", "torn"] ds :=
  T.d_Drive___init.binds0 3 (by intro z; cases z) rfl fun D doc pm an cdv ct us ks l1 l2 => match us, ks, l1, l2 with
    | [_, _, _], [_], _, _ => ⟨_, _, _, _, _, _, rfl, rfl, rfl⟩
theorem bk_Drive___init (T : Tx K mg ad fd) : ∃ mv : List Value, KBn K (fd 2200) ["self", "disk", "filling", "torn"] 1 ["torn", "filling", "disk"] (fun us ws => gDr us mv ws) (fun vs zs => gDr vs [] zs) :=
  T.d_Drive___init.kbinds0 1 ["torn", "filling", "disk"] [] gDr (by intro z; cases z) (fun q h => by cases h)
    (fun r1 r2 r3 => by
      cases r1 with
      | nil => exact .nil
      | cons a1 b1 => cases b1 with
        | cons _ _ => exact .nil
        | nil => cases r3 with
          | nil => exact .nil
          | cons a2 b2 => cases b2 with
            | nil => exact .nil
            | cons a3 b3 => cases b3 with
              | nil => exact .nil
              | cons a4 b4 => cases b4 with
                | cons _ _ => exact .nil
                | nil => exact .cons a1 (.cons a4 (.cons a3 (.cons a2 .nil))))
    fun D doc pm an cdv ct us mv ws l1 l2 l3 => match us, mv, ws, l1, l2, l3 with
      | [_], [], [_, _, _], _, _, _ => rfl
theorem bp_Drive___init (T : Tx K mg ad fd) : ∃ mv : List Value, KBn K (fd 2200) ["self", "disk", "filling", "torn"] 3 ["torn"] (fun us ws => us ++ ws) (fun vs zs => vs ++ zs) := by
  obtain ⟨mv, h⟩ := T.d_Drive___init.kbinds0 (ps := ["self", "disk", "filling", "torn"]) 3 ["torn"] [] (fun us _ ws => us ++ ws) (by intro z; cases z) (fun q h => by cases h) (fun r1 r2 r3 => r1.append r3)
    fun D doc pm an cdv ct us mv ws l1 l2 l3 => match us, mv, ws, l1, l2, l3 with
      | [_, _, _], [], [_], _, _, _ => rfl
  exact ⟨mv, h⟩
theorem filB_same {H H' : Hp} {v : V} {U : String} {n q : Int} (kd : Kd H v U) (S : Same H H') : filB H' v n q = filB H v n q := by
  cases kd with
  | lst h => rw [filB_lst h, filB_lst (S _ _ h)]
  | tup h => rw [filB_tup h, filB_tup (S _ _ h)]
  | dic h => rw [filB_dic h, filB_dic (S _ _ h)]
  | _ => rfl
/-- on the way into the law's model: what `made` or `filling` tells -/
def spOpened (C CD CF : Addr) : Sp := fun vs H Q _ => ∃ (way : Int) (d : Addr) (v : V) (U : String) (tn : Bool) (n q : Int), vs = [.int way, .ref d, v, .bl tn] ∧ DkAt CD H d n q ∧ (1 ≤ n ∧ n ≤ 24 ∧ 2 ≤ q ∧ q ≤ 64) ∧ Kd H v U ∧ KdT H v ∧
  (filB H v n q = false → ∀ l H', H l = none → H' l = some (.lst [.str "filling", v]) → Same H H' → Q (.ref l) H') ∧
  (∀ (a : Addr) (cs : List Int), v = .ref a → H a = some (.tup (cs.map V.int)) → (cs.length : Int) = n → (∀ c ∈ cs, 0 ≤ c ∧ c < q) →
    ∀ l p pa H', H l = none → H p = none → H pa = none → p ≠ pa → l ≠ p → l ≠ pa → H' l = some (.lst [.str "made", .ref p]) → DrAt C CD H' p d a pa tn n q cs [] → Same H H' → Q (.ref l) H')
theorem ok_law_opened (T : Tx K mg ad fd) : FnOk P w K mg base CX0 6 (ad 32) (fd 32) ["way", "disk", "filling", "torn"] (spOpened (ad 100022) (ad 100017) (ad 100004)) := by
  refine T.f_law_opened.ok sc_law_opened (fun vs H Q E h => ?_) (fun cdv A outer s H vs Q E hr h => ?_)
  · obtain ⟨way, d, v, U, tn, n, q, rfl, _⟩ := h; rfl
  · obtain ⟨way, d, v, U, tn, n, q, rfl, hd, bn, kd, kt, kf, k⟩ := h
    obtain ⟨ds, rds, b0⟩ := b_Drive___init (K := K) (fd := fd) T
    obtain ⟨mv1, b1⟩ := bk_Drive___init (K := K) (fd := fd) T
    obtain ⟨mv2, b2⟩ := bp_Drive___init (K := K) (fd := fd) T
    have b00 := kbn_of (n := 3) b0 rds (by rw [← rds.length]; rfl)
    refine ⟨_, (pss_one (ps_tryA rfl rfl sc_law_opened.nd takes_no (fun W pn xe tk hpo =>
        (pss_cons (ps_if (PW.pt (pw_and (pt_cmpR op_eq (pv 0) pe_int (nomark _)) (pw_and1 (pt_val (pv 3)))))
          (pss_one (ps_ret (pe_lst (pa_cons pe_str (pa_cons (pe_mkS T.k_Drive (ok_Drive___init T) (hr.mono (by decide)) rfl T.g_Drive b00 (fun σ => passAt tk σ) (pa_cons (pv 1) (pa_cons (pv 2) pa_nil))) pa_nil)))))
          pss_nil)
        (pss_cons (ps_if (pt_cmpR op_eq (pv 0) pe_int (nomark _))
          (pss_one (ps_ret (pe_lst (pa_cons pe_str (pa_cons (pe_mkKS T.k_Drive (ok_Drive___init T) (hr.mono (by decide)) rfl T.g_Drive b1 (fun σ => passAt tk σ) (pk_cons (pv 3) (pk_cons (pv 2) (pk_cons (pv 1) pk_nil)))) pa_nil)))))
          pss_nil)
        (pss_one (ps_ret (pe_lst (pa_cons pe_str (pa_cons (pe_mkPKS T.k_Drive (ok_Drive___init T) (hr.mono (by decide)) rfl T.g_Drive b2 (fun σ => passAt tk σ) (pa_cons (pv 1) (pa_cons (pv 2) pa_nil)) (pk_cons (pv 3) pk_nil)) pa_nil))))))))
        (.as_ (i := 4) rfl rfl ⟨rfl, by decide, .inl T.g_InvalidFilling⟩ (fun a oe cls dd pn hz hf => pss_one (ps_ret (pe_lst (pa_cons pe_str (pa_cons (pe_xf T.xf_InvalidFilling T.nf_InvalidFilling hz hf (pv 4)) pa_nil)))) ) .nil))), ?_⟩
    have core : ∀ (E' : XK), (filB H v n q = false → ∀ H', Same H H' → isRaise H' E' (ad 100004) "given" v) → ∀ y dy, H y = none → H dy = none → dy ≠ y →
        spInit (ad 100022) (ad 100017) (ad 100004) [.ref y, .ref d, v, .bl tn] (upd (upd H dy (.own y)) y (.ins (ad 100022) dy [])) (fun u H3 => u = .non ∧ (2 ≤ sizeLine ∧ ∀ p, H3 p = none → Q (.ref p) (upd H3 p (.lst [.str "made", .ref y])))) E' := by
      intro E' hE y dy hy hdy nyd
      have hy2 : upd H dy (.own y) y = none := by rw [upd_ne nyd.symm]; exact hy
      have S0 : Same H (upd (upd H dy (.own y)) y (.ins (ad 100022) dy [])) := (same_new hdy).trans (same_new hy2)
      obtain ⟨ddx, hdd⟩ := hd
      refine ⟨y, dy, d, v, U, tn, n, q, rfl, upd_same, ⟨ddx, S0 _ _ hdd⟩, (ne_of_none hdd hy).symm, bn, kd.same S0, KdT.same kd kt S0, fun e H' S => hE (by rw [← filB_same kd S0]; exact e) H' (S0.trans S), fun a cs ev ha hl hr pa H' hpa D B => ⟨rfl, by decide, fun l hl2 => ?_⟩⟩
      subst ev
      have ha0 : H a = some (.tup (cs.map V.int)) := by
        cases kd with
        | lst h => rw [S0 _ _ h] at ha; cases ha
        | tup h => rw [S0 _ _ h] at ha; cases ha; exact h
        | dic h => rw [S0 _ _ h] at ha; cases ha
      have SH : Same H H' := fun b o e => B b o (ne_of_none e hy) (S0 b o e)
      obtain ⟨dx2, hob⟩ := D.ob; obtain ⟨xs2, hpe, _⟩ := D.pe
      have npa : y ≠ pa := fun z => by rw [z, upd_same] at hpa; cases hpa
      exact k a cs rfl ha0 hl hr l y pa _ (SH.free hl2) hy (S0.free hpa) npa (ne_of_none hob hl2).symm (ne_of_none hpe hl2).symm upd_same (D.same (same_new hl2)) (SH.trans (same_new hl2))
    have hE : ∀ (R : VK) (W0 : WX), filB H v n q = false → ∀ H', Same H H' → isRaise H' (WE (wAs K (Value.ref (ad 100004)) 4 (fun a cls dd => tRet (tLst (tCons (tC (V.str "filling")) (tCons (tXf a cls dd (ad 100004) "given" (tVar 4)) tNil)))) W0 { nx := fun x H' => Q V.non H', rt := Q })
        (L2.start ["way", "disk", "filling", "torn", "e"] [V.int way, V.ref d, v, V.bl tn])) (ad 100004) "given" v := fun R W0 e H' S dd hdd =>
      ⟨true, T.te_InvalidFilling_InvalidFilling, fun _ a ha => ⟨_, rfl, rfl, rfl, dd, _, v, rfl, upd_same, rfl, (by show 2 ≤ sizeLine; decide), fun l hl => kf e l _ (S.free ((same_new hdd).free hl)) upd_same ((S.trans (same_new hdd)).trans (same_new hl))⟩, fun z => by cases z⟩
    refine ⟨_, rfl, rfl, _, rfl, ?_⟩
    refine @cutp _ (?X) ?b ?h
    case h =>
      intro rest
      refine ite2 (fun c => ?c1) (fun c => iteF ?c2)
      case c2 => exact rest
      refine ⟨_, rfl, _, rfl, ?_⟩
      cases tn with
      | true => exact iteT ⟨_, rfl, _, rfl, rfl, rfl, core _ (hE Q _)⟩
      | false => exact iteF rest
    case b =>
      refine ⟨_, rfl, rfl, _, rfl, ?_⟩
      refine ite2 (fun c => ?_) (fun c => ?_)
      · exact ⟨_, rfl, _, rfl, _, rfl, rfl, rfl, core _ (hE Q _)⟩
      · exact ⟨_, rfl, _, rfl, _, rfl, rfl, rfl, core _ (hE Q _)⟩
end
end Ls

namespace Ls
open PySem PySem.Spec PyProof.Rows L2
/-- binding by names, of a def without defaults -/
theorem kbn_fun {K : PySem.W.Frag} {x qual : Str} {st : Stmt} {f : Addr} {fd : FuncData} {ps ks : List Str} {n : Nat} {g : List Value → List Value → List Value} {gV : List V → List V → List V} (F : Fun K x qual st f fd)
    (hrel : ∀ {vs : List V} {us : List Value} {zs : List V} {ws : List Value}, Vals vs us → Vals zs ws → Vals (gV vs zs) (g us ws))
    (h : ∀ (kV doc pm : Value) (an : Option Addr) (cdv ct : Value) (us ws : List Value), us.length = n → ws.length = ks.length →
      bindArgs (PySem.W.fnOf x qual (defArgs st) (defBody st) (defScope st) .none kV doc pm an cdv ct) ⟨us, ks.zip ws⟩ = pure (ps.zip (g us ws))) : KBn K fd ps n ks g gV := by
  obtain ⟨oc, od, kV, doc, pm, an, cdv, ct, osl, rfl, lk, hcd⟩ := F.ex
  exact ⟨fun s us ws _ l1 l2 => .of_eq (h kV doc pm an cdv ct us ws l1 l2), hrel⟩
theorem But.free {b a : Addr} {H H' : Hp} (B : But b H H') (hb : H' b ≠ none) (h : H' a = none) : H a = none := by
  by_cases e : a = b
  · rw [e] at h; exact absurd h hb
  · cases h' : H a with
    | none => rfl
    | some o => rw [B a o e h'] at h; cases h
def gSw {α : Type} (us ws : List α) : List α := match us, ws with
  | [s], [c, b] => [s, b, c]
  | _, _ => []
theorem gSw_rel {vs : List V} {us : List Value} {zs : List V} {ws : List Value} (r1 : Vals vs us) (r2 : Vals zs ws) : Vals (gSw vs zs) (gSw us ws) := by
  cases r1 with
  | nil => exact .nil
  | cons a1 b1 => cases b1 with
    | cons _ _ => exact .nil
    | nil => cases r2 with
      | nil => exact .nil
      | cons a2 b2 => cases b2 with
        | nil => exact .nil
        | cons a3 b3 => cases b3 with
          | cons _ _ => exact .nil
          | nil => exact .cons a1 (.cons a3 (.cons a2 .nil))
/-- what is done to a drive -/
inductive Deed
  | write (v1 v2 : V) | sync | cut (v : V)
def Deed.vs : Deed → List V
  | .write v1 v2 => [.str "write", v1, v2]
  | .sync => [.str "sync"]
  | .cut v => [.str "cut", v]
/-- what is told of it, and what stands behind it -/
def spTold (C CD : Addr) : Sp := fun vs H Q _ => ∃ (p d sa pa : Addr) (tn : Bool) (n q : Int) (st : List Int) (pd : List (Int × Int)) (t : Addr) (dd : Deed) (nm : Bool), vs = [.ref p, .ref t, .bl nm] ∧ DrAt C CD H p d sa pa tn n q st pd ∧ H t = some (.tup dd.vs) ∧ pd.length ≤ 900 ∧
  match dd with
  | .write v1 v2 => ∃ U1 U2, Kd H v1 U1 ∧ Kd H v2 U2 ∧
      (inR v1 0 (n - 1) = false → ∀ l H', H l = none → H' l = some (.lst [.str "block", v1]) → Same H H' → Q (.ref l) H') ∧
      (inR v1 0 (n - 1) = true → inR v2 0 (q - 1) = false → ∀ l H', H l = none → H' l = some (.lst [.str "content", v2]) → Same H H' → Q (.ref l) H') ∧
      (∀ b c, v1 = .int b → v2 = .int c → 0 ≤ b → b < n → 0 ≤ c → c < q → ∀ l H', H l = none → H' l = some (.lst [.str "done", .non]) → DrAt C CD H' p d sa pa tn n q st (pd ++ [(b, c)]) → But pa H H' → Q (.ref l) H')
  | .sync => ∀ l sa' pa' H', H l = none → H pa' = none → l ≠ pa' → H' l = some (.lst [.str "done", .int pd.length]) → DrAt C CD H' p d sa' pa' tn n q (putS st pd) [] → But p H H' → Q (.ref l) H'
  | .cut v => ∃ U, Kd H v U ∧ KdT H v ∧
      (filB H v n q = false → ∀ l H', H l = none → H' l = some (.lst [.str "filling", v]) → Same H H' → Q (.ref l) H') ∧
      (∀ (a : Addr) (cs : List Int), v = .ref a → H a = some (.tup (cs.map V.int)) → cs.length = st.length → (∀ c ∈ cs, 0 ≤ c ∧ c < q) →
        ((¬ ∀ (j : Nat) (c : Int), cs[j]? = some c → mayC st pd tn q j c) → ∀ l H', H l = none → H' l = some (.lst [.str "left", v]) → Same H H' → Q (.ref l) H') ∧
        ((∀ (j : Nat) (c : Int), cs[j]? = some c → mayC st pd tn q j c) → ∀ l pa' H', H l = none → H pa' = none → l ≠ pa' → H' l = some (.lst [.str "done", .non]) → DrAt C CD H' p d a pa' tn n q cs [] → But p H H' → Q (.ref l) H'))
section
variable {P : Program} {w : World} {K : PySem.W.Frag} {mg : Str → Option Value} {base : Heap} {ad : Nat → Addr} {fd : Nat → FuncData}
theorem ok_law_told (T : Tx K mg ad fd) : FnOk P w K mg base CX0 6 (ad 33) (fd 33) ["drive", "deed", "named"] (spTold (ad 100022) (ad 100017)) := by
  refine T.f_law_told.ok sc_law_told (fun vs H Q E h => ?_) (fun cdv A outer s H vs Q E hr h => ?_)
  · obtain ⟨p, d, sa, pa, tn, n, q, st, pd, t, dd, nm, rfl, _⟩ := h; rfl
  · obtain ⟨p, d, sa, pa, tn, n, q, st, pd, t, dd, nm, rfl, D, ht, hl9, k⟩ := h
    have bw : KBn K (fd 2201) ["self", "block", "content"] 1 ["content", "block"] gSw gSw := kbn_fun T.f_Drive_write gSw_rel fun kV doc pm an cdv ct us ws l1 l2 => match us, ws, l1, l2 with
      | [_], [_, _], _, _ => rfl
    have bwp := kbn_of (n := 3) (b_Drive_write (fd := fd) T) .nil rfl
    have bc : KBn K (fd 2208) ["self", "filling"] 1 ["filling"] (fun us ws => us ++ ws) (fun us ws => us ++ ws) := kbn_fun T.f_Drive_cut (fun r1 r2 => r1.append r2) fun kV doc pm an cdv ct us ws l1 l2 => match us, ws, l1, l2 with
      | [_], [_], _, _ => rfl
    have bcp := kbn_of (n := 2) (b_Drive_cut (fd := fd) T) .nil rfl
    refine ⟨_, (pss_one (ps_tryA rfl rfl sc_law_told.nd takes_no (fun W pn xe tk hpo =>
        (pss_cons (ps_if (pt_cmpR op_eq (pe_ix (r := rIxT K) ix_tup (pv 1) pe_int (fun _ _ => rfl)) pe_str (nomark _))
          (pss_one (ps_ret (pe_lst (pa_cons pe_str (pa_cons (pe_ifExp (pt_val (pv 2))
            (pe_mtKS (pv 0) T.c_Drive T.m_Drive_write (ok_Drive_write T) (hr.mono (by decide)) bw (fun σ => passAt tk σ) (pk_cons (pe_ix (r := rIxT K) ix_tup (pv 1) pe_int (fun _ _ => rfl)) (pk_cons (pe_ix (r := rIxT K) ix_tup (pv 1) pe_int (fun _ _ => rfl)) pk_nil)))
            (pe_mtS (pv 0) T.c_Drive T.m_Drive_write (ok_Drive_write T) (hr.mono (by decide)) bwp (fun σ => passAt tk σ) (pa_cons (pe_ix (r := rIxT K) ix_tup (pv 1) pe_int (fun _ _ => rfl)) (pa_cons (pe_ix (r := rIxT K) ix_tup (pv 1) pe_int (fun _ _ => rfl)) pa_nil)))) pa_nil)))))
          pss_nil)
        (pss_cons (ps_if (pt_cmpR op_eq (pe_ix (r := rIxT K) ix_tup (pv 1) pe_int (fun _ _ => rfl)) pe_str (nomark _))
          (pss_one (ps_ret (pe_lst (pa_cons pe_str (pa_cons (pe_meth0 (pv 0) T.c_Drive T.m_Drive_sync (ok_Drive_sync T) (hr.mono (by decide)) (b_Drive_sync T) .nil pass0) pa_nil)))))
          pss_nil)
        (pss_one (ps_ret (pe_lst (pa_cons pe_str (pa_cons (pe_ifExp (pt_val (pv 2))
            (pe_mtKS (pv 0) T.c_Drive T.m_Drive_cut (ok_Drive_cut T) (hr.mono (by decide)) bc (fun σ => passAt tk σ) (pk_cons (pe_ix (r := rIxT K) ix_tup (pv 1) pe_int (fun _ _ => rfl)) pk_nil))
            (pe_mtS (pv 0) T.c_Drive T.m_Drive_cut (ok_Drive_cut T) (hr.mono (by decide)) bcp (fun σ => passAt tk σ) (pa_cons (pe_ix (r := rIxT K) ix_tup (pv 1) pe_int (fun _ _ => rfl)) pa_nil))) pa_nil))))))))
        (.as_ (i := 3) rfl rfl ⟨rfl, by decide, .inl T.g_InvalidBlock⟩ (fun a oe cls dd pn hz hf => pss_one (ps_ret (pe_lst (pa_cons pe_str (pa_cons (pe_xf T.xf_InvalidBlock T.nf_InvalidBlock hz hf (pv 3)) pa_nil)))))
        (.as_ (i := 3) rfl rfl ⟨rfl, by decide, .inl T.g_InvalidContent⟩ (fun a oe cls dd pn hz hf => pss_one (ps_ret (pe_lst (pa_cons pe_str (pa_cons (pe_xf T.xf_InvalidContent T.nf_InvalidContent hz hf (pv 3)) pa_nil)))))
        (.as_ (i := 3) rfl rfl ⟨rfl, by decide, .inl T.g_InvalidFilling⟩ (fun a oe cls dd pn hz hf => pss_one (ps_ret (pe_lst (pa_cons pe_str (pa_cons (pe_xf T.xf_InvalidFilling T.nf_InvalidFilling hz hf (pv 3)) pa_nil)))))
        (.as_ (i := 3) rfl rfl ⟨rfl, by decide, .inl T.g_NotLeft⟩ (fun a oe cls dd pn hz hf => pss_one (ps_ret (pe_lst (pa_cons pe_str (pa_cons (pe_xf T.xf_NotLeft T.nf_NotLeft hz hf (pv 3)) pa_nil))))) .nil)))))), ?_⟩
    obtain ⟨dx, hp⟩ := D.ob
    obtain ⟨xs, hx, hrs⟩ := D.pe
    have z2 : 2 ≤ sizeLine := by decide
    cases dd with
    | write v1 v2 =>
      obtain ⟨U1, U2, k1, k2, kb, kc, kd⟩ := k
      refine ⟨_, rfl, t, _, _, _, rfl, rfl, SqT.of ht, atI_nat (j := 0) rfl, rfl, _, rfl, ?_⟩
      refine ite2 (fun _ => ?_) (fun c => absurd (decide_eq_true rfl) c)
      refine ⟨_, rfl, _, rfl, ?_⟩
      have g1 : ∀ v, Kd H v U1 → True := fun _ _ => trivial
      cases nm
      case' true => refine iteT ⟨_, rfl, p, dx, _, rfl, hp, rfl, _, rfl, t, _, _, _, rfl, rfl, SqT.of ht, atI_nat (j := 2) rfl, _, rfl, t, _, _, _, rfl, rfl, SqT.of ht, atI_nat (j := 1) rfl, rfl, rfl, ?_⟩
      case' false => refine iteF ⟨_, rfl, p, dx, _, rfl, hp, rfl, _, rfl, t, _, _, _, rfl, rfl, SqT.of ht, atI_nat (j := 1) rfl, _, rfl, t, _, _, _, rfl, rfl, SqT.of ht, atI_nat (j := 2) rfl, rfl, rfl, ?_⟩
      all_goals
        refine ⟨p, d, sa, pa, tn, n, q, st, pd, v1, v2, U1, U2, rfl, D, k1, k2, Nat.lt_of_le_of_lt hl9 (by decide), fun e dd hdd => ?_, fun e1 e2 dd hdd => ?_, fun b c e1 e2 b0 b1 c0 c1 H' D' B => ⟨z2, fun l hl => ?_⟩⟩
        · exact ⟨true, T.te_InvalidBlock_InvalidBlock, fun _ a ha => ⟨_, rfl, rfl, rfl, dd, _, v1, rfl, upd_same, rfl, z2, fun l hl => kb e l _ ((same_new hdd).free hl) upd_same ((same_new hdd).trans (same_new hl))⟩, fun z => by cases z⟩
        · exact ⟨false, T.te_InvalidContent_InvalidBlock, fun z => (by cases z), fun _ => ⟨true, T.te_InvalidContent_InvalidContent, fun _ a ha => ⟨_, rfl, rfl, rfl, dd, _, v2, rfl, upd_same, rfl, z2, fun l hl => kc e1 e2 l _ ((same_new hdd).free hl) upd_same ((same_new hdd).trans (same_new hl))⟩, fun z => by cases z⟩⟩
        · have hl0 : H l = none := by
            by_cases e : l = pa
            · obtain ⟨xs', hx', _⟩ := D'.pe; rw [e, hx'] at hl; cases hl
            · cases h : H l with
              | none => rfl
              | some o => rw [B l o e h] at hl; cases hl
          exact kd b c e1 e2 b0 b1 c0 c1 l _ hl0 upd_same (D'.same (same_new hl)) (B.trans (.new hl))
    | sync =>
      refine ⟨_, rfl, t, _, _, _, rfl, rfl, SqT.of ht, atI_nat (j := 0) rfl, rfl, _, rfl, ?_⟩
      refine ite2 (fun c => absurd c (by decide +kernel)) (fun _ => ?_)
      refine ⟨_, rfl, t, _, _, _, rfl, rfl, SqT.of ht, atI_nat (j := 0) rfl, rfl, _, rfl, ?_⟩
      refine ite2 (fun _ => ?_) (fun c => absurd (decide_eq_true rfl) c)
      refine ⟨_, rfl, p, dx, _, rfl, hp, rfl, p, d, sa, pa, tn, n, q, st, pd, rfl, D, fun sa' pa' H' hpa D' B => ⟨z2, fun l hl => ?_⟩⟩
      obtain ⟨dx', hp'⟩ := D'.ob; obtain ⟨xs', hx', _⟩ := D'.pe
      exact k l sa' pa' _ (B.free (by rw [hp']; intro z; cases z) hl) hpa (ne_of_none hx' hl).symm upd_same (D'.same (same_new hl)) (B.trans (.new hl))
    | cut v =>
      obtain ⟨U, k1, kt, kf, kc⟩ := k
      refine ⟨_, rfl, t, _, _, _, rfl, rfl, SqT.of ht, atI_nat (j := 0) rfl, rfl, _, rfl, ?_⟩
      refine ite2 (fun c => absurd c (by decide +kernel)) (fun _ => ?_)
      refine ⟨_, rfl, t, _, _, _, rfl, rfl, SqT.of ht, atI_nat (j := 0) rfl, rfl, _, rfl, ?_⟩
      refine ite2 (fun c => absurd c (by decide +kernel)) (fun _ => ?_)
      refine ⟨_, rfl, _, rfl, ?_⟩
      cases nm
      case' true => refine iteT ⟨_, rfl, p, dx, _, rfl, hp, rfl, _, rfl, t, _, _, _, rfl, rfl, SqT.of ht, atI_nat (j := 1) rfl, rfl, rfl, ?_⟩
      case' false => refine iteF ⟨_, rfl, p, dx, _, rfl, hp, rfl, _, rfl, t, _, _, _, rfl, rfl, SqT.of ht, atI_nat (j := 1) rfl, rfl, rfl, ?_⟩
      all_goals
        refine ⟨p, d, sa, pa, tn, n, q, st, pd, v, U, rfl, D, hl9, k1, kt, fun e H' S dd hdd => ?_, fun a cs ev ha hl hr => ⟨fun e H' S dd hdd => ?_, fun e pa' H' hpa D' B => ⟨z2, fun l hl2 => ?_⟩⟩⟩
        · exact ⟨false, T.te_InvalidFilling_InvalidBlock, fun z => (by cases z), fun _ => ⟨false, T.te_InvalidFilling_InvalidContent, fun z => (by cases z), fun _ => ⟨true, T.te_InvalidFilling_InvalidFilling,
            fun _ a ha => ⟨_, rfl, rfl, rfl, dd, _, v, rfl, upd_same, rfl, z2, fun l hl => kf e l _ (S.free ((same_new hdd).free hl)) upd_same ((S.trans (same_new hdd)).trans (same_new hl))⟩, fun z => by cases z⟩⟩⟩
        · exact ⟨false, T.te_NotLeft_InvalidBlock, fun z => (by cases z), fun _ => ⟨false, T.te_NotLeft_InvalidContent, fun z => (by cases z), fun _ => ⟨false, T.te_NotLeft_InvalidFilling, fun z => (by cases z), fun _ => ⟨true, T.te_NotLeft_NotLeft,
            fun _ a' ha' => ⟨_, rfl, rfl, rfl, dd, _, v, rfl, upd_same, rfl, z2, fun l hl3 => (kc a cs ev ha hl hr).1 e l _ (S.free ((same_new hdd).free hl3)) upd_same ((S.trans (same_new hdd)).trans (same_new hl3))⟩, fun z => by cases z⟩⟩⟩⟩
        · obtain ⟨dx', hp'⟩ := D'.ob; obtain ⟨xs', hx', _⟩ := D'.pe
          exact (kc a cs ev ha hl hr).2 e l pa' _ (B.free (by rw [hp']; intro z; cases z) hl2) hpa (ne_of_none hx' hl2).symm upd_same (D'.same (same_new hl2)) (B.trans (.new hl2))
end
end Ls

namespace Ls
open PySem PySem.Spec PyProof.Rows L2
def ptD (x : Int × Int) : PyData := .tuple [.int x.1, .int x.2]
theorem Prs.dp {K : PySem.W.Frag} {H : Hp} : ∀ {xs : List V} {pd : List (Int × Int)}, Prs H xs pd → DpAll K H xs (pd.map ptD)
  | _, _, .nil => .nil
  | _, _, .cons h r => .cons (.tup (SqT.of h) (.cons (.int _) (.cons (.int _) .nil))) r.dp
theorem pts_lay : ∀ pd : List (Int × Int), PyData.canLayAll0 (pd.map ptD) = true ∧ PyData.depthAll (pd.map ptD) ≤ 1
  | [] => ⟨rfl, by decide⟩
  | x :: pd => by
    obtain ⟨h1, h2⟩ := pts_lay pd
    refine ⟨?_, ?_⟩
    · show (PyData.canLay0 (ptD x) && PyData.canLayAll0 (pd.map ptD)) = true; rw [h1]; rfl
    · show max (PyData.depth (ptD x)) (PyData.depthAll (pd.map ptD)) ≤ 1
      have : PyData.depth (ptD x) = 1 := rfl
      omega
theorem ints_lay : ∀ cs : List Int, PyData.canLayAll0 (cs.map PyData.int) = true ∧ PyData.depthAll (cs.map PyData.int) = 0
  | [] => ⟨rfl, rfl⟩
  | c :: cs => by
    obtain ⟨h1, h2⟩ := ints_lay cs
    refine ⟨?_, ?_⟩
    · show (PyData.canLay0 (.int c) && PyData.canLayAll0 (cs.map PyData.int)) = true; rw [h1]; rfl
    · show max 0 (PyData.depthAll (cs.map PyData.int)) = 0; rw [h2]; rfl
theorem pts_shaped (pd : List (Int × Int)) : SeqAt.shaped (.list (pd.map ptD)) = true := by
  obtain ⟨h1, h2⟩ := pts_lay pd
  unfold SeqAt.shaped
  rw [show PyData.canLay0 (.list (pd.map ptD)) = true from h1, Bool.true_and]
  exact decide_eq_true (by show PyData.depthAll (pd.map ptD) + 1 ≤ 64; omega)
theorem il_shaped (cs : List Int) : SeqAt.shaped (.list (cs.map PyData.int)) = true := by
  obtain ⟨h1, h2⟩ := ints_lay cs
  unfold SeqAt.shaped
  rw [show PyData.canLay0 (.list (cs.map PyData.int)) = true from h1, Bool.true_and]
  exact decide_eq_true (by show PyData.depthAll (cs.map PyData.int) + 1 ≤ 64; omega)
theorem it_shaped (cs : List Int) : SeqAt.shaped (.tuple (cs.map PyData.int)) = true := il_shaped cs
theorem dp_ints {K : PySem.W.Frag} {H : Hp} : ∀ cs : List Int, DpAll K H (cs.map V.int) (cs.map PyData.int)
  | [] => .nil
  | c :: cs => .cons (.int c) (dp_ints cs)
theorem nil_shaped : SeqAt.shaped (.list []) = true := by decide +kernel
theorem eqv_nil {ds : List PyData} : PyData.eqv (.list ds) (.list []) = ds.isEmpty := by cases ds <;> rfl
theorem atI_int {st : List Int} {j : Int} (h0 : 0 ≤ j) (h1 : j.toNat < st.length) : atI (st.map V.int) j = some (.int st[j.toNat]) := by
  unfold atI; rw [ixN_in h0 (by rw [List.length_map]; omega)]
  show (st.map V.int)[j.toNat]? = _
  rw [List.getElem?_map, List.getElem?_eq_getElem h1]; rfl
/-- the law's own book of a drive -/
structure KnAt (C CD : Addr) (H : Hp) (kn p d sa pa ks kp kz : Addr) (tn : Bool) (n q : Int) (st : List Int) (pd : List (Int × Int)) : Prop where
  D : DrAt C CD H p d sa pa tn n q st pd
  hn : H kn = some (.lst [.ref p, .ref ks, .ref kp, .ref kz, .bl tn])
  hs : H ks = some (.tup (st.map V.int))
  hp : ∃ xs, H kp = some (.lst xs) ∧ Prs H xs pd
  hz : H kz = some (.tup [.int n, .int q])
  n1 : kp ≠ pa
  n2 : kn ≠ pa
  n3 : kn ≠ kp
theorem KnAt.same {C CD : Addr} {H H' : Hp} {kn p d sa pa ks kp kz : Addr} {tn : Bool} {n q : Int} {st : List Int} {pd : List (Int × Int)} (B : KnAt C CD H kn p d sa pa ks kp kz tn n q st pd) (S : Same H H') : KnAt C CD H' kn p d sa pa ks kp kz tn n q st pd := by
  obtain ⟨h1, h2, h3, ⟨xs, h4, h5⟩, h6, h7, h8, h9⟩ := B
  exact ⟨h1.same S, S _ _ h2, S _ _ h3, ⟨xs, S _ _ h4, h5.kt (.of S)⟩, S _ _ h6, h7, h8, h9⟩
/-- the contents that were written to a block -/
def mineF (pd : List (Int × Int)) (j : Int) : List Int := (pd.filter fun x => decide (x.1 = j)).map (·.2)
theorem mineF_snoc (pd : List (Int × Int)) (x : Int × Int) (j : Int) : mineF (pd ++ [x]) j = if decide (x.1 = j) = true then mineF pd j ++ [x.2] else mineF pd j := by
  unfold mineF; rw [List.filter_append, List.map_append]
  by_cases h : x.1 = j
  · rw [if_pos (decide_eq_true h)]; simp [h]
  · rw [if_neg (by simpa using h)]; simp [h]
theorem mineF_mem {pd : List (Int × Int)} {j c : Int} : c ∈ mineF pd j ↔ ∃ x ∈ pd, x.1 = j ∧ c = x.2 := by
  unfold mineF; rw [List.mem_map]
  constructor
  · rintro ⟨x, hx, e⟩
    obtain ⟨h1, h2⟩ := List.mem_filter.mp hx
    exact ⟨x, h1, of_decide_eq_true h2, e.symm⟩
  · rintro ⟨x, hx, e1, e2⟩
    exact ⟨x, List.mem_filter.mpr ⟨hx, decide_eq_true e1⟩, e2.symm⟩
theorem mineF_len (pd : List (Int × Int)) (j : Int) : (mineF pd j).length ≤ pd.length := by unfold mineF; rw [List.length_map]; exact List.length_filter_le ..
def spMenu (C CD : Addr) : Sp := fun vs H Q _ => ∃ (kn p d sa pa ks kp kz : Addr) (tn : Bool) (n q : Int) (st : List Int) (pd : List (Int × Int)) (j : Int), vs = [.ref kn, .int j] ∧ KnAt C CD H kn p d sa pa ks kp kz tn n q st pd ∧ 0 ≤ j ∧ j < n ∧ pd.length ≤ 900 ∧
  ∀ (l : Addr) (ns : List Int) (H' : Hp), H l = none → H' l = some (.lst (ns.map V.int)) → (∀ c, c ∈ ns ↔ mayC st pd tn q j.toNat c) → ns ≠ [] → ns.length ≤ 1000 → Same H H' → Q (.ref l) H'
section
variable {P : Program} {w : World} {K : PySem.W.Frag} {mg : Str → Option Value} {base : Heap} {ad : Nat → Addr} {fd : Nat → FuncData}
theorem ok_law_menu (T : Tx K mg ad fd) : FnOk P w K mg base CX0 1 (ad 35) (fd 35) ["known", "block"] (spMenu (ad 100022) (ad 100017)) := by
  refine T.f_law_menu.ok sc_law_menu (fun vs H Q E h => ?_) (fun cdv A outer s H vs Q E hr h => ?_)
  · obtain ⟨kn, p, d, sa, pa, ks, kp, kz, tn, n, q, st, pd, j, rfl, _⟩ := h; rfl
  · obtain ⟨kn, p, d, sa, pa, ks, kp, kz, tn, n, q, st, pd, j, rfl, B, j0, j1, hl9, k⟩ := h
    obtain ⟨xs, hx, hrs⟩ := B.hp
    refine ⟨_, (pss_cons (ps_setLc (i := 2) (own := [("at", 3), ("content", 4)]) (g := gTup K 2 (gCons (gName 3) (gCons (gName 4) gNil))) (tt := _) rfl sc_law_menu.nd rfl rfl (sw_true rfl rfl rfl (by decide +kernel)) (pi_list (pe_ix ix_list (pv 0) pe_int (fun _ _ => rfl))) (blkOk_by (own := [("at", 3), ("content", 4)]) (N := ["known", "block", "mine", "at", "content"]) (sc := defScope s_law_menu) (by decide +kernel)) (fun _ _ _ _ _ => (pg_tup rfl (pgs_cons (pg_name (i := 3) sc_law_menu.nd rfl (by first | exact Or.inl rfl | exact Or.inr rfl)) (pgs_cons (pg_name (i := 4) sc_law_menu.nd rfl (by first | exact Or.inl rfl | exact Or.inr rfl)) pgs_nil)))) (fun _ _ _ _ _ => (pts_one (pt_cmpR op_eq (pv 3) (pv 1) (nomark _)))) (fun _ _ _ _ _ => (pv 4)))
      (pss_cons (ps_if (pt_cmpR (op_eqD hr.units) (pv 2) (pe_lst pa_nil) (nomark _))
        (pss_one (ps_ret (pe_lst (pa_cons (pe_ix ix_tup (pe_ix ix_list (pv 0) pe_int (fun _ _ => rfl)) (pv 1) (fun _ _ => rfl)) pa_nil))))
        pss_nil)
      (pss_cons (ps_if (pt_val (pe_ix ix_list (pv 0) pe_int (fun _ _ => rfl)))
        (pss_one (ps_ret (pe_listRg rfl (by rfl) T.n_list (prg_1 (by rfl) T.n_range (pe_ix ix_tup (pe_ix ix_list (pv 0) pe_int (fun _ _ => rfl)) pe_int (fun _ _ => rfl))))))
        pss_nil)
      (pss_one (ps_ret (pe_callB (cr_sortSet rfl) (by rfl) T.n_sorted (by decide +kernel) (pa_cons (pe_callTy (cr_setI rfl) (by rfl) T.n_set (by decide +kernel) (pa_cons (pe_op op_cat (pv 2) (pe_lst (pa_cons (pe_ix ix_tup (pe_ix ix_list (pv 0) pe_int (fun _ _ => rfl)) (pv 1) (fun _ _ => rfl)) pa_nil))) pa_nil)) pa_nil))))))), ?_⟩
    refine ⟨_, rfl, kn, _, _, _, rfl, rfl, SqL.of B.hn, atI_nat (j := 2) rfl, kp, rfl, ⟨_, SqL.of hx⟩, fun D1 hD1 =>
      lc_list (K := K) (a := kp) (xs := xs) (fun i H' => H' D1 = some (.lst ((mineF (pd.take i) j).map V.int)) ∧ Same H H') ⟨(upd_same : upd H D1 (.lst []) D1 = _), same_new hD1⟩
        (fun i H' _ z => SqL.of (z.2 _ _ hx)) ?_ ?_⟩
    · rintro i x H' hi ⟨h1, S⟩
      obtain ⟨a, b, c, rfl, ha, hpi⟩ := hrs.at hi
      refine ⟨a, _, rfl, SqT.of (S _ _ ha), rfl, _, _, rfl, _, _, rfl, rfl, rfl, ?_⟩
      have sn : mineF (pd.take (i + 1)) j = if decide (b = j) = true then mineF (pd.take i) j ++ [c] else mineF (pd.take i) j := by rw [List.take_add_one, hpi]; exact mineF_snoc _ (b, c) j
      refine ⟨_, rfl, _, rfl, rfl, _, rfl, ?_⟩
      rw [show decide (V.int b = V.int j) = decide (b = j) from by by_cases e : b = j <;> simp [e]]
      refine ite2 (fun e => ?_) (fun e => ?_)
      · rw [if_pos e] at sn
        refine ⟨_, rfl, _, h1, ?_, ?_, fun a' o e' => ?_⟩
        · rw [List.length_map]
          have h2 := mineF_len (pd.take i) j
          have h3 : (pd.take i).length ≤ pd.length := by rw [List.length_take]; omega
          exact small1000 (by omega)
        · rw [upd_same, sn, List.map_append]; rfl
        · rw [upd_ne (ne_of_none e' hD1)]; exact S _ _ e'
      · rw [if_neg e] at sn
        exact ⟨by rw [sn]; exact h1, S⟩
    · rintro H1 ⟨h1, S1⟩
      rw [hrs.len, List.take_length] at h1
      have B1 := B.same S1
      have hjl : j.toNat < st.length := by have := B.D.ls; omega
      have atx := atI_int (st := st) j0 hjl
      have hst : st[j.toNat]? = some st[j.toNat] := List.getElem?_eq_getElem hjl
      refine ⟨_, rfl, (by show 0 ≤ sizeLine; decide), fun e1 he1 => ?_⟩
      have S2 := S1.trans (same_new (o := .lst []) he1)
      have h2 : upd H1 e1 (.lst []) D1 = _ := (same_new (o := .lst []) he1) _ _ h1
      refine ⟨_, _, .lst (SqL.of h2) (dp_ints _), .lst (SqL.of upd_same) .nil, il_shaped _, nil_shaped, _, rfl, ?_⟩
      rw [eqv_nil]
      have hk1 := S2 _ _ B.hn; have hs1 := S2 _ _ B.hs; have hz1 := S2 _ _ B.hz
      generalize upd H1 e1 (.lst []) = H2 at S2 h2 hk1 hs1 hz1 ⊢
      have jj : ((j.toNat : Nat) : Int) = j := by omega
      cases em : mineF pd j with
      | nil =>
        refine iteT ?_
        refine ⟨_, rfl, kn, _, _, _, rfl, rfl, SqL.of hk1, atI_nat (j := 1) rfl, _, rfl, ks, _, j, _, rfl, rfl, SqT.of hs1, atx, (by show 1 ≤ sizeLine; decide), fun l hl => ?_⟩
        refine k l [st[j.toNat]] _ (S2.free hl) upd_same (fun c => ?_) (by intro z; cases z) (by show 1 ≤ 1000; decide) (S2.trans (same_new hl))
        rw [List.mem_singleton]
        constructor
        · rintro rfl; exact .inl hst
        · rintro (z | ⟨x, hx', e1, _⟩)
          · rw [hst] at z; exact (Option.some.inj z).symm
          · exfalso
            have : x.2 ∈ mineF pd j := mineF_mem.mpr ⟨x, hx', by rw [e1, jj], rfl⟩
            rw [em] at this; cases this
      | cons c0 cs0 =>
        refine iteF ?_
        obtain ⟨x0, hx0, e0, _⟩ := mineF_mem.mp (by rw [em]; exact List.mem_cons_self .. : c0 ∈ mineF pd j)
        refine ⟨_, rfl, kn, _, _, _, rfl, rfl, SqL.of hk1, atI_nat (j := 4) rfl, _, rfl, ?_⟩
        have q0 := B.D.bn.2.2.1; have q1 := B.D.bn.2.2.2
        cases tn with
        | true =>
          refine iteT ?_
          refine ⟨_, rfl, kn, _, _, _, rfl, rfl, SqL.of hk1, atI_nat (j := 3) rfl, kz, _, _, _, rfl, rfl, SqT.of hz1, atI_nat (j := 1) rfl, _, rfl, RgOk.of_le (by decide) (by omega) (by decide) (by omega), fun l hl => ?_⟩
          rw [rgV_zero]
          refine k l _ _ (S2.free hl) upd_same (fun c => ?_) ?_ ?_ (S2.trans (same_new hl))
          · rw [List.mem_map]
            constructor
            · rintro ⟨i, hi, rfl⟩
              have := List.mem_range.mp hi
              exact .inr ⟨x0, hx0, by rw [e0, jj], by show 0 ≤ ((i : Nat) : Int) ∧ ((i : Nat) : Int) < q; omega⟩
            · intro hm
              have hd : 0 ≤ c ∧ c < q := by
                rcases hm with z | ⟨x, _, _, z⟩
                · exact B.D.rs c (List.mem_of_getElem? z)
                · simpa using z
              exact ⟨c.toNat, List.mem_range.mpr (by omega), by omega⟩
          · intro z
            have := congrArg List.length z
            rw [List.length_map, List.length_range] at this; simp at this; omega
          · rw [List.length_map, List.length_range]; omega
        | false =>
          refine iteF ?_
          refine ⟨_, rfl, _, rfl, kn, _, _, _, rfl, rfl, SqL.of hk1, atI_nat (j := 1) rfl, _, rfl, ks, _, j, _, rfl, rfl, SqT.of hs1, atx, (by show 1 ≤ sizeLine; decide), fun e2 he2 => ?_⟩
          have S3 := S2.trans (same_new (o := .lst [.int st[j.toNat]]) he2)
          have h3 := (same_new (o := .lst [.int st[j.toNat]]) he2) _ _ h2
          have hml := mineF_len pd j
          refine ⟨D1, e2, _, _, rfl, rfl, h3, upd_same, ?_, fun e3 he3 => ?_⟩
          · rw [List.length_map]; exact Nat.le_trans (by show (mineF pd j).length + 1 ≤ 1000; omega) (by decide : 1000 ≤ sizeLine)
          have S4 := S3.trans (same_new (o := .lst ((mineF pd j).map V.int ++ [.int st[j.toNat]])) he3)
          refine ⟨e3, mineF pd j ++ [st[j.toNat]], rfl, SqL.of (by rw [upd_same, List.map_append]; rfl), by rw [List.length_append]; show _ + 1 < 1000; omega, fun e4 c4 he4 hc4 => ?_⟩
          refine ⟨e4, _, c4, rfl, upd_same, ?_, fun ns l hs hnd hm hnl hl => ?_⟩
          · rw [List.length_append] at hc4; exact Nat.lt_of_le_of_lt hc4 (by show _ + 1 < 100000; omega)
          · have S5 := S4.trans (same_new (o := SetO w e4 (fun i => decide (i ∈ mineF pd j ++ [st[j.toNat]])) c4) he4)
            refine k l ns _ (S5.free hl) upd_same (fun c => ?_) ?_ ?_ (S5.trans (same_new hl))
            · rw [hm c, decide_eq_true_iff, List.mem_append, List.mem_singleton]
              constructor
              · rintro (z | rfl)
                · obtain ⟨x, hx1, hx2, hx3⟩ := mineF_mem.mp z
                  exact .inr ⟨x, hx1, by rw [hx2, jj], by simpa using hx3⟩
                · exact .inl hst
              · rintro (z | ⟨x, hx1, hx2, hx3⟩)
                · rw [hst] at z; exact .inr (Option.some.inj z).symm
                · exact .inl (mineF_mem.mpr ⟨x, hx1, by rw [hx2, jj], by simpa using hx3⟩)
            · intro z
              have := (hm st[j.toNat]).mpr (decide_eq_true (List.mem_append_right _ (List.mem_singleton.mpr rfl)))
              rw [z] at this; cases this
            · rw [List.length_append] at hc4; have : c4 ≤ (mineF pd j).length + 1 := hc4; omega
end
end Ls

namespace Ls
open PySem PySem.Spec PyProof.Rows L2
theorem Prs.ref {H : Hp} : ∀ {xs : List V} {ps : List (Int × Int)} {i : Int} {ys : List V}, Prs H xs ps → xs = .int i :: ys → False
  | _, _, _, _, .nil, e => by cases e
  | _, _, _, _, .cons _ _, e => by cases e
theorem BoxAt.nl {H : Hp} {b : Addr} {N : Nat} (B : BoxAt H b N) {a : Addr} {xs : List V} {ps : List (Int × Int)} (h : H a = some (.lst xs)) (g : Prs H xs ps) : a ≠ b := by
  obtain ⟨x, c, d, f, hb, _⟩ := B
  rintro rfl; rw [h] at hb; exact g.ref (by injection hb with z; injection z)
theorem DrAt.mv {C CD : Addr} {H H' : Hp} {b p d sa pa : Addr} {N : Nat} {tn : Bool} {n q : Int} {st : List Int} {pd : List (Int × Int)} (D : DrAt C CD H p d sa pa tn n q st pd) (B : BoxAt H b N) (M : But b H H') : DrAt C CD H' p d sa pa tn n q st pd := by
  obtain ⟨⟨dx, h1⟩, ⟨dy, h2⟩, h3, ⟨xs, h4, h5⟩, h6, h7, h8, h9, h10⟩ := D
  have npa := B.nl h4 h5
  obtain ⟨x, c, dd, f, hb, _⟩ := B
  have ne : ∀ a o, H a = some o → (∀ ys, o ≠ .lst ys) → H' a = some o := fun a o h g => M a o (by rintro rfl; rw [h] at hb; exact g _ (Option.some.inj hb)) h
  exact ⟨⟨dx, ne _ _ h1 (by intro _ z; cases z)⟩, ⟨dy, ne _ _ h2 (by intro _ z; cases z)⟩, ne _ _ h3 (by intro _ z; cases z), ⟨xs, M _ _ npa h4, h5.kt fun a ts h => ne _ _ h (by intro _ z; cases z)⟩, h6, h7, h8, h9, h10⟩
theorem KnAt.mv {C CD : Addr} {H H' : Hp} {b kn p d sa pa ks kp kz : Addr} {N : Nat} {tn : Bool} {n q : Int} {st : List Int} {pd : List (Int × Int)} (A : KnAt C CD H kn p d sa pa ks kp kz tn n q st pd) (B : BoxAt H b N) (M : But b H H') : KnAt C CD H' kn p d sa pa ks kp kz tn n q st pd := by
  obtain ⟨h1, h2, h3, ⟨xs, h4, h5⟩, h6, h7, h8, h9⟩ := A
  have nkp := B.nl h4 h5
  have D' := h1.mv B M
  obtain ⟨x, c, dd, f, hb, _⟩ := B
  have ne : ∀ a o, H a = some o → (∀ ys, o ≠ .lst ys) → H' a = some o := fun a o h g => M a o (by rintro rfl; rw [h] at hb; exact g _ (Option.some.inj hb)) h
  exact ⟨D', M _ _ (by rintro rfl; rw [h2] at hb; cases hb) h2, ne _ _ h3 (by intro _ z; cases z), ⟨xs, M _ _ nkp h4, h5.kt fun a ts h => ne _ _ h (by intro _ z; cases z)⟩, ne _ _ h6 (by intro _ z; cases z), h7, h8, h9⟩
theorem KnAt.bn {C CD : Addr} {H : Hp} {kn p d sa pa ks kp kz : Addr} {tn : Bool} {n q : Int} {st : List Int} {pd : List (Int × Int)} (A : KnAt C CD H kn p d sa pa ks kp kz tn n q st pd) : 1 ≤ n ∧ n ≤ 24 ∧ 2 ≤ q ∧ q ≤ 64 := A.D.bn
theorem cutn {A : Prop} {c : Int → Hp → Prop} (D : Ends) (σf : Int → L2.St) (h : (∀ x H, c x H → D.nx (σf x) H) → A) (b : ∀ x H, c x H → D.nx (σf x) H) : A := h b
def spWr (C CD : Addr) : Sp := fun vs H Q _ => ∃ (b kn p d sa pa ks kp kz : Addr) (N : Nat) (tn : Bool) (n q : Int) (st : List Int) (pd : List (Int × Int)), vs = [.ref b, .ref kn] ∧ BoxAt H b N ∧ N ≤ 900000 ∧ KnAt C CD H kn p d sa pa ks kp kz tn n q st pd ∧ pd.length ≤ 900 ∧
  ∀ (t : Addr) (bk c : Int) (H' : Hp), H t = none → H' t = some (.tup [.str "write", .int bk, .int c]) → 0 ≤ bk → bk < n → 0 ≤ c → c < q → BoxAt H' b (N + 5) → Mv b H H' → Q (.ref t) H'
section
variable {P : Program} {w : World} {K : PySem.W.Frag} {mg : Str → Option Value} {base : Heap} {ad : Nat → Addr} {fd : Nat → FuncData}
theorem ok_law_write (T : Tx K mg ad fd) : FnOk P w K mg base CX0 2 (ad 36) (fd 36) ["box", "known"] (spWr (ad 100022) (ad 100017)) := by
  refine T.f_law_write.ok sc_law_write (fun vs H Q E h => ?_) (fun cdv A outer s H vs Q E hr h => ?_)
  · obtain ⟨b, kn, p, d, sa, pa, ks, kp, kz, N, tn, n, q, st, pd, rfl, _⟩ := h; rfl
  · obtain ⟨b, kn, p, d, sa, pa, ks, kp, kz, N, tn, n, q, st, pd, rfl, B, hN, A0, hl9, k⟩ := h
    refine ⟨_, (pss_cons (ps_asg (pe_ix ix_list (pv 1) pe_int (fun _ _ => rfl)) (pg_tup rfl (pgs_cons (pg_name (i := 2) sc_law_write.nd rfl (by first | exact Or.inl rfl | exact Or.inr rfl)) (pgs_cons (pg_name (i := 3) sc_law_write.nd rfl (by first | exact Or.inl rfl | exact Or.inr rfl)) pgs_nil))))
      (pss_cons (ps_set (i := 4) sc_law_write.nd rfl (by first | exact Or.inl rfl | exact Or.inr rfl) (pe_call (ok_law_take T) (hr.mono (by decide)) rfl T.g_law_take T.f_law_take.kp (b_law_take T) .nil pass0 (pa_cons (pv 0) (pa_cons (pv 2) pa_nil))))
      (pss_cons (ps_if (PW.pt (pw_and (pt_cmpR (op_neD hr.units) (pe_ix ix_list (pv 1) pe_int (fun _ _ => rfl)) (pe_lst pa_nil) (nomark _)) (pw_and1 (pt_cmpR op_eq (pe_call (ok_law_take T) (hr.mono (by decide)) rfl T.g_law_take T.f_law_take.kp (b_law_take T) .nil pass0 (pa_cons (pv 0) (pa_cons pe_int pa_nil))) pe_int (nomark _)))))
        (pss_one (ps_set (i := 4) sc_law_write.nd rfl (by first | exact Or.inl rfl | exact Or.inr rfl) (pe_ix ix_tup (pe_ix ix_list (pe_ix ix_list (pv 1) pe_int (fun _ _ => rfl)) (pe_call (ok_law_take T) (hr.mono (by decide)) rfl T.g_law_take T.f_law_take.kp (b_law_take T) .nil pass0 (pa_cons (pv 0) (pa_cons (pe_callB call_len_seq (by rfl) T.n_len (by decide +kernel) (pa_cons (pe_ix ix_list (pv 1) pe_int (fun _ _ => rfl)) pa_nil)) pa_nil))) (fun _ _ => rfl)) pe_int (fun _ _ => rfl))))
        pss_nil)
      (pss_cons (ps_set (i := 5) sc_law_write.nd rfl (by first | exact Or.inl rfl | exact Or.inr rfl) (pe_call (ok_law_take T) (hr.mono (by decide)) rfl T.g_law_take T.f_law_take.kp (b_law_take T) .nil pass0 (pa_cons (pv 0) (pa_cons pe_int pa_nil))))
      (pss_cons (ps_if (pt_cmpR op_eq (pv 5) pe_int (nomark _))
        (pss_one (ps_ret (pe_tup (pa_cons pe_str (pa_cons (pv 4) (pa_cons (pe_ix ix_tup (pe_ix ix_list (pv 1) pe_int (fun _ _ => rfl)) (pv 4) (fun _ _ => rfl)) pa_nil))))))
        pss_nil)
      (pss_cons (ps_if (pt_cmpR op_eq (pv 5) pe_int (nomark _))
        (pss_one (ps_ret (pe_tup (pa_cons pe_str (pa_cons (pv 4) (pa_cons (pe_ix ix_tup (pe_call (ok_law_put T) (hr.mono (by decide)) rfl T.g_law_put T.f_law_put.kp (b_law_put T) .nil pass0 (pa_cons (pe_ix ix_list (pv 1) pe_int (fun _ _ => rfl)) (pa_cons (pe_ix ix_list (pv 1) pe_int (fun _ _ => rfl)) pa_nil))) (pv 4) (fun _ _ => rfl)) pa_nil))))))
        pss_nil)
      (pss_one (ps_ret (pe_tup (pa_cons pe_str (pa_cons (pv 4) (pa_cons (pe_call (ok_law_take T) (hr.mono (by decide)) rfl T.g_law_take T.f_law_take.kp (b_law_take T) .nil pass0 (pa_cons (pv 0) (pa_cons (pv 3) pa_nil))) pa_nil)))))))))))), ?_⟩
    obtain ⟨n0, n1, q0, q1⟩ := A0.bn
    have hls := A0.D.ls
    refine ⟨_, rfl, kn, _, _, _, rfl, rfl, SqL.of A0.hn, atI_nat (j := 3) rfl, kz, _, rfl, SqT.of A0.hz, rfl, _, _, rfl, _, _, rfl, rfl, ?_⟩
    refine ⟨_, rfl, _, rfl, b, N, n, rfl, B, by omega, by omega, by omega, fun bk H1 b0 b1 B1 M1 F1 => ?_⟩
    have A1 := A0.mv B M1
    have W1 : Mv b H H1 := ⟨M1, F1⟩
    -- which block
    refine cutn (c := fun bk H2 => 0 ≤ bk ∧ bk < n ∧ BoxAt H2 b (N + 3) ∧ Mv b H H2 ∧ KnAt (ad 100022) (ad 100017) H2 kn p d sa pa ks kp kz tn n q st pd) ?D
      (fun bk => (L2.start ["box", "known", "blocks", "contents", "block", "way"] [V.ref b, V.ref kn]).set 2 (some (.int n)) |>.set 3 (some (.int q)) |>.set 4 (some (.int bk))) ?h ?b
    case h =>
      intro rest
      have hz : 0 ≤ sizeLine := by decide
      refine ⟨_, rfl, kn, _, _, _, rfl, rfl, SqL.of A1.hn, atI_nat (j := 2) rfl, hz, fun e1 he1 => ?_⟩
      have S1 : Same H1 (upd H1 e1 (.lst [])) := same_new he1
      have A2 := A1.same S1
      obtain ⟨xs, hx, hrs⟩ := A2.hp
      have B2 := B1.same S1
      have W2 := W1.trans (.of S1)
      refine ⟨_, _, .lst (SqL.of hx) hrs.dp, .lst (SqL.of upd_same) .nil, pts_shaped _, nil_shaped, _, rfl, ?_⟩
      rw [eqv_nil]
      refine ite2 (fun c => ?c1) (fun c => iteF ?c2)
      case c2 => exact rest bk _ ⟨b0, b1, B2.mono (by omega), W2, A2⟩
      refine ⟨_, rfl, b, N + 1, 3, rfl, B2, by omega, by decide, by decide, fun x3 H3 y0 y1 B3 M3 F3 => ⟨rfl, _, rfl, ?_⟩⟩
      have A3 := A2.mv B2 M3
      have W3 := W2.trans ⟨M3, F3⟩
      refine ite2 (fun c3 => ?_) (fun c3 => rest bk _ ⟨b0, b1, B3.mono (by omega), W3, A3⟩)
      have hpd : 0 < pd.length := by
        cases pd with
        | nil => exact absurd c (by decide)
        | cons _ _ => exact Nat.zero_lt_succ _
      obtain ⟨xs3, hx3, hrs3⟩ := A3.hp
      have hl3 := hrs3.len
      refine ⟨_, rfl, kn, _, _, _, rfl, rfl, SqL.of A3.hn, atI_nat (j := 2) rfl, _, rfl, _, rfl, kn, _, _, _, rfl, rfl, SqL.of A3.hn, atI_nat (j := 2) rfl, kp, xs3, rfl, .inl (SqL.of hx3), b, N + 2, (xs3.length : Int), rfl, B3, by omega, by omega, by omega, fun x4 H4 z0 z1 B4 M4 F4 => ?_⟩
      have A4 := A3.mv B3 M4
      obtain ⟨xs4, hx4, hrs4⟩ := A4.hp
      have hl4 := hrs4.len
      have z2 : x4.toNat < xs4.length := by omega
      obtain ⟨a, b5, c5, ex, ha, hpi⟩ := hrs4.at (List.getElem?_eq_getElem z2)
      obtain ⟨r1, r2, r3, r4⟩ := A4.D.rp (b5, c5) (List.mem_of_getElem? hpi)
      refine ⟨kp, xs4, x4, .ref a, rfl, rfl, SqL.of hx4, by unfold atI; rw [ixN_in z0 (by omega), ← ex]; exact List.getElem?_eq_getElem z2, a, _, _, _, rfl, rfl, SqT.of ha, atI_nat (j := 0) rfl, ?_⟩
      exact rest b5 _ ⟨r1, r2, B4, W3.trans ⟨M4, F4⟩, A4⟩
    case b =>
      rintro bk H2 ⟨b0, b1, B2, W2, A2⟩
      refine ⟨_, rfl, b, N + 3, 5, rfl, B2, by omega, by decide, by decide, fun way H3 y0 y1 B3 M3 F3 => ?_⟩
      have A3 := A2.mv B2 M3
      have W3 := W2.trans ⟨M3, F3⟩
      have hbl : bk.toNat < st.length := by omega
      have atx := atI_int (st := st) b0 hbl
      have z3 : 3 ≤ sizeLine := by decide
      refine ⟨_, rfl, rfl, _, rfl, ?_⟩
      refine ite2 (fun c => ?_) (fun c => ?_)
      · refine ⟨_, rfl, _, rfl, kn, _, _, _, rfl, rfl, SqL.of A3.hn, atI_nat (j := 1) rfl, _, rfl, ks, _, bk, _, rfl, rfl, SqT.of A3.hs, atx, z3, fun t ht => ?_⟩
        obtain ⟨c0, c1⟩ := A3.D.rs _ (List.getElem_mem hbl)
        exact k t bk _ _ (W3.f t ht) upd_same b0 b1 c0 c1 ((B3.same (same_new ht)).mono (by omega)) (W3.trans (.new ht))
      refine ⟨_, rfl, rfl, _, rfl, ?_⟩
      refine ite2 (fun c => ?_) (fun c => ?_)
      · obtain ⟨xs3, hx3, hrs3⟩ := A3.hp
        refine ⟨_, rfl, _, rfl, kn, _, _, _, rfl, rfl, SqL.of A3.hn, atI_nat (j := 1) rfl, _, rfl, kn, _, _, _, rfl, rfl, SqL.of A3.hn, atI_nat (j := 2) rfl, ks, kp, st, xs3, pd, rfl, A3.hs, hx3, hrs3, fun x hx => ?_, fun u H4 hu hut S4 => ?_⟩
        · obtain ⟨r1, r2, _⟩ := A3.D.rp x hx; exact ⟨r1, by omega⟩
        · have hbl2 : bk.toNat < (putS st pd).length := by rw [putS_len]; exact hbl
          refine ⟨_, rfl, u, _, bk, _, rfl, rfl, SqT.of hut, atI_int b0 hbl2, z3, fun t ht => ?_⟩
          obtain ⟨c0, c1⟩ := putS_rng A3.D.rs A3.D.rp _ (List.getElem_mem hbl2)
          have W4 := W3.trans (.of S4)
          exact k t bk _ _ (W4.f t ht) upd_same b0 b1 c0 c1 (((B3.same S4).same (same_new ht)).mono (by omega)) (W4.trans (.new ht))
      · refine ⟨_, rfl, _, rfl, _, rfl, b, N + 4, q, rfl, B3, by omega, by omega, by omega, fun c4 H4 d0 d1 B4 M4 F4 => ⟨z3, fun t ht => ?_⟩⟩
        have W4 := W3.trans ⟨M4, F4⟩
        exact k t bk c4 _ (W4.f t ht) upd_same b0 b1 d0 d1 (B4.same (same_new ht)) (W4.trans (.new ht))
end
end Ls

namespace Ls
open PySem PySem.Spec PyProof.Rows L2
/-- values that are no integers from 0 to m - 1 -/
def oddL (m more : Int) (t l d : Addr) : List V := [.int (-1), .int m, .int (m + more), .int (-1 - more), .non, .bl true, .bl false, .str "0", .ref t, .ref l, .ref d, .int (10 ^ (20 : Int).toNat)]
/-- such a value, new since H0 -/
structure OddV (H0 H : Hp) (m : Int) (v : V) : Prop where
  p : Pv H v
  r : inR v 0 (m - 1) = false
  n : ∀ a, v = .ref a → H0 a = none
theorem oddL_ok {H0 H : Hp} {m more : Int} {t l d : Addr} (m0 : 1 ≤ m) (m1 : m ≤ 64) (h0 : 1 ≤ more) (h1 : more ≤ 1000) (ht : H t = some (.tup [.int 0])) (hl : H l = some (.lst [.int 0])) (hd : H d = some (.dK []))
    (nt : H0 t = none) (nl : H0 l = none) (nd : H0 d = none) : ∀ v ∈ oddL m more t l d, OddV H0 H m v := by
  intro v hv
  unfold oddL at hv
  simp only [List.mem_cons, List.not_mem_nil, or_false] at hv
  rcases hv with e | e | e | e | e | e | e | e | e | e | e | e <;> subst e
  · exact ⟨.fl (.int _ (by decide)), rfl, fun a e => by cases e⟩
  · exact ⟨.fl (.int _ (small21 (by omega) (by omega))), by unfold inR; simp; omega, fun a e => by cases e⟩
  · exact ⟨.fl (.int _ (small21 (by omega) (by omega))), by unfold inR; simp; intro; omega, fun a e => by cases e⟩
  · exact ⟨.fl (.int _ (small21 (by omega) (by omega))), by unfold inR; simp; omega, fun a e => by cases e⟩
  · exact ⟨.fl .non, rfl, fun a e => by cases e⟩
  · exact ⟨.fl (.bl _), rfl, fun a e => by cases e⟩
  · exact ⟨.fl (.bl _), rfl, fun a e => by cases e⟩
  · exact ⟨.fl (.str _ (by decide +kernel) (by decide +kernel)), rfl, fun a e => by cases e⟩
  · exact ⟨.tup ht (.cons (.fl (.int 0 (by decide))) .nil) (by show 1 ≤ 60; decide), rfl, fun a e => by cases e; exact nt⟩
  · exact ⟨.lst hl (.cons (.int 0 (by decide)) .nil) (by show 1 ≤ 40; decide), rfl, fun a e => by cases e; exact nl⟩
  · exact ⟨.dic hd, rfl, fun a e => by cases e; exact nd⟩
  · refine ⟨.fl (.int _ (by decide)), ?_, fun a e => by cases e⟩
    unfold inR; simp; omega
theorem OddV.same {H0 H H' : Hp} {m : Int} {v : V} (o : OddV H0 H m v) (S : Same H H') : OddV H0 H' m v := ⟨o.p.same S, o.r, o.n⟩
theorem It.mv {H H' : Hp} {b : Addr} {N : Nat} (B : BoxAt H b N) (M : But b H H') {v : V} {d : PyData} (h : It H v d) : It H' v d := by
  obtain ⟨x, c, dd, f, hb, _⟩ := B
  exact h.kt fun a ts e => M a _ (by rintro rfl; rw [e] at hb; cases hb) e
theorem Pv.mv {H H' : Hp} {b : Addr} {N : Nat} (B : BoxAt H b N) (M : But b H H') {v : V} (h : Pv H v) (n : v ≠ .ref b) : Pv H' v := by
  obtain ⟨x, c, dd, f, hb, _⟩ := id B
  cases h with
  | fl f => exact .fl f
  | tup h1 h2 h3 => exact .tup (M _ _ (fun z => n (by rw [z])) h1) (h2.kt fun a ts e => M a _ (by rintro rfl; rw [e] at hb; cases hb) e) h3
  | lst h1 h2 h3 => exact .lst (M _ _ (fun z => n (by rw [z])) h1) h2 h3
  | dic h1 => exact .dic (M _ _ (fun z => n (by rw [z])) h1)
theorem OddV.mv {H0 H H' : Hp} {b : Addr} {N : Nat} (B : BoxAt H b N) (M : But b H H') (hb : H0 b ≠ none) {m : Int} {v : V} (o : OddV H0 H m v) : OddV H0 H' m v := ⟨o.p.mv B M fun e => hb (o.n _ e), o.r, o.n⟩
def spRw (C CD : Addr) : Sp := fun vs H Q _ => ∃ (b kn p d sa pa ks kp kz : Addr) (N : Nat) (tn : Bool) (n q : Int) (st : List Int) (pd : List (Int × Int)), vs = [.ref b, .ref kn] ∧ BoxAt H b N ∧ N ≤ 900000 ∧ KnAt C CD H kn p d sa pa ks kp kz tn n q st pd ∧
  ∀ (row t : Addr) (v1 v2 odd : V) (x : Str) (H' : Hp), H row = none → H t = none → H' row = some (.tup [.ref t, .str x, odd]) → H' t = some (.tup [.str "write", v1, v2]) → Pv H' odd → (∀ a, odd = .ref a → H a = none) → Pv H' v1 → Pv H' v2 →
    ((x = "block" ∧ odd = v1 ∧ inR v1 0 (n - 1) = false) ∨ (x = "content" ∧ odd = v2 ∧ inR v1 0 (n - 1) = true ∧ inR v2 0 (q - 1) = false)) → BoxAt H' b (N + 6) → Mv b H H' → Q (.ref row) H'
section
variable {P : Program} {w : World} {K : PySem.W.Frag} {mg : Str → Option Value} {base : Heap} {ad : Nat → Addr} {fd : Nat → FuncData}
theorem ok_law_refused_write (T : Tx K mg ad fd) : FnOk P w K mg base CX0 2 (ad 37) (fd 37) ["box", "known"] (spRw (ad 100022) (ad 100017)) := by
  refine T.f_law_refused_write.ok sc_law_refused_write (fun vs H Q E h => ?_) (fun cdv A outer s H vs Q E hr h => ?_)
  · obtain ⟨b, kn, p, d, sa, pa, ks, kp, kz, N, tn, n, q, st, pd, rfl, _⟩ := h; rfl
  · obtain ⟨b, kn, p, d, sa, pa, ks, kp, kz, N, tn, n, q, st, pd, rfl, B, hN, A0, k⟩ := h
    refine ⟨_, (pss_cons (ps_asg (pe_ix ix_list (pv 1) pe_int (fun _ _ => rfl)) (pg_tup rfl (pgs_cons (pg_name (i := 2) sc_law_refused_write.nd rfl (by first | exact Or.inl rfl | exact Or.inr rfl)) (pgs_cons (pg_name (i := 3) sc_law_refused_write.nd rfl (by first | exact Or.inl rfl | exact Or.inr rfl)) pgs_nil))))
      (pss_cons (ps_asg (pe_tup (pa_cons (pe_op op_add pe_int (pe_call (ok_law_take T) (hr.mono (by decide)) rfl T.g_law_take T.f_law_take.kp (b_law_take T) .nil pass0 (pa_cons (pv 0) (pa_cons pe_int pa_nil)))) (pa_cons (pe_call (ok_law_take T) (hr.mono (by decide)) rfl T.g_law_take T.f_law_take.kp (b_law_take T) .nil pass0 (pa_cons (pv 0) (pa_cons pe_int pa_nil))) (pa_cons (pe_call (ok_law_take T) (hr.mono (by decide)) rfl T.g_law_take T.f_law_take.kp (b_law_take T) .nil pass0 (pa_cons (pv 0) (pa_cons pe_int pa_nil))) (pa_cons (pe_op op_add pe_int (pe_call (ok_law_take T) (hr.mono (by decide)) rfl T.g_law_take T.f_law_take.kp (b_law_take T) .nil pass0 (pa_cons (pv 0) (pa_cons pe_int pa_nil)))) pa_nil))))) (pg_tup rfl (pgs_cons (pg_name (i := 4) sc_law_refused_write.nd rfl (by first | exact Or.inl rfl | exact Or.inr rfl)) (pgs_cons (pg_name (i := 5) sc_law_refused_write.nd rfl (by first | exact Or.inl rfl | exact Or.inr rfl)) (pgs_cons (pg_name (i := 6) sc_law_refused_write.nd rfl (by first | exact Or.inl rfl | exact Or.inr rfl)) (pgs_cons (pg_name (i := 7) sc_law_refused_write.nd rfl (by first | exact Or.inl rfl | exact Or.inr rfl)) pgs_nil))))))
      (pss_cons (ps_set (i := 8) sc_law_refused_write.nd rfl (by first | exact Or.inl rfl | exact Or.inr rfl) (pe_ix ix_list (pe_lst (pa_cons (pe_un un_neg pe_int) (pa_cons (pv 2) (pa_cons (pe_op op_add (pv 2) (pv 7)) (pa_cons (pe_op op_sub (pe_un un_neg pe_int) (pv 7)) (pa_cons pe_non (pa_cons pe_bl (pa_cons pe_bl (pa_cons pe_str (pa_cons (pe_tup (pa_cons pe_int pa_nil)) (pa_cons (pe_lst (pa_cons pe_int pa_nil)) (pa_cons pe_dnewK (pa_cons (pe_op op_pow pe_int pe_int) pa_nil))))))))))))) (pv 5) (fun _ _ => rfl)))
      (pss_cons (ps_set (i := 9) sc_law_refused_write.nd rfl (by first | exact Or.inl rfl | exact Or.inr rfl) (pe_ix ix_list (pe_lst (pa_cons (pe_un un_neg pe_int) (pa_cons (pv 3) (pa_cons (pe_op op_add (pv 3) (pv 7)) (pa_cons (pe_op op_sub (pe_un un_neg pe_int) (pv 7)) (pa_cons pe_non (pa_cons pe_bl (pa_cons pe_bl (pa_cons pe_str (pa_cons (pe_tup (pa_cons pe_int pa_nil)) (pa_cons (pe_lst (pa_cons pe_int pa_nil)) (pa_cons pe_dnewK (pa_cons (pe_op op_pow pe_int pe_int) pa_nil))))))))))))) (pv 6) (fun _ _ => rfl)))
      (pss_cons (ps_par (i := 10) (j := 11) (by rfl) sc_law_refused_write.nd rfl rfl (by decide) rfl rfl (pa_cons (pe_call (ok_law_take T) (hr.mono (by decide)) rfl T.g_law_take T.f_law_take.kp (b_law_take T) .nil pass0 (pa_cons (pv 0) (pa_cons (pv 2) pa_nil))) (pa_cons (pe_call (ok_law_take T) (hr.mono (by decide)) rfl T.g_law_take T.f_law_take.kp (b_law_take T) .nil pass0 (pa_cons (pv 0) (pa_cons (pv 3) pa_nil))) pa_nil)) (by rfl))
      (pss_cons (ps_if (pt_cmpR op_eq (pv 4) pe_int (nomark _))
        (pss_one (ps_ret (pe_tup (pa_cons (pe_tup (pa_cons pe_str (pa_cons (pv 10) (pa_cons (pv 9) pa_nil)))) (pa_cons pe_str (pa_cons (pv 9) pa_nil))))))
        pss_nil)
      (pss_one (ps_ret (pe_tup (pa_cons (pe_tup (pa_cons pe_str (pa_cons (pv 8) (pa_cons (pe_ifExp (pt_cmpR op_eq (pv 4) pe_int (nomark _)) (pv 11) (pv 9)) pa_nil)))) (pa_cons pe_str (pa_cons (pv 8) pa_nil)))))))))))), ?_⟩
    obtain ⟨n0, n1, q0, q1⟩ := A0.bn
    have hb0 : H b ≠ none := by obtain ⟨x, c, dd, f, hb, _⟩ := B; rw [hb]; intro z; cases z
    have y1 : 1 ≤ sizeLine := by decide
    have y3 : 3 ≤ sizeLine := by decide
    have y4 : 4 ≤ sizeLine := by decide
    have y12 : 12 ≤ sizeLine := by decide
    refine ⟨_, rfl, kn, _, _, _, rfl, rfl, SqL.of A0.hn, atI_nat (j := 3) rfl, kz, _, rfl, SqT.of A0.hz, rfl, _, _, rfl, _, _, rfl, rfl, ?_⟩
    refine ⟨_, rfl, b, N, 3, rfl, B, by omega, by decide, by decide, fun x1 H1 a0 a1 B1 M1 F1 => ⟨_, _, rfl, rfl, ?_⟩⟩
    refine ⟨_, rfl, b, N + 1, 12, rfl, B1, by omega, by decide, by decide, fun first H2 f0 f1 B2 M2 F2 => ?_⟩
    refine ⟨_, rfl, b, N + 2, 12, rfl, B2, by omega, by decide, by decide, fun second H3 s0 s1 B3 M3 F3 => ?_⟩
    refine ⟨_, rfl, b, N + 3, 1000, rfl, B3, by omega, by decide, by decide, fun x4 H4 c0 c1 B4 M4 F4 => ⟨_, _, rfl, rfl, y4, fun b5 n5 => ?_⟩⟩
    have W4 := ((Mv.mk M1 F1).trans ⟨M2, F2⟩).trans ((Mv.mk M3 F3).trans ⟨M4, F4⟩)
    obtain ⟨H5, e5⟩ : ∃ X, X = upd H4 b5 (.tup [.int (1 + x1), .int first, .int second, .int (1 + x4)]) := ⟨_, rfl⟩
    rw [← e5]
    have s5 : Same H4 H5 := e5 ▸ same_new n5
    have g5 : H5 b5 = some (.tup [.int (1 + x1), .int first, .int second, .int (1 + x4)]) := by rw [e5]; exact upd_same
    clear e5
    refine ⟨b5, _, rfl, SqT.of g5, rfl, _, _, rfl, _, _, rfl, _, _, rfl, _, _, rfl, rfl, ?_⟩
    have W5 := W4.trans (.of s5)
    have B5 := B4.same s5
    refine ⟨_, rfl, _, rfl, _, rfl, _, rfl, _, _, rfl, rfl, _, rfl, _, rfl, _, _, rfl, rfl, y1, fun b6 n6 => ?_⟩
    obtain ⟨H6, e6⟩ : ∃ X, X = upd H5 b6 (.tup [.int 0]) := ⟨_, rfl⟩
    rw [← e6]
    have s6 : Same H5 H6 := e6 ▸ same_new n6
    have g6 : H6 b6 = some (.tup [.int 0]) := by rw [e6]; exact upd_same
    clear e6
    refine ⟨y1, fun b7 n7 => ?_⟩
    obtain ⟨H7, e7⟩ : ∃ X, X = upd H6 b7 (.lst [.int 0]) := ⟨_, rfl⟩
    rw [← e7]
    have s7 : Same H6 H7 := e7 ▸ same_new n7
    have g7 : H7 b7 = some (.lst [.int 0]) := by rw [e7]; exact upd_same
    clear e7
    refine fun b8 n8 => ?_
    obtain ⟨H8, e8⟩ : ∃ X, X = upd H7 b8 (.dK []) := ⟨_, rfl⟩
    rw [← e8]
    have s8 : Same H7 H8 := e8 ▸ same_new n8
    have g8 : H8 b8 = some (.dK []) := by rw [e8]; exact upd_same
    clear e8
    refine ⟨_, _, rfl, rfl, ⟨by decide, by decide, by decide⟩, y12, fun b9 n9 => ?_⟩
    change tVar 5 _ (upd H8 b9 (.lst (oddL n (1 + x4) b6 b7 b8))) _
    obtain ⟨H9, e9⟩ : ∃ X, X = upd H8 b9 (.lst (oddL n (1 + x4) b6 b7 b8)) := ⟨_, rfl⟩
    rw [← e9]
    have s9 : Same H8 H9 := e9 ▸ same_new n9
    have g9 : H9 b9 = some (.lst (oddL n (1 + x4) b6 b7 b8)) := by rw [e9]; exact upd_same
    clear e9
    have s69 := (s6.trans s7).trans (s8.trans s9)
    have W9 := W5.trans (.of s69)
    have B9 := B5.same s69
    have all1 := oddL_ok (H0 := H) (H := H9) (m := n) (more := 1 + x4) (by omega) (by omega) (by omega) (by omega) (s9 _ _ (s8 _ _ (s7 _ _ g6))) (s9 _ _ (s8 _ _ g7)) (s9 _ _ g8) (W5.f _ n6) (W5.f _ (s6.free n7)) (W5.f _ (s6.free (s7.free n8)))
    refine ⟨_, rfl, ix_any (SqL.of g9) f0 (by show first < 12; omega) fun odd hodd => ?_⟩
    have o1 := all1 odd hodd
    refine ⟨_, rfl, _, rfl, _, rfl, _, rfl, _, _, rfl, rfl, _, rfl, _, rfl, _, _, rfl, rfl, y1, fun b10 n10 => ?_⟩
    obtain ⟨H10, e10⟩ : ∃ X, X = upd H9 b10 (.tup [.int 0]) := ⟨_, rfl⟩
    rw [← e10]
    have s10 : Same H9 H10 := e10 ▸ same_new n10
    have g10 : H10 b10 = some (.tup [.int 0]) := by rw [e10]; exact upd_same
    clear e10
    refine ⟨y1, fun b11 n11 => ?_⟩
    obtain ⟨H11, e11⟩ : ∃ X, X = upd H10 b11 (.lst [.int 0]) := ⟨_, rfl⟩
    rw [← e11]
    have s11 : Same H10 H11 := e11 ▸ same_new n11
    have g11 : H11 b11 = some (.lst [.int 0]) := by rw [e11]; exact upd_same
    clear e11
    refine fun b12 n12 => ?_
    obtain ⟨H12, e12⟩ : ∃ X, X = upd H11 b12 (.dK []) := ⟨_, rfl⟩
    rw [← e12]
    have s12 : Same H11 H12 := e12 ▸ same_new n12
    have g12 : H12 b12 = some (.dK []) := by rw [e12]; exact upd_same
    clear e12
    refine ⟨_, _, rfl, rfl, ⟨by decide, by decide, by decide⟩, y12, fun b13 n13 => ?_⟩
    change tVar 6 _ (upd H12 b13 (.lst (oddL q (1 + x4) b10 b11 b12))) _
    obtain ⟨H13, e13⟩ : ∃ X, X = upd H12 b13 (.lst (oddL q (1 + x4) b10 b11 b12)) := ⟨_, rfl⟩
    rw [← e13]
    have s13 : Same H12 H13 := e13 ▸ same_new n13
    have g13 : H13 b13 = some (.lst (oddL q (1 + x4) b10 b11 b12)) := by rw [e13]; exact upd_same
    clear e13
    have s1013 := (s10.trans s11).trans (s12.trans s13)
    have W13 := W9.trans (.of s1013)
    have B13 := B9.same s1013
    have all2 := oddL_ok (H0 := H) (H := H13) (m := q) (more := 1 + x4) (by omega) (by omega) (by omega) (by omega) (s13 _ _ (s12 _ _ (s11 _ _ g10))) (s13 _ _ (s12 _ _ g11)) (s13 _ _ g12) (W9.f _ n10) (W9.f _ (s10.free n11)) (W9.f _ (s10.free (s11.free n12)))
    refine ⟨_, rfl, ix_any (SqL.of g13) s0 (by show second < 12; omega) fun other hother => ?_⟩
    have o2 := all2 other hother
    have o1' := o1.same s1013
    clear all1 all2 hodd hother
    refine ⟨_, rfl, _, rfl, b, N + 4, n, rfl, B13, by omega, by omega, by omega, fun bk H14 k0 k1 B14 M14 F14 => ?_⟩
    refine ⟨_, rfl, _, rfl, b, N + 5, q, rfl, B14, by omega, by omega, by omega, fun c H15 c00 c10 B15 M15 F15 => ⟨_, _, rfl, ?_⟩⟩
    have W15 := (W13.trans ⟨M14, F14⟩).trans ⟨M15, F15⟩
    have p1 := (o1'.mv B13 M14 hb0).mv B14 M15 hb0
    have p2 := (o2.mv B13 M14 hb0).mv B14 M15 hb0
    have vb : ∀ {H' : Hp}, Pv H' (.int bk) := .fl (.int bk (small21 (by omega) (by omega)))
    have vc : ∀ {H' : Hp}, Pv H' (.int c) := .fl (.int c (small21 (by omega) (by omega)))
    refine ⟨_, rfl, rfl, _, rfl, ?_⟩
    refine ite2 (fun c2 => ?_) (fun c2 => ?_)
    · refine ⟨_, rfl, _, rfl, y3, fun b16 n16 => ?_⟩
      obtain ⟨H16, e16⟩ : ∃ X, X = upd H15 b16 (.tup [.str "write", .int bk, other]) := ⟨_, rfl⟩
      rw [← e16]
      have s16 : Same H15 H16 := e16 ▸ same_new n16
      have g16 : H16 b16 = some (.tup [.str "write", .int bk, other]) := by rw [e16]; exact upd_same
      clear e16
      refine ⟨_, rfl, y3, fun b17 n17 => ?_⟩
      obtain ⟨H17, e17⟩ : ∃ X, X = upd H16 b17 (.tup [.ref b16, .str "content", other]) := ⟨_, rfl⟩
      rw [← e17]
      have s17 : Same H16 H17 := e17 ▸ same_new n17
      have g17 : H17 b17 = some (.tup [.ref b16, .str "content", other]) := by rw [e17]; exact upd_same
      clear e17
      have ss := s16.trans s17
      exact k b17 b16 (.int bk) other other "content" H17 (W15.f _ (s16.free n17)) (W15.f _ n16) g17 (s17 _ _ g16) (p2.p.same ss) p2.n vb (p2.p.same ss) (.inr ⟨rfl, rfl, inR_in k0 (by omega), p2.r⟩) (B15.same ss) (W15.trans (.of ss))
    · refine ⟨_, rfl, ?_⟩
      refine ⟨_, rfl, rfl, _, rfl, ?_⟩
      refine ite2 (fun c3 => ?_) (fun c3 => ?_)
      · refine ⟨_, rfl, y3, fun b16 n16 => ?_⟩
        obtain ⟨H16, e16⟩ : ∃ X, X = upd H15 b16 (.tup [.str "write", odd, .int c]) := ⟨_, rfl⟩
        rw [← e16]
        have s16 : Same H15 H16 := e16 ▸ same_new n16
        have g16 : H16 b16 = some (.tup [.str "write", odd, .int c]) := by rw [e16]; exact upd_same
        clear e16
        refine ⟨_, rfl, y3, fun b17 n17 => ?_⟩
        obtain ⟨H17, e17⟩ : ∃ X, X = upd H16 b17 (.tup [.ref b16, .str "block", odd]) := ⟨_, rfl⟩
        rw [← e17]
        have s17 : Same H16 H17 := e17 ▸ same_new n17
        have g17 : H17 b17 = some (.tup [.ref b16, .str "block", odd]) := by rw [e17]; exact upd_same
        clear e17
        have ss := s16.trans s17
        exact k b17 b16 odd (.int c) odd "block" H17 (W15.f _ (s16.free n17)) (W15.f _ n16) g17 (s17 _ _ g16) (p1.p.same ss) p1.n (p1.p.same ss) vc (.inl ⟨rfl, rfl, p1.r⟩) (B15.same ss) (W15.trans (.of ss))
      · refine ⟨_, rfl, y3, fun b16 n16 => ?_⟩
        obtain ⟨H16, e16⟩ : ∃ X, X = upd H15 b16 (.tup [.str "write", odd, other]) := ⟨_, rfl⟩
        rw [← e16]
        have s16 : Same H15 H16 := e16 ▸ same_new n16
        have g16 : H16 b16 = some (.tup [.str "write", odd, other]) := by rw [e16]; exact upd_same
        clear e16
        refine ⟨_, rfl, y3, fun b17 n17 => ?_⟩
        obtain ⟨H17, e17⟩ : ∃ X, X = upd H16 b17 (.tup [.ref b16, .str "block", odd]) := ⟨_, rfl⟩
        rw [← e17]
        have s17 : Same H16 H17 := e17 ▸ same_new n17
        have g17 : H17 b17 = some (.tup [.ref b16, .str "block", odd]) := by rw [e17]; exact upd_same
        clear e17
        have ss := s16.trans s17
        exact k b17 b16 odd (other) odd "block" H17 (W15.f _ (s16.free n17)) (W15.f _ n16) g17 (s17 _ _ g16) (p1.p.same ss) p1.n (p1.p.same ss) (p2.p.same ss) (.inl ⟨rfl, rfl, p1.r⟩) (B15.same ss) (W15.trans (.of ss))
end
end Ls

namespace Ls
open PySem PySem.Spec PyProof.Rows L2
theorem mayC_rng {C CD : Addr} {H : Hp} {p d sa pa : Addr} {tn : Bool} {n q : Int} {st : List Int} {pd : List (Int × Int)} (D : DrAt C CD H p d sa pa tn n q st pd) {j : Nat} {c : Int} (m : mayC st pd tn q j c) : 0 ≤ c ∧ c < q := by
  rcases m with z | ⟨x, hx, _, z⟩
  · exact D.rs c (List.mem_of_getElem? z)
  · obtain ⟨_, _, r3, r4⟩ := D.rp x hx
    cases tn with
    | true => simpa using z
    | false => have : c = x.2 := by simpa using z
               rw [this]; exact ⟨r3, r4⟩
theorem cut_lo (cs : List Int) (k : Nat) (h : k ≤ cs.length) : cutV (cs.map V.int) none (some (k : Int)) = (cs.take k).map V.int := by
  unfold cutV; rw [HT.sIx_none, HT.sIx_nat, List.length_map, List.drop_zero, List.map_take, Nat.min_eq_left h, Nat.sub_zero]
theorem cut_hi (cs : List Int) (k : Nat) (h : k ≤ cs.length) : cutV (cs.map V.int) (some (k : Int)) none = (cs.drop k).map V.int := by
  unfold cutV; rw [HT.sIx_none, HT.sIx_nat, List.length_map, List.map_drop, Nat.min_eq_left h]
  rw [List.take_of_length_le]; rw [List.length_drop, List.length_map]; omega
theorem rCat_f {K : PySem.W.Frag} {H0 H : Hp} {a b : Addr} {xs ys : List V} {Q : VK} (ha : H a = some (.tup xs)) (hb : H b = some (.tup ys)) (na : H0 a = none) (nb : H0 b = none) (S : ∀ c, H c = none → H0 c = none) (l : xs.length + ys.length ≤ 1000)
    (q : ∀ c H', H' c = some (.tup (xs ++ ys)) → H0 c = none → Same H H' → Q (.ref c) H') : rCatA K (.ref a) (.ref b) H Q := by
  refine ⟨a, b, xs, ys, rfl, rfl, SqT.of ha, SqT.of hb, Nat.le_trans l (by decide), fun e => ?_, fun _ e => ?_, fun _ _ p hp => ?_⟩
  · subst e; exact q b H hb nb (Same.refl H)
  · subst e; exact q a H (by rw [List.append_nil]; exact ha) na (Same.refl H)
  · exact q p _ upd_same (S p hp) (same_new hp)
def spRc (C CD : Addr) : Sp := fun vs H Q _ => ∃ (b kn p d sa pa ks kp kz : Addr) (N : Nat) (tn : Bool) (n q : Int) (st : List Int) (pd : List (Int × Int)), vs = [.ref b, .ref kn] ∧ BoxAt H b N ∧ N ≤ 900000 ∧ KnAt C CD H kn p d sa pa ks kp kz tn n q st pd ∧ pd.length ≤ 900 ∧
  (∀ H', BoxAt H' b (N + 6) → Mv b H H' → Q .non H') ∧
  ∀ (row t : Addr) (v : V) (x : Str) (H' : Hp), H row = none → H t = none → H' row = some (.tup [.ref t, .str x, v]) → H' t = some (.tup [.str "cut", v]) → Pv H' v → (∀ a, v = .ref a → H a = none) →
    ((x = "filling" ∧ filB H' v n q = false) ∨ (x = "left" ∧ ∃ (a : Addr) (cs : List Int), v = .ref a ∧ H' a = some (.tup (cs.map V.int)) ∧ cs.length = st.length ∧ (∀ c ∈ cs, 0 ≤ c ∧ c < q) ∧ ¬ ∀ (j : Nat) (c : Int), cs[j]? = some c → mayC st pd tn q j c)) →
    BoxAt H' b (N + 6) → Mv b H H' → Q (.ref row) H'
section
variable {P : Program} {w : World} {K : PySem.W.Frag} {mg : Str → Option Value} {base : Heap} {ad : Nat → Addr} {fd : Nat → FuncData}
theorem ok_law_refused_cut (T : Tx K mg ad fd) : FnOk P w K mg base CX0 2 (ad 38) (fd 38) ["box", "known"] (spRc (ad 100022) (ad 100017)) := by
  refine T.f_law_refused_cut.ok sc_law_refused_cut (fun vs H Q E h => ?_) (fun cdv A outer s H vs Q E hr h => ?_)
  · obtain ⟨b, kn, p, d, sa, pa, ks, kp, kz, N, tn, n, q, st, pd, rfl, _⟩ := h; rfl
  · obtain ⟨b, kn, p, d, sa, pa, ks, kp, kz, N, tn, n, q, st, pd, rfl, B, hN, A0, hl9, k0, k⟩ := h
    refine ⟨_, (pss_cons (ps_asg (pe_ix ix_list (pv 1) pe_int (fun _ _ => rfl)) (pg_tup rfl (pgs_cons (pg_name (i := 2) sc_law_refused_cut.nd rfl (by first | exact Or.inl rfl | exact Or.inr rfl)) (pgs_cons (pg_name (i := 3) sc_law_refused_cut.nd rfl (by first | exact Or.inl rfl | exact Or.inr rfl)) pgs_nil))))
      (pss_cons (ps_par3 (i := 4) (j := 5) (l := 6) (by rfl) sc_law_refused_cut.nd rfl rfl rfl (by decide) (by decide) (by decide) rfl rfl rfl (pa_cons (pe_call (ok_law_take T) (hr.mono (by decide)) rfl T.g_law_take T.f_law_take.kp (b_law_take T) .nil pass0 (pa_cons (pv 0) (pa_cons (pv 2) pa_nil))) (pa_cons (pe_call (ok_law_take T) (hr.mono (by decide)) rfl T.g_law_take T.f_law_take.kp (b_law_take T) .nil pass0 (pa_cons (pv 0) (pa_cons pe_int pa_nil))) (pa_cons (pe_op op_add pe_int (pe_call (ok_law_take T) (hr.mono (by decide)) rfl T.g_law_take T.f_law_take.kp (b_law_take T) .nil pass0 (pa_cons (pv 0) (pa_cons pe_int pa_nil)))) pa_nil))) (by rfl))
      (pss_cons (ps_set (i := 7) sc_law_refused_cut.nd rfl (by first | exact Or.inl rfl | exact Or.inr rfl) (pe_callTy call_tuple_of (by rfl) T.n_tuple (by decide +kernel) (pa_cons (pe_lc (own := [("block", 12)]) (g := gName 12) (tt := tYes) rfl sc_law_refused_cut.nd (pi_range1 rfl T.n_range (pa_cons (pv 2) pa_nil)) (blkOk_by (own := [("block", 12)]) (N := ["box", "known", "blocks", "contents", "at", "way", "more", "left", "odd", "menu", "others", "value", "block", "content"]) (sc := defScope s_law_refused_cut) (by decide +kernel)) (fun _ _ _ _ _ => (pg_name (i := 12) sc_law_refused_cut.nd rfl (by first | exact Or.inl rfl | exact Or.inr rfl))) (fun _ _ _ _ _ => pts_nil) (fun _ _ _ _ _ => (pe_ix (r := rIxL K) ix_list (pe_call (ok_law_menu T) (hr.mono (by decide)) rfl T.g_law_menu T.f_law_menu.kp (b_law_menu T) .nil pass0 (pa_cons (pv 1) (pa_cons (pv 12) pa_nil))) pe_int (fun _ _ => rfl)))) pa_nil)))
      (pss_cons (ps_if (pt_cmpR op_eq (pe_call (ok_law_take T) (hr.mono (by decide)) rfl T.g_law_take T.f_law_take.kp (b_law_take T) .nil pass0 (pa_cons (pv 0) (pa_cons pe_int pa_nil))) pe_int (nomark _))
        (pss_cons (ps_set (i := 8) sc_law_refused_cut.nd rfl (by first | exact Or.inl rfl | exact Or.inr rfl) (pe_call (ok_law_odd T) (hr.mono (by decide)) rfl T.g_law_odd_filling T.f_law_odd_filling.kp (b_law_odd_filling T) .nil pass0 (pa_cons (pv 5) (pa_cons (pv 4) (pa_cons (pv 7) (pa_cons (pv 3) (pa_cons (pv 6) pa_nil)))))))
      (pss_one (ps_ret (pe_tup (pa_cons (pe_tup (pa_cons pe_str (pa_cons (pv 8) pa_nil))) (pa_cons pe_str (pa_cons (pv 8) pa_nil)))))))
        pss_nil)
      (pss_cons (ps_set (i := 9) sc_law_refused_cut.nd rfl (by first | exact Or.inl rfl | exact Or.inr rfl) (pe_call (ok_law_menu T) (hr.mono (by decide)) rfl T.g_law_menu T.f_law_menu.kp (b_law_menu T) .nil pass0 (pa_cons (pv 1) (pa_cons (pv 4) pa_nil))))
      (pss_cons (ps_setLc (i := 10) (own := [("content", 13)]) (g := gName 13) (tt := tTest (tOp (rIn K true) (tVar 13) (tVar 9))) rfl sc_law_refused_cut.nd rfl rfl (sw_true rfl rfl rfl (by decide +kernel)) (pi_range1 rfl T.n_range (pa_cons (pv 3) pa_nil)) (blkOk_by (own := [("content", 13)]) (N := ["box", "known", "blocks", "contents", "at", "way", "more", "left", "odd", "menu", "others", "value", "block", "content"]) (sc := defScope s_law_refused_cut) (by decide +kernel)) (fun _ _ _ _ _ => (pg_name (i := 13) sc_law_refused_cut.nd rfl (by first | exact Or.inl rfl | exact Or.inr rfl))) (fun _ _ _ _ _ => (pts_one (pt_cmpR op_notIn_seq (pv 13) (pv 9) (by rfl)))) (fun _ _ _ _ _ => (pv 13)))
      (pss_cons (ps_if (pt_cmpR (op_eqD hr.units) (pv 10) (pe_lst pa_nil) (nomark _))
        (pss_one (ps_ret pe_non))
        pss_nil)
      (pss_cons (ps_set (i := 11) sc_law_refused_cut.nd rfl (by first | exact Or.inl rfl | exact Or.inr rfl) (pe_op op_catA (pe_op op_catA (pe_slice sl_tupA (pv 7) po_none (po_some (pv 4))) (pe_tup (pa_cons (pe_ix ix_list (pv 10) (pe_call (ok_law_take T) (hr.mono (by decide)) rfl T.g_law_take T.f_law_take.kp (b_law_take T) .nil pass0 (pa_cons (pv 0) (pa_cons (pe_callB call_len_seq (by rfl) T.n_len (by decide +kernel) (pa_cons (pv 10) pa_nil)) pa_nil))) (fun _ _ => rfl)) pa_nil))) (pe_slice sl_tupA (pv 7) (po_some (pe_op op_add (pv 4) pe_int)) po_none)))
      (pss_one (ps_ret (pe_tup (pa_cons (pe_tup (pa_cons pe_str (pa_cons (pv 11) pa_nil))) (pa_cons pe_str (pa_cons (pv 11) pa_nil)))))))))))))), ?_⟩
    obtain ⟨n0, n1, q0, q1⟩ := A0.bn
    have hls := A0.D.ls
    refine ⟨_, rfl, kn, _, _, _, rfl, rfl, SqL.of A0.hn, atI_nat (j := 3) rfl, kz, _, rfl, SqT.of A0.hz, rfl, _, _, rfl, _, _, rfl, rfl, ?_⟩
    refine ⟨_, rfl, _, rfl, b, N, n, rfl, B, by omega, by omega, by omega, fun at' H1 a0 a1 B1 M1 F1 => ?_⟩
    refine ⟨_, rfl, b, N + 1, 18, rfl, B1, by omega, by decide, by decide, fun way H2 w0 w1 B2 M2 F2 => ?_⟩
    refine ⟨_, rfl, b, N + 2, 1000, rfl, B2, by omega, by decide, by decide, fun x3 H3 m0 m1 B3 M3 F3 => ⟨_, _, rfl, rfl, _, _, _, rfl, ?_⟩⟩
    have A3 := ((A0.mv B M1).mv B1 M2).mv B2 M3
    have W3 := ((Mv.mk M1 F1).trans ⟨M2, F2⟩).trans ⟨M3, F3⟩
    have nI : n ≤ 2 ^ 62 - 1 := by omega
    -- left = tuple([..])
    refine ⟨_, rfl, n, rfl, by omega, by omega, fun D1 hD1 => lc_range (fun i H' => ∃ cs : List Int, cs.length = i ∧ H' D1 = some (.lst (cs.map V.int)) ∧ (∀ (j : Nat) (c : Int), cs[j]? = some c → mayC st pd tn q j c) ∧ Same H3 H')
      ⟨[], rfl, upd_same, fun j c h => by simp at h, same_new hD1⟩ ?_ ?_⟩
    · rintro i H' hi ⟨cs, hcl, hc1, hc2, S⟩
      refine ⟨rfl, ?_⟩
      unfold tYes; refine iteT ?_
      have Ai := A3.same S
      refine ⟨_, rfl, _, rfl, kn, p, d, sa, pa, ks, kp, kz, tn, n, q, st, pd, _, rfl, Ai, by omega, by omega, hl9, fun l ns H4 hl hl4 hm hne hnl S4 => ?_⟩
      obtain ⟨c0, ns', rfl⟩ : ∃ c0 ns', ns = c0 :: ns' := by
        cases ns with
        | nil => exact absurd rfl hne
        | cons c0 ns' => exact ⟨c0, ns', rfl⟩
      refine ⟨l, _, _, _, rfl, rfl, SqL.of hl4, atI_nat (j := 0) rfl, _, S4 _ _ hc1, ?_, cs ++ [c0], by rw [List.length_append, hcl]; rfl, ?_, fun j c hj => ?_, fun b' o e => ?_⟩
      · rw [List.length_map]; exact small1000 (by omega)
      · rw [upd_same, List.map_append]; rfl
      · by_cases h1 : j < cs.length
        · rw [List.getElem?_append_left h1] at hj; exact hc2 j c hj
        · rw [List.getElem?_append_right (by omega)] at hj
          have e0 : j - cs.length = 0 := by have := (List.getElem?_eq_some_iff.mp hj).1; simp at this; omega
          rw [e0] at hj; cases hj
          have := (hm c0).mp (List.mem_cons_self ..)
          rw [show ((0 : Int) + (i : Nat)).toNat = j by omega] at this; exact this
      · rw [upd_ne (ne_of_none e hD1)]; exact S4 _ _ (S _ _ e)
    · rintro H4 ⟨cs, hcl, hc1, hc2, S4⟩
      have hcl' : cs.length = st.length := by omega
      have hrg : ∀ c ∈ cs, 0 ≤ c ∧ c < q := fun c hc => by
        obtain ⟨j, hj⟩ := List.mem_iff_getElem?.mp hc; exact mayC_rng A3.D (hc2 j c hj)
      refine ⟨D1, _, rfl, .inl ⟨SqL.of hc1, fun lf hlf => ?_⟩⟩
      obtain ⟨H5, e5⟩ : ∃ X, X = upd H4 lf (.tup (cs.map V.int)) := ⟨_, rfl⟩
      rw [← e5]
      have S5 : Same H4 H5 := e5 ▸ same_new hlf
      have g5 : H5 lf = some (.tup (cs.map V.int)) := by rw [e5]; exact upd_same
      clear e5
      have W5 := W3.trans (.of (S4.trans S5))
      have B5 := B3.same (S4.trans S5)
      have A5 := A3.same (S4.trans S5)
      refine ⟨_, rfl, b, N + 3, 2, rfl, B5, by omega, by decide, by decide, fun x6 H6 x60 x61 B6 M6 F6 => ⟨rfl, _, rfl, ?_⟩⟩
      have W6 := W5.trans ⟨M6, F6⟩
      have A6 := A5.mv B5 M6
      have g6 : H6 lf = some (.tup (cs.map V.int)) := M6 _ _ (by obtain ⟨x, c, dd, f, hb, _⟩ := B5; rintro rfl; rw [g5] at hb; cases hb) g5
      have y1 : 1 ≤ sizeLine := by decide
      have y2 : 2 ≤ sizeLine := by decide
      have y3 : 3 ≤ sizeLine := by decide
      refine ite2 (fun c => ?_) (fun c => ?_)
      · refine ⟨_, rfl, _, rfl, _, rfl, _, rfl, _, rfl, way, at', q, 1 + x3, lf, cs, rfl, g6, w0, w1, a0, by omega, by omega, hrg, q0, q1, by omega, by omega, fun v H7 S7 O => ?_⟩
        have W7 := W6.trans (.of S7)
        refine ⟨_, rfl, y2, fun b8 n8 => ?_⟩
        obtain ⟨H8, e8⟩ : ∃ X, X = upd H7 b8 (.tup [.str "cut", v]) := ⟨_, rfl⟩
        rw [← e8]
        have s8 : Same H7 H8 := e8 ▸ same_new n8
        have g8 : H8 b8 = some (.tup [.str "cut", v]) := by rw [e8]; exact upd_same
        clear e8
        refine ⟨_, rfl, y3, fun b9 n9 => ?_⟩
        have s9 := same_new (o := .tup [.ref b8, .str "filling", v]) n9
        have ss := s8.trans s9
        obtain ⟨U, kd⟩ := O.p.kd
        exact k b9 b8 v "filling" _ (W7.f _ (s8.free n9)) (W7.f _ n8) upd_same (s9 _ _ g8) (O.p.same ss) (fun a e => W6.f a (O.n a e)) (.inl ⟨rfl, by rw [filB_same kd ss, ← hls, ← hcl']; exact O.f⟩) (((B6.same S7).same ss).mono (by omega)) (W7.trans (.of ss))
      · refine ⟨_, rfl, _, rfl, kn, p, d, sa, pa, ks, kp, kz, tn, n, q, st, pd, at', rfl, A6, a0, a1, hl9, fun lm ns H7 hlm hm7 hm hne hnl S7 => ?_⟩
        refine ⟨_, rfl, q, rfl, by omega, by omega, fun D8 hD8 => lc_range (fun i H' => ∃ os : List Int, os.length ≤ i ∧ H' D8 = some (.lst (os.map V.int)) ∧ (∀ c ∈ os, 0 ≤ c ∧ c < q ∧ c ∉ ns) ∧ Same H7 H')
          ⟨[], Nat.le_refl 0, upd_same, fun c h => (by cases h), same_new hD8⟩ ?_ ?_⟩
        · rintro i H' hi ⟨os, ol, o1, o2, S⟩
          refine ⟨rfl, ?_⟩
          refine ⟨_, rfl, _, rfl, lm, _, rfl, .inl (SqL.of (S _ _ hm7)), rfl, flat_ints ns, _, rfl, ?_⟩
          rw [if_pos rfl, inV_ints]
          refine ite2 (fun c2 => ?_) (fun c2 => ⟨os, by omega, o1, o2, S⟩)
          have c3 : ((0 : Int) + (i : Nat)) ∉ ns := by simpa using c2
          refine ⟨_, rfl, _, o1, ?_, os ++ [(0 : Int) + ((i : Nat) : Int)], by rw [List.length_append]; show os.length + 1 ≤ i + 1; omega, ?_, fun c hc => ?_, fun b' o e => ?_⟩
          · rw [List.length_map]; exact small1000 (by omega)
          · rw [upd_same, List.map_append]; rfl
          · rcases List.mem_append.mp hc with z | z
            · exact o2 c z
            · rw [List.mem_singleton.mp z]; exact ⟨by omega, by omega, c3⟩
          · rw [upd_ne (ne_of_none e hD8)]; exact S _ _ e
        · rintro H8 ⟨os, ol, o1, o2, S8⟩
          have B8 := B6.same (S7.trans S8)
          have W8 := W6.trans (.of (S7.trans S8))
          have g8 := S8 _ _ (S7 _ _ g6)
          refine ⟨_, rfl, (by show 0 ≤ sizeLine; decide), fun b9 n9 => ?_⟩
          have s9 := same_new (o := .lst []) n9
          refine ⟨_, _, .lst (SqL.of (s9 _ _ o1)) (dp_ints os), .lst (SqL.of upd_same) .nil, il_shaped os, nil_shaped, _, rfl, ?_⟩
          rw [eqv_nil]
          refine ite2 (fun c2 => ?_) (fun c2 => ?_)
          · exact k0 _ ((B8.same s9).mono (by omega)) (W8.trans (.of s9))
          have hos : 0 < os.length := by
            cases os with
            | nil => exact absurd rfl c2
            | cons _ _ => exact Nat.zero_lt_succ _
          have B9 := B8.same s9
          have W9 := W8.trans (.of s9)
          have g9 := s9 _ _ g8
          have o9 := s9 _ _ o1
          generalize upd H8 b9 (.lst []) = H9 at s9 B9 W9 g9 o9 ⊢
          have ha : at'.toNat < cs.length := by omega
          have eat : at' = ((at'.toNat : Nat) : Int) := by omega
          refine ⟨_, rfl, _, rfl, _, rfl, lf, _, rfl, SqT.of g9, fun hw => ?_, fun _ p1 hp1 => ?_⟩
          · exfalso
            obtain ⟨_, h2⟩ := hw
            rw [eat, HT.sIx_nat, List.length_map] at h2; omega
          have ec1 : cutV (cs.map V.int) none (some at') = (cs.take at'.toNat).map V.int := by rw [eat]; exact cut_lo cs _ (by omega)
          rw [ec1]
          have s10 := same_new (o := .tup ((cs.take at'.toNat).map V.int)) hp1
          have B10 := B9.same s10
          have W10 := W9.trans (.of s10)
          refine ⟨_, rfl, _, rfl, _, rfl, D8, _, rfl, .inl (SqL.of (s10 _ _ o9)), b, N + 4, ((os.map V.int).length : Int), rfl, B10, by omega, by rw [List.length_map]; omega, by rw [List.length_map]; omega, fun x11 H11 x110 x111 B11 M11 F11 => ?_⟩
          have nb : ∀ {a : Addr} {xs : List V}, H9 a = some (.tup xs) → a ≠ b := fun h => by obtain ⟨x, c, dd, f, hb, _⟩ := B9; rintro rfl; rw [h] at hb; cases hb
          have nD : D8 ≠ b := by
            obtain ⟨x, c, dd, f, hb, _⟩ := B6
            rintro rfl
            exact absurd (S7 _ _ hb) (by rw [hD8]; intro z; cases z)
          have n10 : p1 ≠ b := by obtain ⟨x, c, dd, f, hb, _⟩ := B9; exact fun z => by rw [z, hb] at hp1; cases hp1
          have W11 := W10.trans ⟨M11, F11⟩
          refine ix_any (SqL.of (M11 _ _ nD (s10 _ _ o9))) x110 x111 fun v hv => ?_
          obtain ⟨o, ho, rfl⟩ := List.mem_map.mp hv
          obtain ⟨oo0, oo1, oo2⟩ := o2 o ho
          refine ⟨y1, fun p2 hp2 => ?_⟩
          have s12 := same_new (o := .tup [.int o]) hp2
          have h1p := s12 _ _ (M11 _ _ n10 upd_same)
          have W12 := W11.trans (.of s12)
          refine rCat_f (H0 := H) h1p upd_same (W9.f _ hp1) (W11.f _ hp2) W12.f (by rw [List.length_map, List.length_take]; show _ + 1 ≤ 1000; omega) fun c1 H13 hc1 nc1 s13 => ?_
          have g13 := s13 _ _ (s12 _ _ (M11 _ _ (nb g9) (s10 _ _ g9)))
          have W13 := W12.trans (.of s13)
          refine ⟨_, rfl, _, rfl, _, _, rfl, rfl, _, rfl, lf, _, rfl, SqT.of g13, fun hw => ?_, fun _ p3 hp3 => ?_⟩
          · exfalso
            obtain ⟨h2, _⟩ := hw
            have e : at' + 1 = ((at'.toNat + 1 : Nat) : Int) := by omega
            rw [e, HT.sIx_nat, List.length_map] at h2; omega
          have ec2 : cutV (cs.map V.int) (some (at' + 1)) none = (cs.drop (at'.toNat + 1)).map V.int := by rw [show at' + 1 = ((at'.toNat + 1 : Nat) : Int) by omega]; exact cut_hi cs _ (by omega)
          rw [ec2]
          have s14 := same_new (o := .tup ((cs.drop (at'.toNat + 1)).map V.int)) hp3
          have W14 := W13.trans (.of s14)
          refine rCat_f (H0 := H) (s14 _ _ hc1) upd_same nc1 (W13.f _ hp3) W14.f (by rw [List.length_append, List.length_map, List.length_map, List.length_take, List.length_drop]; show _ + 1 + _ ≤ 1000; omega) fun c2 H15 hc2 nc2 s15 => ?_
          have W15 := W14.trans (.of s15)
          have esum : (cs.take at'.toNat).map V.int ++ [V.int o] ++ (cs.drop (at'.toNat + 1)).map V.int = (cs.set at'.toNat o).map V.int := by
            rw [List.set_eq_take_append_cons_drop, if_pos ha, List.map_append, List.map_cons, List.append_assoc]; rfl
          rw [esum] at hc2
          have B15 := B11.same (((s12.trans s13).trans s14).trans s15)
          refine ⟨_, rfl, y2, fun b16 n16 => ?_⟩
          obtain ⟨H16, e16⟩ : ∃ X, X = upd H15 b16 (.tup [.str "cut", .ref c2]) := ⟨_, rfl⟩
          rw [← e16]
          have s16 : Same H15 H16 := e16 ▸ same_new n16
          have g16 : H16 b16 = some (.tup [.str "cut", .ref c2]) := by rw [e16]; exact upd_same
          clear e16
          refine ⟨_, rfl, y3, fun b17 n17 => ?_⟩
          have s17 := same_new (o := .tup [.ref b16, .str "left", .ref c2]) n17
          have ss := s16.trans s17
          have hrs : ∀ c ∈ cs.set at'.toNat o, 0 ≤ c ∧ c < q := fun c hc => by
            rcases List.mem_or_eq_of_mem_set hc with z | z
            · exact hrg c z
            · rw [z]; exact ⟨oo0, oo1⟩
          refine k b17 b16 (.ref c2) "left" _ (W15.f _ (s16.free n17)) (W15.f _ n16) upd_same (s17 _ _ g16) (.tup (ss _ _ hc2) (.of (FlAll.ints _ fun c hc => small21 (by have := hrs c hc; omega) (by have := hrs c hc; omega))) (by rw [List.length_map, List.length_set]; omega))
            (fun a e => by cases e; exact nc2) (.inr ⟨rfl, c2, _, rfl, ss _ _ hc2, by rw [List.length_set]; exact hcl', hrs, fun all => ?_⟩) ((B15.same ss).mono (by omega)) (W15.trans (.of ss))
          exact oo2 ((hm o).mpr (all at'.toNat o (List.getElem?_set_self ha)))
end
end Ls

namespace Ls
open PySem PySem.Spec PyProof.Rows L2
theorem cuts {A : Prop} {c : L2.St → Hp → Prop} (D : Ends) (h : (∀ σ H, c σ H → D.nx σ H) → A) (b : ∀ σ H, c σ H → D.nx σ H) : A := h b
theorem eqv_pts (pd : List (Int × Int)) : PyData.eqv (.list (pd.map ptD)) (.list (pd.map ptD)) = true := SeqAt.eqv_refl _ (pts_lay pd).1
theorem eqv_it (cs : List Int) : PyData.eqv (.tuple (cs.map PyData.int)) (.tuple (cs.map PyData.int)) = true := SeqAt.eqv_refl _ (ints_lay cs).1
def spStands (C CD : Addr) : Sp := fun vs H Q _ => ∃ (b kn p d sa pa ks kp kz : Addr) (N : Nat) (tn : Bool) (n q : Int) (st : List Int) (pd : List (Int × Int)), vs = [.ref b, .ref kn] ∧ BoxAt H b N ∧ N ≤ 900000 ∧ KnAt C CD H kn p d sa pa ks kp kz tn n q st pd ∧
  ∀ H', BoxAt H' b (N + 1) → Mv b H H' → Q (.bl true) H'
section
variable {P : Program} {w : World} {K : PySem.W.Frag} {mg : Str → Option Value} {base : Heap} {ad : Nat → Addr} {fd : Nat → FuncData}
theorem ok_law_stands (T : Tx K mg ad fd) : FnOk P w K mg base CX0 2 (ad 34) (fd 34) ["box", "known"] (spStands (ad 100022) (ad 100017)) := by
  refine T.f_law_stands.ok sc_law_stands (fun vs H Q E h => ?_) (fun cdv A outer s H vs Q E hr h => ?_)
  · obtain ⟨b, kn, p, d, sa, pa, ks, kp, kz, N, tn, n, q, st, pd, rfl, _⟩ := h; rfl
  · obtain ⟨b, kn, p, d, sa, pa, ks, kp, kz, N, tn, n, q, st, pd, rfl, B, hN, A0, k⟩ := h
    refine ⟨_, (pss_cons (ps_par3 (i := 2) (j := 3) (l := 4) (by rfl) sc_law_stands.nd rfl rfl rfl (by decide) (by decide) (by decide) rfl rfl rfl (pa_cons (pe_ix ix_list (pv 1) pe_int (fun _ _ => rfl)) (pa_cons (pe_ix ix_list (pv 1) pe_int (fun _ _ => rfl)) (pa_cons (pe_ix ix_list (pv 1) pe_int (fun _ _ => rfl)) pa_nil))) (by rfl))
      (pss_cons (ps_set (i := 5) sc_law_stands.nd rfl (by first | exact Or.inl rfl | exact Or.inr rfl) (pe_call (ok_law_take T) (hr.mono (by decide)) rfl T.g_law_take T.f_law_take.kp (b_law_take T) .nil pass0 (pa_cons (pv 0) (pa_cons pe_int pa_nil))))
      (pss_cons (ps_for PassesOwn.never rfl (pi_range1 rfl T.n_range (pa_cons pe_int pa_nil)) (pg_name (i := 6) sc_law_stands.nd rfl (by first | exact Or.inl rfl | exact Or.inr rfl))
        (pss_cons (ps_set (i := 7) sc_law_stands.nd rfl (by first | exact Or.inl rfl | exact Or.inr rfl) (pe_op op_mod (pe_callTy call_int1 (by rfl) T.n_int (by decide +kernel) (pa_cons (pe_op op_add (pv 5) (pv 6)) pa_nil)) pe_int))
      (pss_cons (ps_if (pt_cmpR op_eq (pv 7) pe_int (nomark _))
        (pss_cons (ps_set (i := 8) sc_law_stands.nd rfl (by first | exact Or.inl rfl | exact Or.inr rfl) (pe_meth0 (pv 2) T.c_Drive T.m_Drive_pending (ok_Drive_pending T) (hr.mono (by decide)) (b_Drive_pending T) .nil pass0))
      (pss_cons (ps_if (PW.pt (pw_or (pt_not (pt_val (pe_callB call_isi (by rfl) T.n_isinstance (by decide +kernel) (pa_cons (pv 8) (pa_cons (pe_bltn (v := .ty "list") (by rfl) T.n_list (by decide +kernel) rfl) pa_nil))))) (pw_or (pt_cmpR (op_neD hr.units) (pv 8) (pv 4) (nomark _)) (pw_or1 (pt_cmpR (op_neD hr.units) (pe_lc (own := [("one", 9)]) (g := gName 9) (tt := _) rfl sc_law_stands.nd (pi_list (pv 8)) (blkOk_by (own := [("one", 9)]) (N := ["box", "known", "drive", "settled", "pending", "first", "turn", "which", "told", "one"]) (sc := defScope s_law_stands) (by decide +kernel)) (fun _ _ _ _ _ => (pg_name (i := 9) sc_law_stands.nd rfl (by first | exact Or.inl rfl | exact Or.inr rfl))) (fun _ _ _ _ _ => (pts_one (pt_not (pt_val (pe_callB (id := "isinstance") (r := rIsi K) call_isi (by rfl) T.n_isinstance (by decide +kernel) (pa_cons (pv 9) (pa_cons (pe_bltn (v := .ty "tuple") (by rfl) T.n_tuple (by decide +kernel) rfl) pa_nil))))))) (fun _ _ _ _ _ => (pv 9))) (pe_lst pa_nil) (nomark _))))))
        (pss_one (ps_ret pe_bl))
        pss_nil)
      (pss_cons (ps_expr (pe_bm PySem.F.plainAttrs_list PySem.F.slot_list_append PySem.F.type_list_append mt_append (pv 8) (pa_cons (pe_tup (pa_cons pe_int (pa_cons pe_int pa_nil))) pa_nil)))
      (pss_one (ps_expr (pe_bm0 PySem.F.plainAttrs_list PySem.F.slot_list_reverse PySem.F.type_list_reverse mt_reverse (pv 8)))))))
        pss_nil)
      (pss_cons (ps_if (pt_cmpR op_eq (pv 7) pe_int (nomark _))
        (pss_cons (ps_set (i := 8) sc_law_stands.nd rfl (by first | exact Or.inl rfl | exact Or.inr rfl) (pe_meth0 (pv 2) T.c_Drive T.m_Drive_settled (ok_Drive_settled T) (hr.mono (by decide)) (b_Drive_settled T) .nil pass0))
      (pss_one (ps_if (PW.pt (pw_or (pt_not (pt_val (pe_callB call_isi (by rfl) T.n_isinstance (by decide +kernel) (pa_cons (pv 8) (pa_cons (pe_bltn (v := .ty "tuple") (by rfl) T.n_tuple (by decide +kernel) rfl) pa_nil))))) (pw_or1 (pt_cmpR (op_neD hr.units) (pv 8) (pv 3) (nomark _)))))
        (pss_one (ps_ret pe_bl))
        pss_nil)))
        pss_nil)
      (pss_one (ps_if (pt_cmpR op_eq (pv 7) pe_int (nomark _))
        (pss_cons (ps_set (i := 8) sc_law_stands.nd rfl (by first | exact Or.inl rfl | exact Or.inr rfl) (pe_meth0 (pv 2) T.c_Drive T.m_Drive_filling (ok_Drive_filling T) (hr.mono (by decide)) (b_Drive_filling T) .nil pass0))
      (pss_one (ps_if (PW.pt (pw_or (pt_not (pt_val (pe_callB call_isi (by rfl) T.n_isinstance (by decide +kernel) (pa_cons (pv 8) (pa_cons (pe_bltn (v := .ty "tuple") (by rfl) T.n_tuple (by decide +kernel) rfl) pa_nil))))) (pw_or1 (pt_cmpR (op_neD hr.units) (pv 8) (pe_call (ok_law_put T) (hr.mono (by decide)) rfl T.g_law_put T.f_law_put.kp (b_law_put T) .nil pass0 (pa_cons (pv 3) (pa_cons (pv 4) pa_nil))) (nomark _)))))
        (pss_one (ps_ret pe_bl))
        pss_nil)))
        pss_nil))))))
      (pss_one (ps_ret (pe_and (pe_cmpR (op_eqD hr.units) (pe_meth0 (pv 2) T.c_Drive T.m_Drive_pending (ok_Drive_pending T) (hr.mono (by decide)) (b_Drive_pending T) .nil pass0) (pv 4) (nomark _)) (pe_and (pe_callB call_isi (by rfl) T.n_isinstance (by decide +kernel) (pa_cons (pe_fld (pv 2) rfl) (pa_cons (pe_bltn (v := .ty "bool") (by rfl) T.n_bool (by decide +kernel) rfl) pa_nil))) (pe_one (pe_cmpR op_eq (pe_fld (pv 2) rfl) (pe_ix ix_list (pv 1) pe_int (fun _ _ => rfl)) (nomark _)))))))))), ?_⟩
    refine ⟨_, rfl, kn, _, _, _, rfl, rfl, SqL.of A0.hn, atI_nat (j := 0) rfl, _, rfl, kn, _, _, _, rfl, rfl, SqL.of A0.hn, atI_nat (j := 1) rfl, _, rfl, kn, _, _, _, rfl, rfl, SqL.of A0.hn, atI_nat (j := 2) rfl, _, _, _, rfl, ?_⟩
    refine ⟨_, rfl, b, N, 3, rfl, B, by omega, by decide, by decide, fun first H1 f0 f1 B1 M1 F1 => ?_⟩
    have A1 := A0.mv B M1
    have W1 : Mv b H H1 := ⟨M1, F1⟩
    have hln := A1.D.ln
    refine ⟨4, rfl, by decide, by decide, for_range (n := 4) (fun i σ H' => ∃ v6 v7 v8 v9, σ = [some (.ref b), some (.ref kn), some (.ref p), some (.ref ks), some (.ref kp), some (.int first), v6, v7, v8, v9] ∧ Same H1 H')
      ⟨none, none, none, none, rfl, Same.refl _⟩ ?_ ?_⟩
    · rintro i σ H2 hi ⟨v6, v7, v8, v9, rfl, S2⟩
      refine ⟨_, rfl, _, rfl, _, _, rfl, rfl, .inl ⟨_, rfl, _, _, rfl, rfl, (by show (0 : Int) < 3; decide), ?_⟩⟩
      obtain ⟨which, hw⟩ : ∃ x : Int, x = (first + (0 + (i : Int))) % 3 := ⟨_, rfl⟩
      refine cuts (c := fun σ H' => ∃ v8 v9, σ = [some (.ref b), some (.ref kn), some (.ref p), some (.ref ks), some (.ref kp), some (.int first), some (.int (0 + (i : Int))), some (.int ((first + (0 + (i : Int))) % 3)), v8, v9] ∧ Same H1 H') ?D1 ?h1 ?b1
      case h1 =>
        intro rest
        refine ⟨_, rfl, rfl, _, rfl, ?_⟩
        refine ite2 (fun c => ?c1) (fun c => ?c2)
        case c2 => exact rest _ _ ⟨v8, v9, rfl, S2⟩
        have A2 := A1.same S2
        obtain ⟨dx, hp⟩ := A2.D.ob
        refine ⟨_, rfl, p, dx, _, rfl, hp, rfl, p, d, sa, pa, tn, n, q, st, pd, rfl, A2.D, fun l xs H3 hl S3 hl3 hprs => ?_⟩
        obtain ⟨xk, hk1, hk2⟩ := A2.hp
        have hkp := S3 _ _ hk1
        have z2 : 2 ≤ sizeLine := by decide
        have z0 : 0 ≤ sizeLine := by decide
        refine ⟨_, rfl, .ref l, .ty "list", _, _, _, rfl, .ty _, (Kd.lst hl3).tx, (Kd.lst hl3).isi (.inr (.inr (.inr (.inl rfl)))), _, rfl, ?_⟩
        refine iteF ?_
        refine ⟨_, rfl, _, rfl, _, _, .lst (SqL.of hl3) (hprs.kt (.of S3)).dp, .lst (SqL.of hkp) (hk2.kt (.of S3)).dp, pts_shaped _, pts_shaped _, _, rfl, ?_⟩
        rw [eqv_pts]
        refine iteF ?_
        refine ⟨_, rfl, l, rfl, ⟨_, SqL.of hl3⟩, fun D4 hD4 => lc_list (K := K) (a := l) (xs := xs) (fun i H' => H' D4 = some (.lst []) ∧ Same H3 H') ⟨(upd_same : upd H3 D4 (.lst []) D4 = _), same_new hD4⟩ (fun i H' _ z => SqL.of (z.2 _ _ hl3)) ?_ ?_⟩
        · rintro j x H' hx ⟨e1, S4⟩
          obtain ⟨a, b5, c5, rfl, ha, _⟩ := hprs.at hx
          have ha' := S4 _ _ (S3 _ _ ha)
          refine ⟨rfl, ?_⟩
          exact ⟨_, rfl, _, .ty "tuple", _, _, _, rfl, .ty _, (Kd.tup ha').tx, (Kd.tup ha').isi (.inr (.inr (.inl rfl))), _, rfl, iteF ⟨e1, S4⟩⟩
        · rintro H4 ⟨e1, S4⟩
          refine ⟨z0, fun e2 he2 => ?_⟩
          have S5 := same_new (o := .lst []) he2
          refine ⟨_, _, .lst (SqL.of (S5 _ _ e1)) .nil, .lst (SqL.of upd_same) .nil, nil_shaped, nil_shaped, _, rfl, ?_⟩
          rw [eqv_nil]
          refine iteF ?_
          have hl5 := S5 _ _ (S4 _ _ hl3)
          have S25 := (S2.trans S3).trans (S4.trans S5)
          have l1 : H1 l = none := S2.free hl
          refine ⟨_, rfl, .inl ⟨rfl, _, SqL.of hl5⟩, z2, fun t ht => ?_⟩
          have S6 := same_new (o := .tup [.int 0, .int 0]) ht
          refine ⟨l, xs, _, rfl, rfl, S6 _ _ hl5, by rw [hprs.len]; exact Nat.lt_of_le_of_lt hln (by decide), ?_⟩
          refine ⟨_, rfl, .inl ⟨rfl, _, SqL.of upd_same⟩, l, _, rfl, rfl, upd_same, ?_⟩
          refine rest _ _ ⟨_, v9, rfl, fun a o e => ?_⟩
          rw [upd_ne (ne_of_none e l1), upd_ne (ne_of_none e l1)]
          exact S6 _ _ (S25 _ _ e)
      case b1 =>
        rintro σ H3 ⟨v8, v9, rfl, S3⟩
        refine cuts (c := fun σ H' => ∃ v8 v9, σ = [some (.ref b), some (.ref kn), some (.ref p), some (.ref ks), some (.ref kp), some (.int first), some (.int (0 + (i : Int))), some (.int ((first + (0 + (i : Int))) % 3)), v8, v9] ∧ Same H1 H') ?D2 ?h2 ?b2
        case h2 =>
          intro rest
          refine ⟨_, rfl, rfl, _, rfl, ?_⟩
          refine ite2 (fun c => ?c3) (fun c => ?c4)
          case c4 => exact rest _ _ ⟨v8, v9, rfl, S3⟩
          have A3 := A1.same S3
          obtain ⟨dx, hp⟩ := A3.D.ob
          refine ⟨_, rfl, p, dx, _, rfl, hp, rfl, p, d, sa, pa, tn, n, q, st, pd, rfl, A3.D, ?_⟩
          refine ⟨_, rfl, .ref sa, .ty "tuple", _, _, _, rfl, .ty _, (Kd.tup A3.D.se).tx, (Kd.tup A3.D.se).isi (.inr (.inr (.inl rfl))), _, rfl, iteF ?_⟩
          refine ⟨_, rfl, _, rfl, _, _, .tup (SqT.of A3.D.se) (dp_ints st), .tup (SqT.of A3.hs) (dp_ints st), it_shaped _, it_shaped _, _, rfl, ?_⟩
          rw [eqv_it]
          refine iteF ?_
          exact rest _ _ ⟨_, v9, rfl, S3⟩
        case b2 =>
          rintro σ H4 ⟨v8, v9, rfl, S4⟩
          have A4 := A1.same S4
          obtain ⟨dx, hp⟩ := A4.D.ob
          obtain ⟨xk, hk1, hk2⟩ := A4.hp
          refine ⟨_, rfl, rfl, _, rfl, ?_⟩
          refine ite2 (fun c => ?_) (fun c => ⟨_, _, _, _, rfl, S4⟩)
          refine ⟨_, rfl, p, dx, _, rfl, hp, rfl, p, d, sa, pa, tn, n, q, st, pd, rfl, A4.D, fun t H5 S5 ht => ?_⟩
          refine ⟨_, rfl, .ref t, .ty "tuple", _, _, _, rfl, .ty _, (Kd.tup ht).tx, (Kd.tup ht).isi (.inr (.inr (.inl rfl))), _, rfl, iteF ?_⟩
          have A5 := A4.same S5
          refine ⟨_, rfl, _, rfl, _, rfl, ks, kp, st, xk, pd, rfl, A5.hs, S5 _ _ hk1, hk2.kt (.of S5), fun x hx => ?_, fun u H6 hu hut S6 => ?_⟩
          · obtain ⟨r1, r2, _⟩ := A5.D.rp x hx; have := A5.D.ls; exact ⟨r1, by omega⟩
          refine ⟨_, _, .tup (SqT.of (S6 _ _ ht)) (dp_ints _), .tup (SqT.of hut) (dp_ints _), it_shaped _, it_shaped _, _, rfl, ?_⟩
          rw [eqv_it]
          exact iteF ⟨_, _, _, _, rfl, (S4.trans S5).trans S6⟩
    · rintro σ H2 ⟨v6, v7, v8, v9, rfl, S2⟩
      have A2 := A1.same S2
      obtain ⟨dx, hp⟩ := A2.D.ob
      obtain ⟨xk, hk1, hk2⟩ := A2.hp
      refine ⟨_, rfl, p, dx, _, rfl, hp, rfl, p, d, sa, pa, tn, n, q, st, pd, rfl, A2.D, fun l xs H3 hl S3 hl3 hprs => ?_⟩
      refine ⟨_, rfl, _, _, .lst (SqL.of hl3) (hprs.kt (.of S3)).dp, .lst (SqL.of (S3 _ _ hk1)) (hk2.kt (.of S3)).dp, pts_shaped _, pts_shaped _, _, rfl, ?_⟩
      rw [eqv_pts]
      refine iteT ?_
      refine ⟨_, rfl, p, _, dx, _, _, rfl, S3 _ _ hp, T.c_Drive, T.a_Drive_torn, drF_t d tn sa pa, .bl tn, .ty "bool", _, _, _, rfl, .ty _, (Kd.bl (H := H3) tn).tx, (Kd.bl (H := H3) tn).isi (.inr (.inl rfl)), _, rfl, iteT ?_⟩
      refine ⟨_, rfl, p, _, dx, _, _, rfl, S3 _ _ hp, T.c_Drive, T.a_Drive_torn, drF_t d tn sa pa, _, rfl, kn, _, _, _, rfl, rfl, SqL.of (S3 _ _ A2.hn), atI_nat (j := 4) rfl, rfl, ?_⟩
      rw [decide_eq_true (rfl : V.bl tn = V.bl tn)]
      have S := S2.trans S3
      exact k H3 (B1.same S) (W1.trans (.of S))
end
end Ls

namespace Ls
open PySem PySem.Spec PyProof.Rows L2
/-- two disks alike -/
def EqD (C : Addr) : Addr → Addr → Hp → Prop := fun a b H => ∃ n q, DkAt C H a n q ∧ DkAt C H b n q
theorem kit_self {K : PySem.W.Frag} {C : Addr} : PySem.W.kitOne K (.ref C) (.ref C) = some true := by
  unfold PySem.W.kitOne; rw [if_pos (by simp)]
theorem BoxAt.ne {H : Hp} {b a : Addr} {N : Nat} (B : BoxAt H b N) (h : H a = none) : b ≠ a := by
  obtain ⟨x, c, dd, f, hb, _⟩ := B; exact ne_of_none hb h
theorem BoxAt.upd {H : Hp} {b a : Addr} {N : Nat} {o : HO} (B : BoxAt H b N) (h : b ≠ a) : BoxAt (L2.upd H a o) b N := by
  obtain ⟨x, c, dd, f, hb, r⟩ := B; exact ⟨x, c, dd, f, by rw [upd_ne h]; exact hb, r⟩
theorem Mv.tup {H H' : Hp} {b a : Addr} {N : Nat} {xs : List V} (M : Mv b H H') (B : BoxAt H b N) (h : H a = some (.tup xs)) : H' a = some (.tup xs) := by
  obtain ⟨x, c, dd, f, hb, _⟩ := B
  exact M.k a _ (by rintro rfl; rw [h] at hb; cases hb) h
theorem Mv.dk {H H' : Hp} {b a C : Addr} {N : Nat} {n q : Int} (M : Mv b H H') (B : BoxAt H b N) (h : DkAt C H a n q) : DkAt C H' a n q := by
  obtain ⟨x, c, dd, f, hb, _⟩ := B
  obtain ⟨dx, h⟩ := h
  exact ⟨dx, M.k a _ (by rintro rfl; rw [h] at hb; cases hb) h⟩
theorem Mv.put {H H' : Hp} {b a : Addr} {o : HO} (M : Mv b H H') (h : H a = none) : Mv b H (L2.upd H' a o) :=
  ⟨fun c u n e => by rw [upd_ne (ne_of_none e h)]; exact M.k c u n e, fun c e => M.f c (by rw [← e, upd_ne]; intro z; rw [z, upd_same] at e; cases e)⟩
theorem Pv.there {H : Hp} {a : Addr} (h : Pv H (.ref a)) (e : H a = none) : False := by
  cases h with
  | fl f => cases f
  | tup h1 => rw [h1] at e; cases e
  | lst h1 => rw [h1] at e; cases e
  | dic h1 => rw [h1] at e; cases e
theorem int_inj {cs ds : List Int} (h : cs.map V.int = ds.map V.int) : cs = ds := (List.map_inj_right fun _ _ z => V.int.inj z).mp h
def spBegun (C CD : Addr) : Sp := fun vs H Q _ => ∃ (b z d : Addr) (N : Nat) (n q : Int), vs = [.ref b, .ref z, .ref d] ∧ BoxAt H b N ∧ N ≤ 900000 ∧ H z = some (.tup [.int n, .int q]) ∧ DkAt CD H d n q ∧ (1 ≤ n ∧ n ≤ 24 ∧ 2 ≤ q ∧ q ≤ 64) ∧
  ∀ (kn p pa ks kp : Addr) (tn : Bool) (st : List Int) (H' : Hp), H kn = none → H p = none → H pa = none → H kp = none → KnAt C CD H' kn p d ks pa ks kp z tn n q st [] → BoxAt H' b (N + 40) → Mv b H H' → Q (.ref kn) H'
section
variable {P : Program} {w : World} {K : PySem.W.Frag} {mg : Str → Option Value} {base : Heap} {ad : Nat → Addr} {fd : Nat → FuncData}
theorem ok_Disk___eq (T : Tx K mg ad fd) : FnOk P w K mg base CX0 1 (ad 1701) (fd 1701) ["self", "other"] (spEq (EqD (ad 100017))) := by
  refine T.f_Disk___eq.ok sc_Disk___eq (fun vs H Q E h => ?_) (fun cdv A outer s H vs Q E hr h => ?_)
  · obtain ⟨a, b, rfl, _⟩ := h; rfl
  · obtain ⟨a, b, rfl, ⟨n, q, ⟨da, ha⟩, ⟨db, hb⟩⟩, k⟩ := h
    refine ⟨_, (pss_one (ps_ret (pe_and (pe_callB call_isi (by rfl) T.n_isinstance (by decide +kernel) (pa_cons (pv 1) (pa_cons (pe_glob (v := .ref (ad 100017)) rfl T.g_Disk rfl) pa_nil))) (pe_and (pe_cmpR op_eq (pe_fld (pv 0) rfl) (pe_fld (pv 1) rfl) (nomark _)) (pe_one (pe_cmpR op_eq (pe_fld (pv 0) rfl) (pe_fld (pv 1) rfl) (nomark _))))))), ?_⟩
    refine ⟨_, rfl, .ref b, .ref (ad 100017), _, _, _, rfl, .own _, .base (.ins hb T.c_Disk T.cc_Disk T.gs_cls T.tk_cls T.mr_Disk), kit_self, _, rfl, iteT ?_⟩
    refine ⟨_, rfl, a, _, da, _, _, rfl, ha, T.c_Disk, T.a_Disk_blocks, dkF_b n q, _, rfl, b, _, db, _, _, rfl, hb, T.c_Disk, T.a_Disk_blocks, dkF_b n q, rfl, _, rfl, ?_⟩
    rw [if_pos (decide_eq_true rfl)]
    refine ⟨_, rfl, a, _, da, _, _, rfl, ha, T.c_Disk, T.a_Disk_contents, dkF_c n q, _, rfl, b, _, db, _, _, rfl, hb, T.c_Disk, T.a_Disk_contents, dkF_c n q, rfl, ?_⟩
    rw [decide_eq_true (rfl : V.int q = V.int q)]
    exact k H Ext.rfl'
theorem ok_law_begun (T : Tx K mg ad fd) : FnG P w K mg base CX0 7 (ad 40) (fd 40) ["box", "sizes", "disk"] (spBegun (ad 100022) (ad 100017)) := by
  refine funG T.f_law_begun sc_law_begun (fun vs H Q E h => ?_) (fun cdv A outer s H vs Q E hgd hr h => ?_)
  · obtain ⟨b, z, d, N, n, q, rfl, _⟩ := h; rfl
  · obtain ⟨b, z, d, N, n, q, rfl, B, hN, hz, hd, ⟨n0, n1, q0, q1⟩, k⟩ := h
    refine ⟨_, (pss_cons (ps_asg (pv 1) (pg_tup rfl (pgs_cons (pg_name (i := 3) sc_law_begun.nd rfl (by first | exact Or.inl rfl | exact Or.inr rfl)) (pgs_cons (pg_name (i := 4) sc_law_begun.nd rfl (by first | exact Or.inl rfl | exact Or.inr rfl)) pgs_nil))))
      (pss_cons (ps_par (i := 5) (j := 6) (by rfl) sc_law_begun.nd rfl rfl (by decide) rfl rfl (pa_cons (pe_cmpR op_eq (pe_call (ok_law_take T) (hr.mono (by decide)) rfl T.g_law_take T.f_law_take.kp (b_law_take T) .nil pass0 (pa_cons (pv 0) (pa_cons pe_int pa_nil))) pe_int (nomark _)) (pa_cons (pe_call (ok_law_take T) (hr.mono (by decide)) rfl T.g_law_take T.f_law_take.kp (b_law_take T) .nil pass0 (pa_cons (pv 0) (pa_cons pe_int pa_nil))) pa_nil)) (by rfl))
      (pss_cons (ps_set (i := 7) sc_law_begun.nd rfl (by first | exact Or.inl rfl | exact Or.inr rfl) (pe_callTy call_tuple_of (by rfl) T.n_tuple (by decide +kernel) (pa_cons (pe_lc (own := [("k", 10)]) (g := gName 10) (tt := tYes) rfl sc_law_begun.nd (pi_range1 rfl T.n_range (pa_cons (pv 3) pa_nil)) (blkOk_by (own := [("k", 10)]) (N := ["box", "sizes", "disk", "blocks", "contents", "torn", "way", "filling", "odd", "told", "k"]) (sc := defScope s_law_begun) (by decide +kernel)) (fun _ _ _ _ _ => (pg_name (i := 10) sc_law_begun.nd rfl (by first | exact Or.inl rfl | exact Or.inr rfl))) (fun _ _ _ _ _ => pts_nil) (fun _ _ _ _ _ => (pe_call (ok_law_take T) (hr.mono (by decide)) rfl T.g_law_take T.f_law_take.kp (b_law_take T) .nil pass0 (pa_cons (pv 0) (pa_cons (pv 4) pa_nil))))) pa_nil)))
      (pss_cons (ps_set (i := 8) sc_law_begun.nd rfl (by first | exact Or.inl rfl | exact Or.inr rfl) (pe_call (ok_law_odd T) (hr.mono (by decide)) rfl T.g_law_odd_filling T.f_law_odd_filling.kp (b_law_odd_filling T) .nil pass0 (pa_cons (pe_call (ok_law_take T) (hr.mono (by decide)) rfl T.g_law_take T.f_law_take.kp (b_law_take T) .nil pass0 (pa_cons (pv 0) (pa_cons pe_int pa_nil))) (pa_cons (pe_call (ok_law_take T) (hr.mono (by decide)) rfl T.g_law_take T.f_law_take.kp (b_law_take T) .nil pass0 (pa_cons (pv 0) (pa_cons (pv 3) pa_nil))) (pa_cons (pv 7) (pa_cons (pv 4) (pa_cons (pe_op op_add pe_int (pe_call (ok_law_take T) (hr.mono (by decide)) rfl T.g_law_take T.f_law_take.kp (b_law_take T) .nil pass0 (pa_cons (pv 0) (pa_cons pe_int pa_nil)))) pa_nil)))))))
      (pss_cons (ps_if (pt_not (pt_val (pe_callG (ok_law_same T) hgd (hr.mono (by decide)) rfl T.g_law_same T.f_law_same.kp (b_law_same T) .nil pass0 (pa_cons (pe_call (ok_law_opened T) (hr.mono (by decide)) rfl T.g_law_opened T.f_law_opened.kp (b_law_opened T) .nil pass0 (pa_cons (pv 6) (pa_cons (pv 2) (pa_cons (pv 8) (pa_cons (pv 5) pa_nil))))) (pa_cons pe_str (pa_cons (pv 8) pa_nil))))))
        (pss_one (ps_ret pe_non))
        pss_nil)
      (pss_cons (ps_set (i := 9) sc_law_begun.nd rfl (by first | exact Or.inl rfl | exact Or.inr rfl) (pe_call (ok_law_opened T) (hr.mono (by decide)) rfl T.g_law_opened T.f_law_opened.kp (b_law_opened T) .nil pass0 (pa_cons (pv 6) (pa_cons (pv 2) (pa_cons (pv 7) (pa_cons (pv 5) pa_nil))))))
      (pss_cons (ps_if (PW.pt (pw_or (pt_cmpR op_ne (pe_ix ix_list (pv 9) pe_int (fun _ _ => rfl)) pe_str (nomark _)) (pw_or1 (pt_not (pt_cmpR (op_eqG (rcG_ins (ok_Disk___eq T) T.q_Disk T.qf_Disk (b_Disk___eq T) (E := E0) pass0) (hr.mono (by decide))) (pe_fld (pe_ix ix_list (pv 9) pe_int (fun _ _ => rfl)) rfl) (pe_make T.k_Disk (ok_Disk___init T) (hr.mono (by decide)) rfl T.g_Disk (b_Disk___init T) .nil pass0 (pa_cons (pv 3) (pa_cons (pv 4) pa_nil))) (nomark _))))))
        (pss_one (ps_ret pe_non))
        pss_nil)
      (pss_one (ps_ret (pe_lst (pa_cons (pe_ix ix_list (pv 9) pe_int (fun _ _ => rfl)) (pa_cons (pv 7) (pa_cons (pe_lst pa_nil) (pa_cons (pv 1) (pa_cons (pv 5) pa_nil))))))))))))))), ?_⟩
    refine ⟨_, rfl, z, _, rfl, SqT.of hz, rfl, _, _, rfl, _, _, rfl, rfl, ?_⟩
    refine ⟨_, rfl, b, N, 2, rfl, B, by omega, by decide, by decide, fun x1 H1 _ _ B1 M1 F1 => ⟨rfl, _, rfl, b, N + 1, 3, rfl, B1, by omega, by decide, by decide, fun way H2 w0 w1 B2 M2 F2 => ⟨_, _, rfl, ?_⟩⟩⟩
    generalize decide (V.int x1 = V.int 0) = tn
    have W2 := (Mv.mk M1 F1).trans ⟨M2, F2⟩
    refine ⟨_, rfl, n, rfl, by omega, by omega, fun D1 hD1 => lc_range (fun i H' => ∃ cs : List Int, cs.length = i ∧ H' D1 = some (.lst (cs.map V.int)) ∧ (∀ c ∈ cs, 0 ≤ c ∧ c < q) ∧ BoxAt H' b (N + 2 + i) ∧ Mv b H2 H')
      ⟨[], rfl, upd_same, fun c h => (by cases h), B2.upd (B2.ne hD1), .new hD1⟩ ?_ ?_⟩
    · rintro i H' hi ⟨cs, hcl, hc1, hc2, Bi, Mi⟩
      refine ⟨rfl, ?_⟩
      unfold tYes; refine iteT ?_
      refine ⟨_, rfl, _, rfl, b, N + 2 + i, q, rfl, Bi, by omega, by omega, by omega, fun c H4 c0 c1 B4 M4 F4 => ?_⟩
      have hD4 := M4 _ _ (B2.ne hD1).symm hc1
      refine ⟨_, hD4, ?_, cs ++ [c], by rw [List.length_append, hcl]; rfl, ?_, fun x hx => ?_, B4.upd (B2.ne hD1), (Mi.trans ⟨M4, F4⟩).put hD1⟩
      · rw [List.length_map]; exact small1000 (by omega)
      · rw [upd_same, List.map_append]; rfl
      · rcases List.mem_append.mp hx with z | z
        · exact hc2 x z
        · rw [List.mem_singleton.mp z]; exact ⟨c0, c1⟩
    · rintro H4 ⟨cs, hcl, hc1, hrg, B4, M24⟩
      have W4 := W2.trans M24
      have hcn : (cs.length : Int) = n := by omega
      have hn24 : N + 2 + n.toNat ≤ N + 26 := by omega
      have B4 := B4.mono hn24
      refine ⟨D1, _, rfl, .inl ⟨SqL.of hc1, fun lf hlf => ?_⟩⟩
      obtain ⟨H5, e5⟩ : ∃ X, X = upd H4 lf (.tup (cs.map V.int)) := ⟨_, rfl⟩
      rw [← e5]
      have s5 : Same H4 H5 := e5 ▸ same_new hlf
      have g5 : H5 lf = some (.tup (cs.map V.int)) := by rw [e5]; exact upd_same
      clear e5
      have B5 := B4.same s5
      have W5 := W4.trans (.of s5)
      refine ⟨_, rfl, b, N + 26, 18, rfl, B5, by omega, by decide, by decide, fun w6 H6 w60 w61 B6 M6 F6 => ?_⟩
      refine ⟨_, rfl, _, rfl, b, N + 27, n, rfl, B6, by omega, by omega, by omega, fun a7 H7 a70 a71 B7 M7 F7 => ?_⟩
      refine ⟨_, rfl, _, rfl, _, rfl, b, N + 28, 1000, rfl, B7, by omega, by decide, by decide, fun m8 H8 m80 m81 B8 M8 F8 => ⟨_, _, rfl, rfl, ?_⟩⟩
      have M58 := ((Mv.mk M6 F6).trans ⟨M7, F7⟩).trans ⟨M8, F8⟩
      have W8 := W5.trans M58
      have g8 := M58.tup B5 g5
      refine ⟨w6, a7, q, 1 + m8, lf, cs, rfl, g8, w60, w61, a70, by omega, by omega, hrg, q0, q1, by omega, by omega, fun odd H9 s9 O => ?_⟩
      have B9 := B8.same s9
      have W9 := W8.trans (.of s9)
      obtain ⟨U, kd⟩ := O.p.kd
      have hd9 := W9.dk B hd
      refine ⟨_, rfl, _, rfl, _, rfl, _, rfl, way, d, odd, U, tn, n, q, rfl, hd9, ⟨n0, n1, q0, q1⟩, kd, O.p.kdt, fun _ l H10 hl hl10 s10 => ?_, fun a cs2 ev ha hl2 hr2 => ?_⟩
      case refine_2 =>
        exfalso
        subst ev
        have := filB_is ha hl2 hr2
        rw [← hcn, O.f] at this; cases this
      have nol : odd ≠ .ref l := fun e => by have := O.p; rw [e] at this; exact this.there hl
      refine ⟨_, rfl, l, "filling", odd, rfl, hl10, O.p.same s10, nol, fun H11 kp => ⟨_, rfl, iteF ?_⟩⟩
      have K8 : Same H8 H11 := fun a o e => kp.1 a o (fun ev => by have := O.n a ev; rw [e] at this; cases this) (s10 _ _ (s9 _ _ e))
      have W11 := W8.trans (.of K8)
      have B11 := B8.same K8
      have g11 := K8 _ _ g8
      have hd11 := W11.dk B hd
      clear hl10 nol kp s10 hl O kd hd9 W9 B9 s9
      refine ⟨_, rfl, _, rfl, _, rfl, _, rfl, way, d, .ref lf, "tuple", tn, n, q, rfl, hd11, ⟨n0, n1, q0, q1⟩, .tup g11, fun a xs e hx => ?_, fun e => ?_, fun a cs2 ev ha hl2 hr2 l p pa H12 hl hp hpa npa nlp nlpa hl12 D S => ?_⟩
      · cases e; rw [g11] at hx; cases hx
        exact ⟨fun x hx => by obtain ⟨c, _, rfl⟩ := List.mem_map.mp hx; exact ⟨_, .int c⟩, by rw [List.length_map]; omega⟩
      · exfalso; rw [filB_is g11 hcn hrg] at e; cases e
      cases ev
      rw [g11] at ha
      have ecs : cs2 = cs := int_inj (by injection ha with z; injection z with z; exact z.symm)
      subst ecs
      clear ha hl2 hr2
      have W12 := W11.trans (.of S)
      obtain ⟨dx, hp12⟩ := D.ob
      refine ⟨_, rfl, l, _, _, _, rfl, rfl, SqL.of hl12, atI_nat (j := 0) rfl, rfl, _, rfl, ?_⟩
      refine iteF ?_
      refine ⟨_, rfl, l, _, _, _, rfl, rfl, SqL.of hl12, atI_nat (j := 1) rfl, p, _, dx, _, _, rfl, hp12, T.c_Drive, T.a_Drive_disk, drF_d d tn lf pa, _, rfl, _, rfl, fun y dy hy hdy nyd => ?_⟩
      refine ⟨y, dy, n, q, rfl, upd_same, n0, n1, q0, q1, fun H13 D13 Bt => ⟨rfl, ?_⟩⟩
      have S13 : Same H12 H13 := fun a o e => Bt a o (ne_of_none e hy) (by rw [upd_ne (ne_of_none e hy), upd_ne (ne_of_none e hdy)]; exact e)
      obtain ⟨ddx, hdd⟩ := D.dk
      obtain ⟨ydx, hyd⟩ := D13
      refine ⟨⟨d, y, ddx, ydx, _, _, rfl, rfl, S13 _ _ hdd, hyd, n, q, ⟨ddx, S13 _ _ hdd⟩, ⟨ydx, hyd⟩⟩, fun H14 e14 => ⟨_, rfl, iteF ?_⟩⟩
      have S14 : Same H12 H14 := fun a o e => e14 a o (S13 a o e)
      have z0 : 0 ≤ sizeLine := by decide
      have z5 : 5 ≤ sizeLine := by decide
      refine ⟨_, rfl, l, _, _, _, rfl, rfl, SqL.of (S14 _ _ hl12), atI_nat (j := 1) rfl, _, rfl, z0, fun kp hkp => ⟨_, rfl, _, rfl, z5, fun kn hkn => ?_⟩⟩
      have S15 := S14.trans (same_new (o := .lst []) hkp)
      have S16 := S15.trans (same_new (o := .lst [.ref p, .ref lf, .ref kp, .ref z, .bl tn]) hkn)
      have D16 := D.same S16
      obtain ⟨xs, hpe, _⟩ := D.pe
      have hz12 := W12.tup B hz
      exact k kn p pa lf kp tn cs2 _ (W12.f _ (S15.free hkn)) (W11.f _ hp) (W11.f _ hpa) (W12.f _ (S14.free hkp))
        ⟨D16, upd_same, S16 _ _ (S _ _ g11), ⟨[], by rw [upd_ne fun e => (by rw [← e, upd_same] at hkn; cases hkn)]; exact upd_same, .nil⟩, S16 _ _ hz12, (ne_of_none (S14 _ _ hpe) hkp).symm, (ne_of_none (S15 _ _ hpe) hkn).symm, fun e => by rw [e, upd_same] at hkn; cases hkn⟩
        (((B11.same S).same S16).mono (by omega)) (W12.trans (.of S16))
end
end Ls

namespace Ls
open PySem PySem.Spec PyProof.Rows L2
/-- only what stands at the addresses of S is changed; nothing goes -/
structure Fr (S : List Addr) (H H' : Hp) : Prop where
  k : ∀ a o, a ∉ S → H a = some o → H' a = some o
  f : ∀ a, H' a = none → H a = none
theorem Fr.trans {S : List Addr} {H H1 H2 : Hp} (x : Fr S H H1) (y : Fr S H1 H2) : Fr S H H2 := ⟨fun a o n e => y.k a o n (x.k a o n e), fun a e => x.f a (y.f a e)⟩
theorem Fr.of {S : List Addr} {H H' : Hp} (x : Same H H') : Fr S H H' := ⟨fun a o _ e => x a o e, fun a e => x.free e⟩
theorem Fr.mv {S : List Addr} {b : Addr} {H H' : Hp} (x : Mv b H H') (h : b ∈ S) : Fr S H H' := ⟨fun a o n e => x.k a o (fun z => n (z ▸ h)) e, x.f⟩
theorem Fr.but {S : List Addr} {b : Addr} {H H' : Hp} (x : But b H H') (hb : H' b ≠ none) (h : b ∈ S) : Fr S H H' := ⟨fun a o n e => x a o (fun z => n (z ▸ h)) e, fun a e => x.free hb e⟩
theorem Fr.put {S : List Addr} {b : Addr} {H : Hp} {o : HO} (h : b ∈ S) : Fr S H (upd H b o) ∨ H b = none := by
  cases e : H b with
  | none => exact .inr rfl
  | some u => exact .inl ⟨fun a v n e' => by rw [upd_ne fun z => n (by rw [z]; exact h)]; exact e', fun a e' => by rw [← e', upd_ne]; intro z; rw [z, upd_same] at e'; cases e'⟩
theorem funGn {P : Program} {w : World} {K : PySem.W.Frag} {mg : Str → Option Value} {base : Heap} {k : Nat} {f : Addr} {fd : FuncData} {ps Ns : List Str} {sp : Sp} {x qual : Str} {st : Stmt} (F : Fun K x qual st f fd) (S : FnScope Ns ps (defScope st)) (len : ∀ vs H Q E, sp vs H Q E → vs.length = ps.length)
    (body : ∀ (cdv : Value) (A : Around) (outer : List Env) (s : Shared) (H : Hp) (vs : List V) (Q : VK) (E : XK), A.guards = some [] → Room k (A.deeper (envOfC qual (defScope st) s.heap.objs.size f cdv)) → sp vs H Q E →
      ∃ t, PSs (cxOf CX0 P w K mg base Ns qual (defScope st) f cdv A outer s H E).nox (defBody st) t ∧ t { nx := fun _ H' => Q .non H', rt := Q } (start Ns vs) H) : FnG P w K mg base CX0 (k + 1) f fd ps sp :=
  funG F S len fun cdv A outer s H vs Q E hg hr hsp => by
    obtain ⟨t, h, q⟩ := body cdv A outer s H vs Q E hg hr hsp
    exact ⟨t, h.nox, q⟩
/-- a list changes that the drive has nothing to do with -/
theorem DrAt.but {C CD : Addr} {H H' : Hp} {x p d sa pa : Addr} {ys : List V} {tn : Bool} {n q : Int} {st : List Int} {pd : List (Int × Int)} (D : DrAt C CD H p d sa pa tn n q st pd) (hx : H x = some (.lst ys)) (nx : pa ≠ x) (M : But x H H') : DrAt C CD H' p d sa pa tn n q st pd := by
  obtain ⟨⟨dx, h1⟩, ⟨dy, h2⟩, h3, ⟨xs, h4, h5⟩, h6, h7, h8, h9, h10⟩ := D
  have ne : ∀ a o, H a = some o → (∀ ys, o ≠ .lst ys) → H' a = some o := fun a o h g => M a o (by rintro rfl; rw [h] at hx; exact g _ (Option.some.inj hx)) h
  exact ⟨⟨dx, ne _ _ h1 (by intro _ z; cases z)⟩, ⟨dy, ne _ _ h2 (by intro _ z; cases z)⟩, ne _ _ h3 (by intro _ z; cases z), ⟨xs, M _ _ nx h4, h5.kt fun a ts h => ne _ _ h (by intro _ z; cases z)⟩, h6, h7, h8, h9, h10⟩
theorem But.kt {x : Addr} {H H' : Hp} {ys : List V} (hx : H x = some (.lst ys)) (M : But x H H') : KT H H' := fun a ts h => M a _ (by rintro rfl; rw [h] at hx; cases hx) h
theorem BoxAt.but {x b : Addr} {H H' : Hp} {N : Nat} (B : BoxAt H b N) (n : b ≠ x) (M : But x H H') : BoxAt H' b N := by
  obtain ⟨y, c, dd, f, hb, r⟩ := B; exact ⟨y, c, dd, f, M _ _ n hb, r⟩
theorem done_shaped (i : Int) : SeqAt.shaped (.list [.str "done", .int i]) = true := by
  have e : PyData.canLay0 (.str "done") = true := by decide +kernel
  show ((PyData.canLay0 (.str "done") && (true && true)) && decide (max 0 (max 0 0) + 1 ≤ 64)) = true
  rw [e]; rfl
theorem eqv_done {v : PyData} : PyData.eqv v v = true → PyData.eqv (.list [.str "done", v]) (.list [.str "done", v]) = true := by
  intro h
  show (PyData.eqv (.str "done") (.str "done") && (PyData.eqv v v && true)) = true
  rw [h]; rfl
def spTurn (C CD : Addr) : Sp := fun vs H Q _ => ∃ (b kn p d sa pa ks kp kz : Addr) (N : Nat) (tn : Bool) (n q : Int) (st : List Int) (pd : List (Int × Int)), vs = [.ref b, .ref kn] ∧ BoxAt H b N ∧ N ≤ 800000 ∧ KnAt C CD H kn p d sa pa ks kp kz tn n q st pd ∧ pd.length ≤ 800 ∧
  ∀ (sa' pa' ks' kp' : Addr) (st' : List Int) (pd' : List (Int × Int)) (H' : Hp), KnAt C CD H' kn p d sa' pa' ks' kp' kz tn n q st' pd' → pd'.length ≤ pd.length + 1 → (pa' = pa ∨ H pa' = none) → (kp' = kp ∨ H kp' = none) → BoxAt H' b (N + 60) → Fr [b, kn, kp, p, pa] H H' → Q (.bl true) H'
section
variable {P : Program} {w : World} {K : PySem.W.Frag} {mg : Str → Option Value} {base : Heap} {ad : Nat → Addr} {fd : Nat → FuncData}
theorem ok_law_turn (T : Tx K mg ad fd) : FnG P w K mg base CX0 8 (ad 39) (fd 39) ["box", "known"] (spTurn (ad 100022) (ad 100017)) := by
  refine funGn T.f_law_turn sc_law_turn (fun vs H Q E h => ?_) (fun cdv A outer s H vs Q E hgd hr h => ?_)
  · obtain ⟨b, kn, p, d, sa, pa, ks, kp, kz, N, tn, n, q, st, pd, rfl, _⟩ := h; rfl
  · obtain ⟨b, kn, p, d, sa, pa, ks, kp, kz, N, tn, n, q, st, pd, rfl, B, hN, A0, hl8, k⟩ := h
    refine ⟨_, (pss_cons (ps_par3 (i := 2) (j := 3) (l := 4) (by rfl) sc_law_turn.nd rfl rfl rfl (by decide) (by decide) (by decide) rfl rfl rfl (pa_cons (pe_call (ok_law_take T) (hr.mono (by decide)) rfl T.g_law_take T.f_law_take.kp (b_law_take T) .nil pass0 (pa_cons (pv 0) (pa_cons pe_int pa_nil))) (pa_cons (pe_cmpR op_eq (pe_call (ok_law_take T) (hr.mono (by decide)) rfl T.g_law_take T.f_law_take.kp (b_law_take T) .nil pass0 (pa_cons (pv 0) (pa_cons pe_int pa_nil))) pe_int (nomark _)) (pa_cons (pe_ix ix_list (pv 1) pe_int (fun _ _ => rfl)) pa_nil))) (by rfl))
      (pss_cons (ps_if (pt_cmpR op_gt (pv 2) pe_int (nomark _))
        (pss_cons (ps_set (i := 5) sc_law_turn.nd rfl (by first | exact Or.inl rfl | exact Or.inr rfl) (pe_ifExp (pt_cmpR op_eq (pv 2) pe_int (nomark _)) (pe_call (ok_law_refused_write T) (hr.mono (by decide)) rfl T.g_law_refused_write T.f_law_refused_write.kp (b_law_refused_write T) .nil pass0 (pa_cons (pv 0) (pa_cons (pv 1) pa_nil))) (pe_call (ok_law_refused_cut T) (hr.mono (by decide)) rfl T.g_law_refused_cut T.f_law_refused_cut.kp (b_law_refused_cut T) .nil pass0 (pa_cons (pv 0) (pa_cons (pv 1) pa_nil)))))
      (pss_cons (ps_if (pt_cmpR op_isN (pv 5) pe_non (nomark _))
        (pss_one (ps_ret pe_bl))
        pss_nil)
      (pss_one (ps_ret (pe_callG (ok_law_same T) hgd (hr.mono (by decide)) rfl T.g_law_same T.f_law_same.kp (b_law_same T) .nil pass0 (pa_cons (pe_call (ok_law_told T) (hr.mono (by decide)) rfl T.g_law_told T.f_law_told.kp (b_law_told T) .nil pass0 (pa_cons (pv 4) (pa_cons (pe_ix ix_tup (pv 5) pe_int (fun _ _ => rfl)) (pa_cons (pv 3) pa_nil)))) (pa_cons (pe_ix ix_tup (pv 5) pe_int (fun _ _ => rfl)) (pa_cons (pe_ix ix_tup (pv 5) pe_int (fun _ _ => rfl)) pa_nil))))))))
        pss_nil)
      (pss_cons (ps_if (pt_cmpR op_eq (pv 2) pe_int (nomark _))
        (pss_cons (ps_set (i := 6) sc_law_turn.nd rfl (by first | exact Or.inl rfl | exact Or.inr rfl) (pe_lst pa_nil))
      (pss_cons (ps_for PassesOwn.never rfl (pi_range1 rfl T.n_range (pa_cons (pe_ix ix_tup (pe_ix ix_list (pv 1) pe_int (fun _ _ => rfl)) pe_int (fun _ _ => rfl)) pa_nil)) (pg_name (i := 7) sc_law_turn.nd rfl (by first | exact Or.inl rfl | exact Or.inr rfl))
        (pss_cons (ps_set (i := 8) sc_law_turn.nd rfl (by first | exact Or.inl rfl | exact Or.inr rfl) (pe_call (ok_law_menu T) (hr.mono (by decide)) rfl T.g_law_menu T.f_law_menu.kp (b_law_menu T) .nil pass0 (pa_cons (pv 1) (pa_cons (pv 7) pa_nil))))
      (pss_one (ps_expr (pe_bm PySem.F.plainAttrs_list PySem.F.slot_list_append PySem.F.type_list_append mt_append (pv 6) (pa_cons (pe_ix ix_list (pv 8) (pe_call (ok_law_take T) (hr.mono (by decide)) rfl T.g_law_take T.f_law_take.kp (b_law_take T) .nil pass0 (pa_cons (pv 0) (pa_cons (pe_callB call_len_seq (by rfl) T.n_len (by decide +kernel) (pa_cons (pv 8) pa_nil)) pa_nil))) (fun _ _ => rfl)) pa_nil))))))
      (pss_cons (ps_asg (pe_tup (pa_cons (pe_callTy call_tuple_of (by rfl) T.n_tuple (by decide +kernel) (pa_cons (pv 6) pa_nil)) (pa_cons (pe_lst pa_nil) pa_nil))) (pg_tup rfl (pgs_cons (pg_sub (pv 1) pe_int set_list) (pgs_cons (pg_sub (pv 1) pe_int set_list) pgs_nil))))
      (pss_one (ps_ret (pe_cmpR (op_eqD hr.units) (pe_call (ok_law_told T) (hr.mono (by decide)) rfl T.g_law_told T.f_law_told.kp (b_law_told T) .nil pass0 (pa_cons (pv 4) (pa_cons (pe_tup (pa_cons pe_str (pa_cons (pe_callTy call_tuple_of (by rfl) T.n_tuple (by decide +kernel) (pa_cons (pv 6) pa_nil)) pa_nil))) (pa_cons (pv 3) pa_nil)))) (pe_lst (pa_cons pe_str (pa_cons pe_non pa_nil))) (nomark _)))))))
        pss_nil)
      (pss_cons (ps_if (pt_cmpR op_gt (pv 2) pe_int (nomark _))
        (pss_cons (ps_set (i := 9) sc_law_turn.nd rfl (by first | exact Or.inl rfl | exact Or.inr rfl) (pe_callB call_len_seq (by rfl) T.n_len (by decide +kernel) (pa_cons (pe_ix ix_list (pv 1) pe_int (fun _ _ => rfl)) pa_nil)))
      (pss_cons (ps_asg (pe_tup (pa_cons (pe_call (ok_law_put T) (hr.mono (by decide)) rfl T.g_law_put T.f_law_put.kp (b_law_put T) .nil pass0 (pa_cons (pe_ix ix_list (pv 1) pe_int (fun _ _ => rfl)) (pa_cons (pe_ix ix_list (pv 1) pe_int (fun _ _ => rfl)) pa_nil))) (pa_cons (pe_lst pa_nil) pa_nil))) (pg_tup rfl (pgs_cons (pg_sub (pv 1) pe_int set_list) (pgs_cons (pg_sub (pv 1) pe_int set_list) pgs_nil))))
      (pss_cons (ps_set (i := 10) sc_law_turn.nd rfl (by first | exact Or.inl rfl | exact Or.inr rfl) (pe_call (ok_law_told T) (hr.mono (by decide)) rfl T.g_law_told T.f_law_told.kp (b_law_told T) .nil pass0 (pa_cons (pv 4) (pa_cons (pe_tup (pa_cons pe_str pa_nil)) (pa_cons (pv 3) pa_nil)))))
      (pss_one (ps_ret (pe_and (pe_cmpR (op_eqD hr.units) (pv 10) (pe_lst (pa_cons pe_str (pa_cons (pv 9) pa_nil))) (nomark _)) (pe_one (pe_not (pe_callB call_isi (by rfl) T.n_isinstance (by decide +kernel) (pa_cons (pe_ix ix_list (pv 10) pe_int (fun _ _ => rfl)) (pa_cons (pe_bltn (v := .ty "bool") (by rfl) T.n_bool (by decide +kernel) rfl) pa_nil)))))))))))
        pss_nil)
      (pss_cons (ps_set (i := 11) sc_law_turn.nd rfl (by first | exact Or.inl rfl | exact Or.inr rfl) (pe_call (ok_law_write T) (hr.mono (by decide)) rfl T.g_law_write T.f_law_write.kp (b_law_write T) .nil pass0 (pa_cons (pv 0) (pa_cons (pv 1) pa_nil))))
      (pss_cons (ps_expr (pe_bm PySem.F.plainAttrs_list PySem.F.slot_list_append PySem.F.type_list_append mt_append (pe_ix ix_list (pv 1) pe_int (fun _ _ => rfl)) (pa_cons (pe_tup (pa_cons (pe_ix ix_tup (pv 11) pe_int (fun _ _ => rfl)) (pa_cons (pe_ix ix_tup (pv 11) pe_int (fun _ _ => rfl)) pa_nil))) pa_nil)))
      (pss_one (ps_ret (pe_cmpR (op_eqD hr.units) (pe_call (ok_law_told T) (hr.mono (by decide)) rfl T.g_law_told T.f_law_told.kp (b_law_told T) .nil pass0 (pa_cons (pv 4) (pa_cons (pv 11) (pa_cons (pv 3) pa_nil)))) (pe_lst (pa_cons pe_str (pa_cons pe_non pa_nil))) (nomark _)))))))))), ?_⟩
    obtain ⟨n0, n1, q0, q1⟩ := A0.bn
    refine ⟨_, rfl, b, N, 12, rfl, B, by omega, by decide, by decide, fun way H1 w0 w1 B1 M1 F1 => ?_⟩
    refine ⟨_, rfl, b, N + 1, 2, rfl, B1, by omega, by decide, by decide, fun x2 H2 _ _ B2 M2 F2 => ⟨rfl, ?_⟩⟩
    have A2 := (A0.mv B M1).mv B1 M2
    have W2 := (Mv.mk M1 F1).trans ⟨M2, F2⟩
    refine ⟨_, rfl, kn, _, _, _, rfl, rfl, SqL.of A2.hn, atI_nat (j := 0) rfl, _, _, _, rfl, ?_⟩
    generalize decide (V.int x2 = V.int 0) = nm
    refine ⟨_, rfl, _, _, rfl, rfl, _, rfl, ?_⟩
    have tail : ∀ (odd : V) (H3 H4 H5 : Hp), (∀ a, odd = .ref a → H2 a = none) → BoxAt H3 b (N + 8) → Mv b H2 H3 → Same H3 H4 → Kp odd H4 H5 → Q (.bl true) H5 := by
      intro odd H3 H4 H5 fresh B3 M3 S4 kq
      have K25 : But b H2 H5 := fun a o n e => kq.1 a o (fun ev => by rw [fresh a ev] at e; cases e) (S4 _ _ (M3.k a o n e))
      have F25 : ∀ a, H5 a = none → H2 a = none := fun a e => M3.f a (S4.free (kq.2 a e))
      have B5 : BoxAt H5 b (N + 8) := by
        obtain ⟨x, c, dd, f, hb2, _⟩ := id B2
        obtain ⟨x, c, dd, f, hb, r⟩ := B3
        exact ⟨x, c, dd, f, kq.1 b _ (fun ev => by rw [fresh b ev] at hb2; cases hb2) (S4 _ _ hb), r⟩
      exact k sa pa ks kp st pd H5 (A2.mv B2 K25) (Nat.le_succ _) (.inl rfl) (.inl rfl) (B5.mono (by omega)) (.mv (W2.trans ⟨K25, F25⟩) (List.mem_cons_self ..))
    refine ite2 (fun c => ?_) (fun c => ?_)
    · -- refused
      refine ⟨_, rfl, rfl, _, rfl, ?_⟩
      refine ite2 (fun c2 => ?_) (fun c2 => ?_)
      · refine ⟨_, rfl, _, rfl, b, kn, p, d, sa, pa, ks, kp, kz, N + 2, tn, n, q, st, pd, rfl, B2, by omega, A2, fun row t v1 v2 odd x H3 hrow ht hrow3 ht3 pv fresh pv1 pv2 cs B3 M3 => ?_⟩
        refine ⟨_, rfl, rfl, _, rfl, ?_⟩
        rw [show decide (V.ref row = V.non) = false from decide_eq_false (by intro z; cases z)]
        refine iteF ?_
        obtain ⟨U1, kd1⟩ := pv1.kd
        obtain ⟨U2, kd2⟩ := pv2.kd
        have fin : ∀ (l : Addr) (H4 : Hp), H3 l = none → H4 l = some (.lst [.str x, odd]) → Same H3 H4 → spSame [.ref l, .str x, odd] H4 Q E0 := fun l H4 hl h4 S =>
          ⟨l, x, odd, rfl, h4, pv.same S, fun e => by rw [e] at pv; exact pv.there hl, fun H5 kq => tail odd H3 H4 H5 fresh B3 M3 S kq⟩
        have ix : ∀ {H4 : Hp} (S : Same H3 H4), SqT K H4 row [.ref t, .str x, odd] := fun S => SqT.of (S _ _ hrow3)
        refine ⟨_, rfl, _, rfl, row, _, _, _, rfl, rfl, SqT.of hrow3, atI_nat (j := 0) rfl, _, rfl, p, d, sa, pa, tn, n, q, st, pd, t, .write v1 v2, nm, rfl, (A2.mv B2 M3.k).D, ht3, by omega, U1, U2, kd1, kd2, fun e l H4 hl h4 S => ?_, fun e1 e2 l H4 hl h4 S => ?_, fun bk c ev1 ev2 b0 b1 c0 c1 => ?_⟩
        · rcases cs with ⟨ex, eo, _⟩ | ⟨_, _, e1, _⟩
          · subst ex eo
            exact ⟨_, rfl, row, _, _, _, rfl, rfl, ix S, atI_nat (j := 1) rfl, _, rfl, row, _, _, _, rfl, rfl, ix S, atI_nat (j := 2) rfl, fin l H4 hl h4 S⟩
          · rw [e1] at e; cases e
        · rcases cs with ⟨_, _, e3⟩ | ⟨ex, eo, _, _⟩
          · rw [e3] at e1; cases e1
          · subst ex eo
            exact ⟨_, rfl, row, _, _, _, rfl, rfl, ix S, atI_nat (j := 1) rfl, _, rfl, row, _, _, _, rfl, rfl, ix S, atI_nat (j := 2) rfl, fin l H4 hl h4 S⟩
        · exfalso
          subst ev1 ev2
          rcases cs with ⟨_, _, e3⟩ | ⟨_, _, _, e3⟩
          · rw [inR_in b0 (by omega)] at e3; cases e3
          · rw [inR_in c0 (by omega)] at e3; cases e3
      · refine ⟨_, rfl, _, rfl, b, kn, p, d, sa, pa, ks, kp, kz, N + 2, tn, n, q, st, pd, rfl, B2, by omega, A2, by omega, fun H3 B3 M3 => ?_, fun row t v x H3 hrow ht hrow3 ht3 pv fresh cs B3 M3 => ?_⟩
        · refine ⟨_, rfl, rfl, _, rfl, ?_⟩
          rw [decide_eq_true (rfl : V.non = V.non)]
          exact iteT (tail .non H3 H3 H3 (fun a e => by cases e) B3 M3 (Same.refl _) ⟨fun a o _ e => e, fun a e => e⟩)
        · refine ⟨_, rfl, rfl, _, rfl, ?_⟩
          rw [show decide (V.ref row = V.non) = false from decide_eq_false (by intro z; cases z)]
          refine iteF ?_
          obtain ⟨U1, kd1⟩ := pv.kd
          have fin : ∀ (l : Addr) (H4 : Hp), H3 l = none → H4 l = some (.lst [.str x, v]) → Same H3 H4 → spSame [.ref l, .str x, v] H4 Q E0 := fun l H4 hl h4 S =>
            ⟨l, x, v, rfl, h4, pv.same S, fun e => by rw [e] at pv; exact pv.there hl, fun H5 kq => tail v H3 H4 H5 fresh B3 M3 S kq⟩
          have ix : ∀ {H4 : Hp} (S : Same H3 H4), SqT K H4 row [.ref t, .str x, v] := fun S => SqT.of (S _ _ hrow3)
          refine ⟨_, rfl, _, rfl, row, _, _, _, rfl, rfl, SqT.of hrow3, atI_nat (j := 0) rfl, _, rfl, p, d, sa, pa, tn, n, q, st, pd, t, .cut v, nm, rfl, (A2.mv B2 M3.k).D, ht3, by omega, U1, kd1, pv.kdt, fun e l H4 hl h4 S => ?_, fun a cs2 ev ha hl2 hr2 => ⟨fun e l H4 hl h4 S => ?_, fun e => ?_⟩⟩
          · rcases cs with ⟨ex, _⟩ | ⟨_, a, cs2, ev, ha, hl2, hr2, _⟩
            · subst ex
              exact ⟨_, rfl, row, _, _, _, rfl, rfl, ix S, atI_nat (j := 1) rfl, _, rfl, row, _, _, _, rfl, rfl, ix S, atI_nat (j := 2) rfl, fin l H4 hl h4 S⟩
            · exfalso; rw [ev, filB_is ha (by have := A2.D.ls; omega) hr2] at e; cases e
          · rcases cs with ⟨_, e3⟩ | ⟨ex, _⟩
            · exfalso; rw [ev, filB_is ha (by have := A2.D.ls; omega) hr2] at e3; cases e3
            · subst ex
              exact ⟨_, rfl, row, _, _, _, rfl, rfl, ix S, atI_nat (j := 1) rfl, _, rfl, row, _, _, _, rfl, rfl, ix S, atI_nat (j := 2) rfl, fin l H4 hl h4 S⟩
          · exfalso
            rcases cs with ⟨_, e3⟩ | ⟨_, a3, cs3, ev3, ha3, _, _, hno⟩
            · rw [ev, filB_is ha (by have := A2.D.ls; omega) hr2] at e3; cases e3
            · rw [ev3] at ev; cases ev
              rw [ha3] at ha
              have : cs3 = cs2 := int_inj (by injection ha with z; injection z)
              exact hno (this ▸ e)
    · refine ⟨_, rfl, rfl, _, rfl, ?_⟩
      refine ite2 (fun c2 => ?_) (fun c2 => ?_)
      · have z0 : 0 ≤ sizeLine := by decide
        have z2 : 2 ≤ sizeLine := by decide
        have hls := A2.D.ls
        refine ⟨z0, fun e0 he0 => ?_⟩
        have se := same_new (o := .lst []) he0
        refine ⟨_, rfl, kn, _, _, _, rfl, rfl, SqL.of (se _ _ A2.hn), atI_nat (j := 3) rfl, kz, _, _, _, rfl, rfl, SqT.of (se _ _ A2.hz), atI_nat (j := 0) rfl, n, rfl, by omega, by omega,
          for_range (n := n.toNat) (fun i σ H' => ∃ v7 v8, ∃ cs : List Int, σ = [some (.ref b), some (.ref kn), some (.int way), some (.bl nm), some (.ref p), none, some (.ref e0), v7, v8, none, none, none] ∧ cs.length = i ∧ H' e0 = some (.lst (cs.map V.int)) ∧ (∀ (j : Nat) (c : Int), cs[j]? = some c → mayC st pd tn q j c) ∧ BoxAt H' b (N + 2 + i) ∧ Mv b H2 H' ∧ e0 ≠ b)
            ⟨none, none, [], rfl, rfl, upd_same, fun j c h => by simp at h, B2.same se, .of se, (B2.ne he0).symm⟩ ?_ ?_⟩
        · rintro i σ H' hi ⟨v7, v8, cs, rfl, hcl, hc1, hc2, Bi, Mi, neb⟩
          have Ai := A2.mv B2 Mi.k
          refine ⟨_, rfl, _, rfl, kn, p, d, sa, pa, ks, kp, kz, tn, n, q, st, pd, _, rfl, Ai, by omega, by omega, by omega, fun lm ns H4 hlm hlm4 hm hne hnl S4 => ?_⟩
          have hns : 0 < ns.length := by
            cases ns with
            | nil => exact absurd rfl hne
            | cons _ _ => exact Nat.zero_lt_succ _
          have B4 := Bi.same S4
          have nlb : lm ≠ b := (Bi.ne hlm).symm
          refine ⟨_, rfl, .inl ⟨rfl, _, SqL.of (S4 _ _ hc1)⟩, _, rfl, _, rfl, _, rfl, lm, _, rfl, .inl (SqL.of hlm4), b, N + 2 + i, ((ns.map V.int).length : Int), rfl, B4, by omega, by rw [List.length_map]; omega, by rw [List.length_map]; omega, fun x H5 x0 x1 B5 M5 F5 => ?_⟩
          refine ix_any (SqL.of (M5 _ _ nlb hlm4)) x0 x1 fun v hv => ?_
          obtain ⟨c, hcn, rfl⟩ := List.mem_map.mp hv
          refine ⟨e0, _, _, rfl, rfl, M5 _ _ neb (S4 _ _ hc1), ?_, _, _, cs ++ [c], rfl, by rw [List.length_append, hcl]; rfl, ?_, fun j c' hj => ?_, B5.upd neb.symm, ((Mi.trans (.of S4)).trans ⟨M5, F5⟩).put he0, neb⟩
          · rw [List.length_map]; exact small1000 (by omega)
          · rw [upd_same, List.map_append]; rfl
          · by_cases h1 : j < cs.length
            · rw [List.getElem?_append_left h1] at hj; exact hc2 j c' hj
            · rw [List.getElem?_append_right (by omega)] at hj
              have e0' : j - cs.length = 0 := by have := (List.getElem?_eq_some_iff.mp hj).1; simp at this; omega
              rw [e0'] at hj; cases hj
              have := (hm c).mp hcn
              rw [show ((0 : Int) + (i : Nat)).toNat = j by omega] at this; exact this
        · rintro σ H3 ⟨v7, v8, cs, rfl, hcl, hc1, hc2, B3, M3, neb⟩
          have A3 := A2.mv B2 M3.k
          have W3 := W2.trans M3
          have B3 : BoxAt H3 b (N + 30) := B3.mono (by omega)
          have hcl' : cs.length = st.length := by omega
          have hrg : ∀ c ∈ cs, 0 ≤ c ∧ c < q := fun c hc => by
            obtain ⟨j, hj⟩ := List.mem_iff_getElem?.mp hc; exact mayC_rng A2.D (hc2 j c hj)
          refine ⟨_, rfl, e0, _, rfl, .inl ⟨SqL.of hc1, fun t ht => ?_⟩⟩
          obtain ⟨H12, e12⟩ : ∃ X, X = upd H3 t (.tup (cs.map V.int)) := ⟨_, rfl⟩
          rw [← e12]
          have s12 : Same H3 H12 := e12 ▸ same_new ht
          have g12 : H12 t = some (.tup (cs.map V.int)) := by rw [e12]; exact upd_same
          clear e12
          refine ⟨z0, fun e he => ?_⟩
          obtain ⟨H4, e4⟩ : ∃ X, X = upd H12 e (.lst []) := ⟨_, rfl⟩
          rw [← e4]
          have s4 : Same H12 H4 := e4 ▸ same_new he
          have g4 : H4 e = some (.lst []) := by rw [e4]; exact upd_same
          clear e4
          refine ⟨z2, fun u hu => ?_⟩
          obtain ⟨H5, e5⟩ : ∃ X, X = upd H4 u (.tup [.ref t, .ref e]) := ⟨_, rfl⟩
          rw [← e5]
          have s5 : Same H4 H5 := e5 ▸ same_new hu
          have g5 : H5 u = some (.tup [.ref t, .ref e]) := by rw [e5]; exact upd_same
          clear e5
          have S35 := (s12.trans s4).trans s5
          have A5 := A3.same S35
          have ge5 := s5 _ _ g4
          have hc5 := S35 _ _ hc1
          refine ⟨u, _, rfl, SqT.of g5, rfl, _, _, rfl, _, rfl, kn, _, 1, 1, rfl, rfl, A5.hn, rfl, ?_⟩
          obtain ⟨H6, e6⟩ : ∃ X, X = upd H5 kn (.lst ([V.ref p, V.ref ks, V.ref kp, V.ref kz, V.bl tn].set 1 (.ref t))) := ⟨_, rfl⟩
          rw [← e6]
          have b6 : But kn H5 H6 := e6 ▸ But.put
          have g6 : H6 kn = some (.lst [.ref p, .ref t, .ref kp, .ref kz, .bl tn]) := by rw [e6]; exact upd_same
          clear e6
          refine ⟨_, _, rfl, _, rfl, kn, _, 2, 2, rfl, rfl, g6, rfl, rfl, ?_⟩
          obtain ⟨H7, e7⟩ : ∃ X, X = upd H6 kn (.lst ([V.ref p, V.ref t, V.ref kp, V.ref kz, V.bl tn].set 2 (.ref e))) := ⟨_, rfl⟩
          rw [← e7]
          have b7 : But kn H6 H7 := e7 ▸ But.put
          have g7 : H7 kn = some (.lst [.ref p, .ref t, .ref e, .ref kz, .bl tn]) := by rw [e7]; exact upd_same
          clear e7
          have b57 := b6.trans b7
          have D7 := A5.D.but A5.hn A5.n2.symm b57
          have kt7 := b57.kt A5.hn
          have nknb : kn ≠ b := by obtain ⟨y, c, dd, f, hb, _⟩ := B2; rintro rfl; rw [A2.hn] at hb; cases hb
          have B7 := (B3.same S35).but nknb.symm b57
          have nek : e ≠ kn := by rintro rfl; rw [A5.hn] at ge5; cases ge5
          have ge7 := b57 _ _ nek ge5
          have ne0k : e0 ≠ kn := by rintro rfl; have := A2.hn; rw [he0] at this; cases this
          have hc7 := b57 _ _ ne0k hc5
          refine ⟨_, rfl, _, rfl, e0, _, rfl, .inl ⟨SqL.of hc7, fun t2 ht2 => ?_⟩⟩
          obtain ⟨H13, e13⟩ : ∃ X, X = upd H7 t2 (.tup (cs.map V.int)) := ⟨_, rfl⟩
          rw [← e13]
          have s13 : Same H7 H13 := e13 ▸ same_new ht2
          have g13 : H13 t2 = some (.tup (cs.map V.int)) := by rw [e13]; exact upd_same
          clear e13
          refine ⟨z2, fun v hv => ?_⟩
          obtain ⟨H8, e8⟩ : ∃ X, X = upd H13 v (.tup [.str "cut", .ref t2]) := ⟨_, rfl⟩
          rw [← e8]
          have s8 : Same H13 H8 := e8 ▸ same_new hv
          have g8 : H8 v = some (.tup [.str "cut", .ref t2]) := by rw [e8]; exact upd_same
          clear e8
          have s78 := s13.trans s8
          have gt2 := s8 _ _ g13
          refine ⟨_, rfl, p, d, sa, pa, tn, n, q, st, pd, v, .cut (.ref t2), nm, rfl, D7.same s78, g8, by omega, "tuple", .tup gt2, fun a xs e' hx => ?_, fun e' => ?_, fun a cs2 ev ha hl2 hr2 => ⟨fun e' => ?_, fun _ l pa' H9 hl hpa nl hl9 D9 b9 => ?_⟩⟩
          · cases e'; rw [gt2] at hx; cases hx
            exact ⟨fun x hx => by obtain ⟨c, _, rfl⟩ := List.mem_map.mp hx; exact ⟨_, .int c⟩, by rw [List.length_map]; omega⟩
          · exfalso; rw [filB_is gt2 (by omega) hrg] at e'; cases e'
          · exfalso
            cases ev
            rw [gt2] at ha
            have : cs = cs2 := int_inj (by injection ha with z; injection z)
            exact e' (this ▸ hc2)
          cases ev
          rw [gt2] at ha
          have ecs : cs = cs2 := int_inj (by injection ha with z; injection z)
          subst ecs
          have nP : ∀ a o, H8 a = some o → (∀ C dx fs, o ≠ .ins C dx fs) → H9 a = some o := fun a o h g => b9 a o (by
            obtain ⟨dx, hp8⟩ := (D7.same s78).ob
            rintro rfl; rw [hp8] at h; exact g _ _ _ (Option.some.inj h).symm) h
          obtain ⟨dx9, hp9⟩ := D9.ob
          refine ⟨z2, fun f hf => ?_⟩
          have s10 := same_new (o := .lst [.str "done", .non]) hf
          refine ⟨_, _, .lst (SqL.of (s10 _ _ hl9)) (.cons (.str _) (.cons .non .nil)), .lst (SqL.of upd_same) (.cons (.str _) (.cons .non .nil)), by decide +kernel, by decide +kernel, ?_⟩
          rw [eqv_done rfl]
          have FF : Fr [b, kn, kp, p, pa] H H8 := ((Fr.mv W3 (by simp)).trans (.of S35)).trans ((Fr.but b57 (by rw [g7]; intro z; cases z) (by simp)).trans (.of s78))
          have he8 := s78 _ _ ge7
          refine k t2 pa' t e cs [] _ ⟨D9.same s10, s10 _ _ (nP _ _ (s78 _ _ g7) (by intro _ _ _ z; cases z)), s10 _ _ (nP _ _ (s78 _ _ (kt7 _ _ (s5 _ _ (s4 _ _ g12)))) (by intro _ _ _ z; cases z)), ⟨[], s10 _ _ (nP _ _ he8 (by intro _ _ _ z; cases z)), .nil⟩,
            s10 _ _ (nP _ _ (s78 _ _ (kt7 _ _ A5.hz)) (by intro _ _ _ z; cases z)), ne_of_none he8 hpa, ne_of_none (s78 _ _ g7) hpa, nek.symm⟩ (Nat.zero_le _) (.inr (FF.f _ hpa)) (.inr ((Fr.mv W3 (S := [b]) (by simp)).f _ (s12.free he))) ?_ (FF.trans ((Fr.but b9 (by rw [hp9]; intro z; cases z) (by simp)).trans (.of s10)))
          obtain ⟨y, c, dd, fl, hb, rr⟩ := B7.same s78
          exact BoxAt.mono ⟨y, c, dd, fl, s10 _ _ (nP _ _ hb (by intro _ _ _ z; cases z)), rr⟩ (by omega)
      · refine ⟨_, rfl, _, _, rfl, rfl, _, rfl, ?_⟩
        refine ite2 (fun c3 => ?_) (fun c3 => ?_)
        · have z0 : 0 ≤ sizeLine := by decide
          have z1 : 1 ≤ sizeLine := by decide
          have z2 : 2 ≤ sizeLine := by decide
          obtain ⟨xs, hx, hrs⟩ := A2.hp
          obtain ⟨ys, hy, hry⟩ := A2.D.pe
          have hls := A2.D.ls
          refine ⟨_, rfl, kn, _, _, _, rfl, rfl, SqL.of A2.hn, atI_nat (j := 2) rfl, kp, xs, rfl, .inl (SqL.of hx), ?_⟩
          refine ⟨_, rfl, kn, _, _, _, rfl, rfl, SqL.of A2.hn, atI_nat (j := 1) rfl, _, rfl, kn, _, _, _, rfl, rfl, SqL.of A2.hn, atI_nat (j := 2) rfl, ks, kp, st, xs, pd, rfl, A2.hs, hx, hrs, fun x hx' => ?_, fun t H3 ht ht3 S3 => ?_⟩
          · obtain ⟨r1, r2, _⟩ := A2.D.rp x hx'; exact ⟨r1, by omega⟩
          refine ⟨z0, fun e he => ?_⟩
          obtain ⟨H4, e4⟩ : ∃ X, X = upd H3 e (.lst []) := ⟨_, rfl⟩
          rw [← e4]
          have s4 : Same H3 H4 := e4 ▸ same_new he
          have g4 : H4 e = some (.lst []) := by rw [e4]; exact upd_same
          clear e4
          refine ⟨z2, fun u hu => ?_⟩
          obtain ⟨H5, e5⟩ : ∃ X, X = upd H4 u (.tup [.ref t, .ref e]) := ⟨_, rfl⟩
          rw [← e5]
          have s5 : Same H4 H5 := e5 ▸ same_new hu
          have g5 : H5 u = some (.tup [.ref t, .ref e]) := by rw [e5]; exact upd_same
          clear e5
          have S25 := (S3.trans s4).trans s5
          have A5 := A2.same S25
          have ge5 := s5 _ _ g4
          refine ⟨u, _, rfl, SqT.of g5, rfl, _, _, rfl, _, rfl, kn, _, 1, 1, rfl, rfl, A5.hn, rfl, ?_⟩
          obtain ⟨H6, e6⟩ : ∃ X, X = upd H5 kn (.lst ([V.ref p, V.ref ks, V.ref kp, V.ref kz, V.bl tn].set 1 (.ref t))) := ⟨_, rfl⟩
          rw [← e6]
          have b6 : But kn H5 H6 := e6 ▸ But.put
          have g6 : H6 kn = some (.lst [.ref p, .ref t, .ref kp, .ref kz, .bl tn]) := by rw [e6]; exact upd_same
          clear e6
          refine ⟨_, _, rfl, _, rfl, kn, _, 2, 2, rfl, rfl, g6, rfl, rfl, ?_⟩
          obtain ⟨H7, e7⟩ : ∃ X, X = upd H6 kn (.lst ([V.ref p, V.ref t, V.ref kp, V.ref kz, V.bl tn].set 2 (.ref e))) := ⟨_, rfl⟩
          rw [← e7]
          have b7 : But kn H6 H7 := e7 ▸ But.put
          have g7 : H7 kn = some (.lst [.ref p, .ref t, .ref e, .ref kz, .bl tn]) := by rw [e7]; exact upd_same
          clear e7
          have b57 := b6.trans b7
          have D7 := A5.D.but A5.hn A5.n2.symm b57
          have kt7 := b57.kt A5.hn
          have nknb : kn ≠ b := by obtain ⟨y, c, dd, f, hb, _⟩ := B2; rintro rfl; rw [A2.hn] at hb; cases hb
          have B7 := (B2.same S25).but nknb.symm b57
          have nek : e ≠ kn := by rintro rfl; rw [A5.hn] at ge5; cases ge5
          have ge7 := b57 _ _ nek ge5
          refine ⟨_, rfl, z1, fun v hv => ?_⟩
          obtain ⟨H8, e8⟩ : ∃ X, X = upd H7 v (.tup [.str "sync"]) := ⟨_, rfl⟩
          rw [← e8]
          have s8 : Same H7 H8 := e8 ▸ same_new hv
          have g8 : H8 v = some (.tup [.str "sync"]) := by rw [e8]; exact upd_same
          clear e8
          refine ⟨_, rfl, p, d, sa, pa, tn, n, q, st, pd, v, .sync, nm, rfl, D7.same s8, g8, by omega, fun l sa' pa' H9 hl hpa nl hl9 D9 b9 => ?_⟩
          have nP : ∀ a o, H8 a = some o → (∀ C dx fs, o ≠ .ins C dx fs) → H9 a = some o := fun a o h g => b9 a o (by
            obtain ⟨dx, hp8⟩ := (D7.same s8).ob
            rintro rfl; rw [hp8] at h; exact g _ _ _ (Option.some.inj h).symm) h
          obtain ⟨dx9, hp9⟩ := D9.ob
          refine ⟨_, rfl, _, rfl, z2, fun f hf => ?_⟩
          have s10 := same_new (o := .lst [.str "done", .int xs.length]) hf
          refine ⟨_, _, .lst (SqL.of (s10 _ _ hl9)) (.cons (.str _) (.cons (.int _) .nil)), .lst (SqL.of upd_same) (.cons (.str _) (.cons (.int _) .nil)), done_shaped _, done_shaped _, _, rfl, ?_⟩
          rw [hrs.len, eqv_done (show PyData.eqv (.int pd.length) (.int pd.length) = true from beq_self_eq_true _)]
          refine iteT ?_
          rw [← hrs.len]
          refine ⟨_, rfl, l, _, _, _, rfl, rfl, SqL.of (s10 _ _ hl9), atI_nat (j := 1) rfl, .int pd.length, .ty "bool", _, _, _, rfl, .ty _, (Kd.int (pd.length : Int)).tx, (Kd.int (H := H9) (pd.length : Int)).isi (.inr (.inl rfl)), _, rfl, ?_⟩
          have FF : Fr [b, kn, kp, p, pa] H H8 := ((Fr.mv W2 (by simp)).trans (.of S25)).trans ((Fr.but b57 (by rw [g7]; intro z; cases z) (by simp)).trans (.of s8))
          have he8 := s8 _ _ ge7
          refine k sa' pa' t e (putS st pd) [] _ ⟨D9.same s10, s10 _ _ (nP _ _ (s8 _ _ g7) (by intro _ _ _ z; cases z)), s10 _ _ (nP _ _ (s8 _ _ (kt7 _ _ (s5 _ _ (s4 _ _ ht3)))) (by intro _ _ _ z; cases z)), ⟨[], s10 _ _ (nP _ _ he8 (by intro _ _ _ z; cases z)), .nil⟩,
            s10 _ _ (nP _ _ (s8 _ _ (kt7 _ _ A5.hz)) (by intro _ _ _ z; cases z)), ne_of_none he8 hpa, ne_of_none (s8 _ _ g7) hpa, nek.symm⟩ (Nat.zero_le _) (.inr (FF.f _ hpa)) (.inr ((Fr.mv W2 (S := [b]) (by simp)).f _ (S3.free he))) ?_ (FF.trans ((Fr.but b9 (by rw [hp9]; intro z; cases z) (by simp)).trans (.of s10)))
          obtain ⟨y, c, dd, fl, hb, rr⟩ := B7.same s8
          exact BoxAt.mono ⟨y, c, dd, fl, s10 _ _ (nP _ _ hb (by intro _ _ _ z; cases z)), rr⟩ (by omega)
        · refine ⟨_, rfl, _, rfl, b, kn, p, d, sa, pa, ks, kp, kz, N + 2, tn, n, q, st, pd, rfl, B2, by omega, A2, by omega, fun t bk c H3 ht h3 b0 b1 c0 c1 B3 M3 => ?_⟩
          have A3 := A2.mv B2 M3.k
          have W3 := W2.trans M3
          obtain ⟨xs, hx, hrs⟩ := A3.hp
          obtain ⟨ys, hy, hry⟩ := A3.D.pe
          have z2 : 2 ≤ sizeLine := by decide
          refine ⟨_, rfl, kn, _, _, _, rfl, rfl, SqL.of A3.hn, atI_nat (j := 2) rfl, .inl ⟨rfl, _, SqL.of hx⟩, _, rfl, t, _, _, _, rfl, rfl, SqT.of h3, atI_nat (j := 1) rfl, _, rfl, t, _, _, _, rfl, rfl, SqT.of h3, atI_nat (j := 2) rfl, z2, fun u hu => ?_⟩
          obtain ⟨H4, e4⟩ : ∃ X, X = upd H3 u (.tup [.int bk, .int c]) := ⟨_, rfl⟩
          rw [← e4]
          have s4 : Same H3 H4 := e4 ▸ same_new hu
          have g4 : H4 u = some (.tup [.int bk, .int c]) := by rw [e4]; exact upd_same
          clear e4
          have hx4 := s4 _ _ hx
          refine ⟨kp, xs, _, rfl, rfl, hx4, by rw [hrs.len]; exact Nat.lt_of_le_of_lt (show pd.length ≤ 900 by omega) (by decide), ?_⟩
          obtain ⟨H5, e5⟩ : ∃ X, X = upd H4 kp (.lst (xs ++ [.ref u])) := ⟨_, rfl⟩
          rw [← e5]
          have b5 : But kp H4 H5 := e5 ▸ But.put
          have g5 : H5 kp = some (.lst (xs ++ [.ref u])) := by rw [e5]; exact upd_same
          clear e5
          have A4 := A3.same s4
          have D5 := A4.D.but hx4 A4.n1.symm b5
          have kt5 := b5.kt hx4
          have nbk : kp ≠ b := B3.nl hx hrs
          have B5 := (B3.same s4).but nbk.symm b5
          have h35 := kt5 _ _ (s4 _ _ h3)
          have hn5 := b5 _ _ A4.n3 A4.hn
          refine ⟨_, rfl, _, rfl, _, rfl, p, d, sa, pa, tn, n, q, st, pd, t, .write (.int bk) (.int c), nm, rfl, D5, h35, by omega, "int", "int", .int bk, .int c, fun e => ?_, fun _ e => ?_, fun b' c' e1 e2 _ _ _ _ l H6 hl hl6 D6 b6 => ?_⟩
          · exfalso; rw [inR_in b0 (by omega)] at e; cases e
          · exfalso; rw [inR_in c0 (by omega)] at e; cases e
          cases e1; cases e2
          refine ⟨z2, fun e he => ?_⟩
          have s7 := same_new (o := .lst [.str "done", .non]) he
          refine ⟨_, _, .lst (SqL.of (s7 _ _ hl6)) (.cons (.str _) (.cons .non .nil)), .lst (SqL.of upd_same) (.cons (.str _) (.cons .non .nil)), by decide +kernel, by decide +kernel, ?_⟩
          rw [eqv_done rfl]
          obtain ⟨yl, hy5, _⟩ := D5.pe
          have kt6 := b6.kt hy5
          obtain ⟨yl6, hy6, _⟩ := D6.pe
          have f6 : H6 pa ≠ none := by rw [hy6]; intro z; cases z
          have npb : pa ≠ b := B3.nl hy hry
          refine k sa pa ks kp st (pd ++ [(bk, c)]) _ ⟨D6.same s7, s7 _ _ (b6 _ _ A4.n2 hn5), s7 _ _ (kt6 _ _ (kt5 _ _ A4.hs)), ⟨_, s7 _ _ (b6 _ _ A4.n1 g5), ?_⟩, s7 _ _ (kt6 _ _ (kt5 _ _ A4.hz)), A4.n1, A4.n2, A4.n3⟩ (by rw [List.length_append]; exact Nat.le_refl _) (.inl rfl) (.inl rfl) (((B5.but npb.symm b6).same s7).mono (by omega)) ?_
          · exact ((((hrs.kt (.of s4)).kt kt5).app (.cons (kt5 _ _ g4) .nil)).kt kt6).kt (.of s7)
          · exact (((Fr.mv W3 (by simp)).trans (.of s4)).trans (.but b5 (by rw [g5]; intro z; cases z) (by simp))).trans ((Fr.but b6 f6 (by simp)).trans (.of s7))
end
end Ls

namespace Ls
open PySem PySem.Spec PyProof.Rows L2
theorem passF {X : Cx} : Passes (L2.CX X.prog X.w) X E0 := fun _ _ _ _ _ _ _ ⟨_, _, _, _, _, _, _, _, _, _, _, _, h⟩ => False.elim h
/-- the filling behind the first i writes of the long row -/
def lastW (step : Int) : Nat → List Int
  | 0 => [0, 0]
  | i + 1 => (lastW step i).set (i % 2) (((i : Int) * step) % 64)
theorem lastW_len (step : Int) : ∀ i, (lastW step i).length = 2
  | 0 => rfl
  | i + 1 => by show ((lastW step i).set _ _).length = 2; rw [List.length_set]; exact lastW_len step i
theorem lastW_two (step : Int) (m : Nat) : lastW step (2 * m + 2) = [((2 * m : Nat) : Int) * step % 64, ((2 * m + 1 : Nat) : Int) * step % 64] := by
  show ((lastW step (2 * m)).set (2 * m % 2) _).set ((2 * m + 1) % 2) _ = _
  have h := lastW_len step (2 * m)
  rw [show 2 * m % 2 = 0 by omega, show (2 * m + 1) % 2 = 1 by omega]
  match lastW step (2 * m), h with
  | [a, c], _ => rfl
def spMany : Sp := fun vs H Q _ => ∃ (b : Addr) (N : Nat), vs = [.ref b] ∧ BoxAt H b N ∧ N ≤ 900000 ∧ ∀ H', Q (.bl true) H'
section
variable {P : Program} {w : World} {K : PySem.W.Frag} {mg : Str → Option Value} {base : Heap} {ad : Nat → Addr} {fd : Nat → FuncData}
theorem ok_law_many (T : Tx K mg ad fd) : FnOk P w K mg base CX0 6 (ad 42) (fd 42) ["box"] spMany := by
  refine T.f_law_many_right.ok sc_law_many_right (fun vs H Q E h => ?_) (fun cdv A outer s H vs Q E hr h => ?_)
  · obtain ⟨b, N, rfl, _⟩ := h; rfl
  · obtain ⟨b, N, rfl, B, hN, k⟩ := h
    obtain ⟨ds, rds, b0⟩ := b_Drive___init (K := K) (fd := fd) T
    refine ⟨_, (pss_cons (ps_par (i := 1) (j := 2) (by rfl) sc_law_many_right.nd rfl rfl (by decide) rfl rfl (pa_cons (pe_make T.k_Drive (ok_Drive___init T) (hr.mono (by decide)) rfl T.g_Drive b0 rds passF (pa_cons (pe_make T.k_Disk (ok_Disk___init T) (hr.mono (by decide)) rfl T.g_Disk (b_Disk___init T) .nil pass0 (pa_cons pe_int (pa_cons pe_int pa_nil))) (pa_cons (pe_tup (pa_cons pe_int (pa_cons pe_int pa_nil))) pa_nil))) (pa_cons (pe_op op_add pe_int (pe_op op_mul pe_int (pe_call (ok_law_take T) (hr.mono (by decide)) rfl T.g_law_take T.f_law_take.kp (b_law_take T) .nil pass0 (pa_cons (pv 0) (pa_cons pe_int pa_nil))))) pa_nil)) (by rfl))
      (pss_cons (ps_for PassesOwn.never rfl (pi_range1 rfl T.n_range (pa_cons pe_int pa_nil)) (pg_name (i := 3) sc_law_many_right.nd rfl (by first | exact Or.inl rfl | exact Or.inr rfl))
        (pss_one (ps_expr (pe_meth (pv 1) T.c_Drive T.m_Drive_write (ok_Drive_write T) (hr.mono (by decide)) (b_Drive_write T) .nil passF (pa_cons (pe_op op_mod (pe_callTy call_int1 (by rfl) T.n_int (by decide +kernel) (pa_cons (pv 3) pa_nil)) pe_int) (pa_cons (pe_op op_mod (pe_callTy call_int1 (by rfl) T.n_int (by decide +kernel) (pa_cons (pe_op op_mul (pv 3) (pv 2)) pa_nil)) pe_int) pa_nil))))))
      (pss_cons (ps_set (i := 4) sc_law_many_right.nd rfl (by first | exact Or.inl rfl | exact Or.inr rfl) (pe_tup (pa_cons (pe_op op_mod (pe_callTy call_int1 (by rfl) T.n_int (by decide +kernel) (pa_cons (pe_op op_mul pe_int (pv 2)) pa_nil)) pe_int) (pa_cons (pe_op op_mod (pe_callTy call_int1 (by rfl) T.n_int (by decide +kernel) (pa_cons (pe_op op_mul pe_int (pv 2)) pa_nil)) pe_int) pa_nil))))
      (pss_cons (ps_if (PW.pt (pw_or (pt_cmpR (op_neD hr.units) (pe_meth0 (pv 1) T.c_Drive T.m_Drive_filling (ok_Drive_filling T) (hr.mono (by decide)) (b_Drive_filling T) .nil pass0) (pv 4) (nomark _)) (pw_or (pt_cmpR op_ne (pe_callB call_len_seq (by rfl) T.n_len (by decide +kernel) (pa_cons (pe_meth0 (pv 1) T.c_Drive T.m_Drive_pending (ok_Drive_pending T) (hr.mono (by decide)) (b_Drive_pending T) .nil pass0) pa_nil)) pe_int (nomark _)) (pw_or1 (pt_cmpR (op_neD hr.units) (pe_meth0 (pv 1) T.c_Drive T.m_Drive_settled (ok_Drive_settled T) (hr.mono (by decide)) (b_Drive_settled T) .nil pass0) (pe_tup (pa_cons pe_int (pa_cons pe_int pa_nil))) (nomark _))))))
        (pss_one (ps_ret pe_bl))
        pss_nil)
      (pss_one (ps_ret (pe_and (pe_cmpR op_eq (pe_meth0 (pv 1) T.c_Drive T.m_Drive_sync (ok_Drive_sync T) (hr.mono (by decide)) (b_Drive_sync T) .nil pass0) pe_int (nomark _)) (pe_and (pe_cmpR (op_eqD hr.units) (pe_meth0 (pv 1) T.c_Drive T.m_Drive_settled (ok_Drive_settled T) (hr.mono (by decide)) (b_Drive_settled T) .nil pass0) (pv 4) (nomark _)) (pe_one (pe_cmpR (op_eqD hr.units) (pe_meth0 (pv 1) T.c_Drive T.m_Drive_pending (ok_Drive_pending T) (hr.mono (by decide)) (b_Drive_pending T) .nil pass0) (pe_lst pa_nil) (nomark _))))))))))), ?_⟩
    have z2 : 2 ≤ sizeLine := by decide
    have z0 : 0 ≤ sizeLine := by decide
    refine fun d dd hd0 hdd0 ndd => ⟨d, dd, 2, 64, rfl, upd_same, by decide, by decide, by decide, by decide, fun H1 D1 M1 => ⟨rfl, ?_⟩⟩
    have S1 : Same H H1 := fun a o e => M1 a o (ne_of_none e hd0) (by rw [upd_ne (ne_of_none e hd0), upd_ne (ne_of_none e hdd0)]; exact e)
    refine ⟨z2, fun t ht => ?_⟩
    have s2 := same_new (o := .tup [.int 0, .int 0]) ht
    have g2 : upd H1 t (.tup [.int 0, .int 0]) t = some (.tup ([0, 0].map V.int)) := upd_same
    generalize upd H1 t (.tup [.int 0, .int 0]) = H2 at s2 g2 ⊢
    have r00 : ∀ c ∈ ([0, 0] : List Int), 0 ≤ c ∧ c < 64 := fun c hc => by simp at hc; subst hc; decide
    refine fun p dp hp hdp ndp => ?_
    have hp2 : upd H2 dp (.own p) p = none := by rw [upd_ne ndp.symm]; exact hp
    have s3 : Same H2 (upd (upd H2 dp (.own p)) p (.ins (ad 100022) dp [])) := (same_new hdp).trans (same_new hp2)
    obtain ⟨ddx, hdd⟩ := D1
    have g3 := s3 _ _ g2
    refine ⟨p, dp, d, .ref t, "tuple", true, 2, 64, rfl, upd_same, ⟨ddx, s3 _ _ (s2 _ _ hdd)⟩, (ne_of_none (s2 _ _ hdd) hp).symm, by decide, .tup g3, fun a xs e hx => ?_, fun e => ?_, fun a cs ev ha hl hr pa H3 hpa D3 M3 => ⟨rfl, ?_⟩⟩
    · cases e; rw [g3] at hx; cases hx
      exact ⟨fun x hx => by obtain ⟨c, _, rfl⟩ := List.mem_map.mp hx; exact ⟨_, .int c⟩, by decide⟩
    · exfalso; rw [filB_is (n := 2) g3 rfl r00] at e; cases e
    cases ev
    rw [g3] at ha
    have ecs : cs = [0, 0] := (int_inj (by injection ha with z; injection z)).symm
    subst ecs
    have S3 : Same H H3 := fun a o e => by
      have e2 := s2 _ _ (S1 _ _ e)
      exact M3 a o (ne_of_none e2 hp) (s3 _ _ e2)
    refine ⟨_, rfl, b, N, 32, rfl, B.same S3, by omega, by decide, by decide, fun x H4 x0 x1 B4 M4 F4 => ⟨_, _, rfl, rfl, .inl ⟨by decide, by omega⟩, _, _, rfl, rfl, _, _, rfl, ?_⟩⟩
    have D4 := D3.mv (B.same S3) M4
    refine ⟨10000, rfl, by decide, by decide, for_range (n := 10000) (fun i σ H' => ∃ v3 pd, σ = [some (.ref b), some (.ref p), some (.int (1 + 2 * x)), v3, none] ∧ DrAt (ad 100022) (ad 100017) H' p d t pa true 2 64 [0, 0] pd ∧ pd.length = i ∧ putS [0, 0] pd = lastW (1 + 2 * x) i)
      ⟨none, [], rfl, D4, rfl, rfl⟩ ?_ ?_⟩
    · rintro i σ H' hi ⟨v3, pd, rfl, D, hpl, hps⟩
      obtain ⟨dx, hpp⟩ := D.ob
      have small : -(2 ^ 64) < (0 : Int) + i ∧ (0 : Int) + i < 2 ^ 64 := by omega
      refine ⟨_, rfl, p, dx, _, rfl, hpp, rfl, _, rfl, .inl ⟨_, rfl, _, _, rfl, rfl, (by show (0 : Int) < 2; decide), _, rfl, _, rfl, _, _, rfl, rfl, .inl small, .inl ⟨_, rfl, _, _, rfl, rfl, (by show (0 : Int) < 64; decide), ?_⟩⟩⟩
      obtain ⟨bk, hbk⟩ : ∃ y : Int, y = (0 + (i : Int)) % 2 := ⟨_, rfl⟩
      obtain ⟨ct, hct⟩ : ∃ y : Int, y = (0 + (i : Int)) * (1 + 2 * x) % 64 := ⟨_, rfl⟩
      have k0 : 0 ≤ (0 + (i : Int)) % 2 := Int.emod_nonneg _ (by decide)
      have k1 : (0 + (i : Int)) % 2 < 2 := Int.emod_lt_of_pos _ (by decide)
      have c0 : 0 ≤ (0 + (i : Int)) * (1 + 2 * x) % 64 := Int.emod_nonneg _ (by decide)
      have c1 : (0 + (i : Int)) * (1 + 2 * x) % 64 < 64 := Int.emod_lt_of_pos _ (by decide)
      refine ⟨p, d, t, pa, true, 2, 64, [0, 0], pd, .int ((0 + (i : Int)) % 2), .int ((0 + (i : Int)) * (1 + 2 * x) % 64), "int", "int", rfl, D, .int _, .int _, by omega, fun e => ?_, fun _ e => ?_, fun b' c' e1 e2 _ _ _ _ H6 D6 b6 => ?_⟩
      · exfalso; rw [inR_in k0 (by omega)] at e; cases e
      · exfalso; rw [inR_in c0 (by omega)] at e; cases e
      cases e1; cases e2
      refine ⟨_, _, rfl, D6, by rw [List.length_append, hpl]; rfl, ?_⟩
      rw [putS_snoc, hps]
      show (lastW (1 + 2 * x) i).set ((0 + (i : Int)) % 2).toNat ((0 + (i : Int)) * (1 + 2 * x) % 64) = (lastW (1 + 2 * x) i).set (i % 2) (((i : Int) * (1 + 2 * x)) % 64)
      rw [Int.zero_add, show ((i : Int) % 2).toNat = i % 2 by omega]
    · rintro σ H' ⟨v3, pd, rfl, D, hpl, hps⟩
      rw [show (10000 : Nat) = 2 * 4999 + 2 from rfl, lastW_two] at hps
      obtain ⟨dx, hpp⟩ := D.ob
      refine ⟨_, rfl, _, _, rfl, rfl, .inl ⟨by decide, by decide⟩, .inl ⟨_, rfl, _, _, rfl, rfl, (by show (0 : Int) < 64; decide), _, rfl, _, _, rfl, rfl, .inl ⟨by decide, by decide⟩, .inl ⟨_, rfl, _, _, rfl, rfl, (by show (0 : Int) < 64; decide), z2, fun l hl => ?_⟩⟩⟩
      have hps' : putS [0, 0] pd = [9998 * (1 + 2 * x) % 64, 9999 * (1 + 2 * x) % 64] := hps
      obtain ⟨H5, e5⟩ : ∃ X, X = upd H' l (.tup ([9998 * (1 + 2 * x) % 64, 9999 * (1 + 2 * x) % 64].map V.int)) := ⟨_, rfl⟩
      have s5 : Same H' H5 := e5 ▸ same_new hl
      have g5 : H5 l = some (.tup ([9998 * (1 + 2 * x) % 64, 9999 * (1 + 2 * x) % 64].map V.int)) := by rw [e5]; exact upd_same
      change gName 4 (.ref l) _ (upd H' l (.tup ([9998 * (1 + 2 * x) % 64, 9999 * (1 + 2 * x) % 64].map V.int))) _
      rw [← e5]
      clear e5
      rw [← hps'] at g5
      have D5 := D.same s5
      refine ⟨_, rfl, p, dx, _, rfl, s5 _ _ hpp, rfl, p, d, t, pa, true, 2, 64, [0, 0], pd, rfl, D5, fun u H6 S6 hu => ?_⟩
      refine ⟨_, rfl, _, _, .tup (SqT.of hu) (dp_ints _), .tup (SqT.of (S6 _ _ g5)) (dp_ints _), it_shaped _, it_shaped _, _, rfl, ?_⟩
      rw [eqv_it]
      refine iteF ?_
      have D6 := D5.same S6
      refine ⟨_, rfl, p, dx, _, rfl, S6 _ _ (s5 _ _ hpp), rfl, p, d, t, pa, true, 2, 64, [0, 0], pd, rfl, D6, fun l2 xs H7 hl2 S7 h7 hprs => ?_⟩
      refine ⟨l2, xs, rfl, .inl (SqL.of h7), rfl, _, rfl, ?_⟩
      rw [hprs.len, hpl]
      refine iteF ?_
      have D7 := D6.same S7
      refine ⟨_, rfl, p, dx, _, rfl, S7 _ _ (S6 _ _ (s5 _ _ hpp)), rfl, p, d, t, pa, true, 2, 64, [0, 0], pd, rfl, D7, z2, fun v hv => ?_⟩
      have s8 := same_new (o := .tup [.int 0, .int 0]) hv
      have D8 := D7.same s8
      refine ⟨_, _, .tup (SqT.of D8.se) (dp_ints [0, 0]), .tup (SqT.of upd_same) (dp_ints [0, 0]), it_shaped _, it_shaped _, _, rfl, ?_⟩
      rw [eqv_it]
      refine iteF ?_
      have g8 := s8 _ _ (S7 _ _ (S6 _ _ g5))
      have hp8 := s8 _ _ (S7 _ _ (S6 _ _ (s5 _ _ hpp)))
      refine ⟨_, rfl, p, dx, _, rfl, hp8, rfl, p, d, t, pa, true, 2, 64, [0, 0], pd, rfl, D8, fun sa' pa' H9 hpa' D9 b9 => ?_⟩
      rw [hpl]
      refine ⟨rfl, _, rfl, ?_⟩
      rw [if_pos (show decide (V.int ((10000 : Nat) : Int) = V.int 10000) = true from decide_eq_true rfl)]
      have g9 := b9 _ _ (by rintro rfl; rw [hp8] at g8; cases g8) g8
      obtain ⟨dx9, hp9⟩ := D9.ob
      refine ⟨_, rfl, p, dx9, _, rfl, hp9, rfl, p, d, sa', pa', true, 2, 64, _, _, rfl, D9, _, rfl, _, _, .tup (SqT.of D9.se) (dp_ints _), .tup (SqT.of g9) (dp_ints _), it_shaped _, it_shaped _, _, rfl, ?_⟩
      rw [eqv_it]
      refine iteT ?_
      refine ⟨_, rfl, p, dx9, _, rfl, hp9, rfl, p, d, sa', pa', true, 2, 64, _, _, rfl, D9, fun l3 ys H10 _ S10 h10 hp10 => ?_⟩
      cases hp10
      refine ⟨z0, fun e he => ?_⟩
      have s11 := same_new (o := .lst []) he
      refine ⟨_, _, .lst (SqL.of (s11 _ _ h10)) .nil, .lst (SqL.of upd_same) .nil, nil_shaped, nil_shaped, ?_⟩
      rw [eqv_nil]
      exact k _
end
end Ls

namespace Ls
open PySem PySem.Spec PyProof.Rows L2
/-- a drive and the law's book of it -/
structure KN where
  (kn p d sa pa ks kp kz : Addr) (tn : Bool) (n q : Int) (st : List Int) (pd : List (Int × Int))
def KN.At (C CD : Addr) (H : Hp) (k : KN) : Prop := KnAt C CD H k.kn k.p k.d k.sa k.pa k.ks k.kp k.kz k.tn k.n k.q k.st k.pd
def KN.mut (k : KN) : List Addr := [k.kn, k.kp, k.p, k.pa]
theorem KnAt.fr {C CD : Addr} {H H' : Hp} {b : Addr} {N : Nat} {x y : KN} (A : x.At C CD H) (Y : y.At C CD H) (B : BoxAt H b N) (F : Fr (b :: x.mut) H H') (dj : ∀ a ∈ y.mut, a ∉ x.mut) : y.At C CD H' ∧ KT H H' := by
  obtain ⟨dx, hxp⟩ := A.D.ob
  obtain ⟨xx, hxpe, hxr⟩ := A.D.pe
  obtain ⟨xk, hxk, hxkr⟩ := A.hp
  have hxn := A.hn
  obtain ⟨b1, b2, b3, b4, hb, _⟩ := id B
  have nx : ∀ a o, H a = some o → (∀ ys, o ≠ .lst ys) → (∀ dz d2 tn sa pa, o ≠ .ins C dz (drF d2 tn sa pa)) → H' a = some o := fun a o h g1 g2 => F.k a o (by
    intro hm
    simp only [KN.mut, List.mem_cons, List.not_mem_nil, or_false] at hm
    rcases hm with e | e | e | e | e <;> subst e
    · rw [hb] at h; exact g1 _ (Option.some.inj h).symm
    · rw [hxn] at h; exact g1 _ (Option.some.inj h).symm
    · rw [hxk] at h; exact g1 _ (Option.some.inj h).symm
    · rw [hxp] at h; exact g2 _ _ _ _ _ (Option.some.inj h).symm
    · rw [hxpe] at h; exact g1 _ (Option.some.inj h).symm) h
  have kt : KT H H' := fun a ts h => nx a _ h (by intro _ z; cases z) (by intro _ _ _ _ _ z; cases z)
  have nm : ∀ a o, a ∈ y.mut → a ≠ b → H a = some o → H' a = some o := fun a o hm n h => F.k a o (by
    intro h2
    rcases List.mem_cons.mp h2 with e | e
    · exact n e
    · exact dj a hm e) h
  obtain ⟨⟨⟨dy, h1⟩, ⟨dz, h2⟩, h3, ⟨xs, h4, h5⟩, h6, h7, h8, h9, h10⟩, k1, k2, ⟨xs2, k3, k4⟩, k5, k6, k7, k8⟩ := Y
  refine ⟨⟨⟨⟨dy, nm _ _ (by simp [KN.mut]) (by rintro e; rw [e, hb] at h1; cases h1) h1⟩, ⟨dz, nx _ _ h2 (by intro _ z; cases z) (by
    intro _ _ _ _ _ z
    injection z with _ _ z
    exact absurd (congrArg List.length z) (by show ¬ 2 = 4; decide))⟩, kt _ _ h3, ⟨xs, nm _ _ (by simp [KN.mut]) (B.nl h4 h5) h4, h5.kt kt⟩, h6, h7, h8, h9, h10⟩,
    nm _ _ (by simp [KN.mut]) (by rintro e; rw [e, hb] at k1; cases k1) k1, kt _ _ k2, ⟨xs2, nm _ _ (by simp [KN.mut]) (B.nl k3 k4) k3, k4.kt kt⟩, kt _ _ k5, k6, k7, k8⟩, kt⟩
/-- two drives with their books, apart from one another, all new since H0 -/
structure Two (C CD : Addr) (H0 H : Hp) (b ld : Addr) (M : Nat) (x y : KN) : Prop where
  ax : x.At C CD H
  ay : y.At C CD H
  d : ∀ a ∈ y.mut, a ∉ x.mut
  fx : ∀ a ∈ x.mut, H0 a = none
  fy : ∀ a ∈ y.mut, H0 a = none
  lx : ld ∉ x.mut
  ly : ld ∉ y.mut
  px : x.pd.length ≤ M
  py : y.pd.length ≤ M
theorem Two.symm {C CD : Addr} {H0 H : Hp} {b ld : Addr} {M : Nat} {x y : KN} (t : Two C CD H0 H b ld M x y) : Two C CD H0 H b ld M y x :=
  ⟨t.ay, t.ax, fun a h h' => t.d a h' h, t.fy, t.fx, t.ly, t.lx, t.py, t.px⟩
theorem KN.At.there {C CD : Addr} {H : Hp} {x : KN} (A : x.At C CD H) : ∀ a ∈ x.mut, H a ≠ none := by
  obtain ⟨dx, h1⟩ := A.D.ob; obtain ⟨xs, h2, _⟩ := A.D.pe; obtain ⟨xk, h3, _⟩ := A.hp
  intro a ha
  simp only [KN.mut, List.mem_cons, List.not_mem_nil, or_false] at ha
  rcases ha with e | e | e | e <;> subst e
  · rw [A.hn]; intro z; cases z
  · rw [h3]; intro z; cases z
  · rw [h1]; intro z; cases z
  · rw [h2]; intro z; cases z
/-- one of them moves -/
theorem Two.step {C CD : Addr} {H0 H H' : Hp} {b ld : Addr} {N M : Nat} {x y x' : KN} (t : Two C CD H0 H b ld M x y) (B : BoxAt H b N) (W : Mv b H0 H) (hld : H ld ≠ none) (F : Fr (b :: x.mut) H H') (A' : x'.At C CD H') (e1 : x'.kn = x.kn) (e2 : x'.p = x.p)
    (e3 : x'.pa = x.pa ∨ H x'.pa = none) (e4 : x'.kp = x.kp ∨ H x'.kp = none) (l : x'.pd.length ≤ x.pd.length + 1) : Two C CD H0 H' b ld (M + 1) x' y := by
  have old : ∀ a ∈ x'.mut, a ∈ x.mut ∨ H a = none := fun a ha => by
    simp only [KN.mut, List.mem_cons, List.not_mem_nil, or_false] at ha ⊢
    rcases ha with e | e | e | e
    · left; left; rw [e, e1]
    · rcases e4 with q | q
      · left; right; left; rw [e, q]
      · right; rw [e]; exact q
    · left; right; right; left; rw [e, e2]
    · rcases e3 with q | q
      · left; right; right; right; rw [e, q]
      · right; rw [e]; exact q
  refine ⟨A', (KnAt.fr t.ax t.ay B F t.d).1, fun a hy hx => ?_, fun a ha => ?_, t.fy, fun h => ?_, t.ly, by have := t.px; omega, Nat.le_succ_of_le t.py⟩
  · rcases old a hx with q | q
    · exact t.d a hy q
    · exact t.ay.there a hy q
  · rcases old a ha with q | q
    · exact t.fx a q
    · exact W.f a q
  · rcases old ld h with q | q
    · exact t.lx q
    · exact hld q
theorem Fr.toMv {H0 H H' : Hp} {b : Addr} {S : List Addr} (W : Mv b H0 H) (F : Fr (b :: S) H H') (n : ∀ a ∈ S, H0 a = none) : Mv b H0 H' :=
  ⟨fun a o nb e => F.k a o (by
    intro h
    rcases List.mem_cons.mp h with q | q
    · exact nb q
    · rw [n a q] at e; cases e) (W.k a o nb e), fun a e => W.f a (F.f a e)⟩
end Ls

namespace Ls
open PySem PySem.Spec PyProof.Rows L2
theorem cutk {A : Prop} {c : KN → Hp → Prop} (R : Addr → Hp → Prop) (h : (∀ kn y H, y.kn = kn → c y H → R kn H) → A) (b : ∀ kn y H, y.kn = kn → c y H → R kn H) : A := h b
theorem Two.mv {C CD : Addr} {H0 H H' : Hp} {b ld : Addr} {M N : Nat} {x y : KN} (t : Two C CD H0 H b ld M x y) (B : BoxAt H b N) (m : But b H H') : Two C CD H0 H' b ld M x y :=
  ⟨KnAt.mv t.ax B m, KnAt.mv t.ay B m, t.d, t.fx, t.fy, t.lx, t.ly, t.px, t.py⟩
theorem Two.same {C CD : Addr} {H0 H H' : Hp} {b ld : Addr} {M : Nat} {x y : KN} (t : Two C CD H0 H b ld M x y) (S : Same H H') : Two C CD H0 H' b ld M x y :=
  ⟨KnAt.same t.ax S, KnAt.same t.ay S, t.d, t.fx, t.fy, t.lx, t.ly, t.px, t.py⟩
theorem BoxAt.kt {H H' : Hp} {b : Addr} {N : Nat} (B : BoxAt H b N) (M : But b H H') : KT H H' := by
  obtain ⟨x, c, dd, f, hb, _⟩ := B
  exact fun a ts h => M a _ (by rintro rfl; rw [h] at hb; cases hb) h
def spRight : Sp := fun vs H Q _ => ∃ (b : Addr) (N : Nat), vs = [.ref b] ∧ BoxAt H b N ∧ N ≤ 400000 ∧ ∀ H', Mv b H H' → Q (.bl true) H'
section
variable {P : Program} {w : World} {K : PySem.W.Frag} {mg : Str → Option Value} {base : Heap} {ad : Nat → Addr} {fd : Nat → FuncData}
theorem ok_law_right (T : Tx K mg ad fd) : FnG P w K mg base CX0 9 (ad 41) (fd 41) ["box"] spRight := by
  refine funGn T.f_law_right sc_law_right (fun vs H Q E h => ?_) (fun cdv A outer s H vs Q E hgd hr h => ?_)
  · obtain ⟨b, N, rfl, _⟩ := h; rfl
  · obtain ⟨b, N, rfl, B, hN, k⟩ := h
    refine ⟨_, (pss_cons (ps_par3 (i := 1) (j := 2) (l := 3) (by rfl) sc_law_right.nd rfl rfl rfl (by decide) (by decide) (by decide) rfl rfl rfl (pa_cons (pe_call (ok_law_take T) (hr.mono (by decide)) rfl T.g_law_take T.f_law_take.kp (b_law_take T) .nil pass0 (pa_cons (pv 0) (pa_cons pe_int pa_nil))) (pa_cons (pe_call (ok_law_sizes T) (hr.mono (by decide)) rfl T.g_law_sizes T.f_law_sizes.kp (b_law_sizes T) .nil pass0 (pa_cons (pv 0) pa_nil)) (pa_cons (pe_call (ok_law_sizes T) (hr.mono (by decide)) rfl T.g_law_sizes T.f_law_sizes.kp (b_law_sizes T) .nil pass0 (pa_cons (pv 0) pa_nil)) pa_nil))) (by rfl))
      (pss_cons (ps_set (i := 4) sc_law_right.nd rfl (by first | exact Or.inl rfl | exact Or.inr rfl) (pe_make T.k_Disk (ok_Disk___init T) (hr.mono (by decide)) rfl T.g_Disk (b_Disk___init T) .nil pass0 (pa_cons (pe_ix ix_tup (pv 2) pe_int (fun _ _ => rfl)) (pa_cons (pe_ix ix_tup (pv 2) pe_int (fun _ _ => rfl)) pa_nil))))
      (pss_cons (ps_set (i := 5) sc_law_right.nd rfl (by first | exact Or.inl rfl | exact Or.inr rfl) (pe_lst (pa_cons (pe_callG (ok_law_begun T) hgd (hr.mono (by decide)) rfl T.g_law_begun T.f_law_begun.kp (b_law_begun T) .nil pass0 (pa_cons (pv 0) (pa_cons (pv 2) (pa_cons (pv 4) pa_nil)))) (pa_cons (pe_ifExp (pt_cmpR op_eq (pv 1) pe_int (nomark _)) (pe_callG (ok_law_begun T) hgd (hr.mono (by decide)) rfl T.g_law_begun T.f_law_begun.kp (b_law_begun T) .nil pass0 (pa_cons (pv 0) (pa_cons (pv 2) (pa_cons (pv 4) pa_nil)))) (pe_callG (ok_law_begun T) hgd (hr.mono (by decide)) rfl T.g_law_begun T.f_law_begun.kp (b_law_begun T) .nil pass0 (pa_cons (pv 0) (pa_cons (pv 3) (pa_cons (pe_make T.k_Disk (ok_Disk___init T) (hr.mono (by decide)) rfl T.g_Disk (b_Disk___init T) .nil pass0 (pa_cons (pe_ix ix_tup (pv 3) pe_int (fun _ _ => rfl)) (pa_cons (pe_ix ix_tup (pv 3) pe_int (fun _ _ => rfl)) pa_nil))) pa_nil))))) pa_nil))))
      (pss_cons (ps_if (PW.pt (pw_or (pt_cmpR op_isN (pe_ix ix_list (pv 5) pe_int (fun _ _ => rfl)) pe_non (nomark _)) (pw_or1 (pt_cmpR op_isN (pe_ix ix_list (pv 5) pe_int (fun _ _ => rfl)) pe_non (nomark _)))))
        (pss_one (ps_ret pe_bl))
        pss_nil)
      (pss_cons (ps_for PassesOwn.never rfl (pi_range1 rfl T.n_range (pa_cons pe_int pa_nil)) (pg_name (i := 6) sc_law_right.nd rfl (by first | exact Or.inl rfl | exact Or.inr rfl))
        (pss_cons (ps_set (i := 7) sc_law_right.nd rfl (by first | exact Or.inl rfl | exact Or.inr rfl) (pe_ix ix_list (pv 5) (pe_call (ok_law_take T) (hr.mono (by decide)) rfl T.g_law_take T.f_law_take.kp (b_law_take T) .nil pass0 (pa_cons (pv 0) (pa_cons pe_int pa_nil))) (fun _ _ => rfl)))
      (pss_cons (ps_par (i := 8) (j := 9) (by rfl) sc_law_right.nd rfl rfl (by decide) rfl rfl (pa_cons (pe_meth0 (pe_ix ix_list (pv 7) pe_int (fun _ _ => rfl)) T.c_Drive T.m_Drive_pending (ok_Drive_pending T) (hr.mono (by decide)) (b_Drive_pending T) .nil pass0) (pa_cons (pe_callTy call_list_of (by rfl) T.n_list (by decide +kernel) (pa_cons (pe_ix ix_list (pv 7) pe_int (fun _ _ => rfl)) pa_nil)) pa_nil)) (by rfl))
      (pss_one (ps_if (PW.pt (pw_or (pt_not (pt_val (pe_callG (ok_law_turn T) hgd (hr.mono (by decide)) rfl T.g_law_turn T.f_law_turn.kp (b_law_turn T) .nil pass0 (pa_cons (pv 0) (pa_cons (pv 7) pa_nil))))) (pw_or (pt_not (pt_val (pe_call (ok_law_stands T) (hr.mono (by decide)) rfl T.g_law_stands T.f_law_stands.kp (b_law_stands T) .nil pass0 (pa_cons (pv 0) (pa_cons (pv 7) pa_nil))))) (pw_or1 (pt_cmpR (op_neD hr.units) (pv 8) (pv 9) (nomark _))))))
        (pss_one (ps_ret pe_bl))
        pss_nil)))))
      (pss_one (ps_ret (pe_and (pe_call (ok_law_stands T) (hr.mono (by decide)) rfl T.g_law_stands T.f_law_stands.kp (b_law_stands T) .nil pass0 (pa_cons (pv 0) (pa_cons (pe_ix ix_list (pv 5) pe_int (fun _ _ => rfl)) pa_nil))) (pe_one (pe_call (ok_law_stands T) (hr.mono (by decide)) rfl T.g_law_stands T.f_law_stands.kp (b_law_stands T) .nil pass0 (pa_cons (pv 0) (pa_cons (pe_ix ix_list (pv 5) pe_int (fun _ _ => rfl)) pa_nil)))))))))))), ?_⟩
    have z2 : 2 ≤ sizeLine := by decide
    refine ⟨_, rfl, b, N, 2, rfl, B, by omega, by decide, by decide, fun alike H1 _ _ B1 M1 F1 => ?_⟩
    refine ⟨_, rfl, b, N + 1, rfl, B1, by omega, fun z1 n1 q1 H2 hz1 gz1 n10 n11 q10 q11 B2 M2 => ?_⟩
    refine ⟨_, rfl, b, N + 5, rfl, B2, by omega, fun z3 n3 q3 H3 hz3 gz3 n30 n31 q30 q31 B3 M3 => ⟨_, _, _, rfl, ?_⟩⟩
    have gz1' := M3.tup B2 gz1
    have W3 := ((Mv.mk M1 F1).trans M2).trans M3
    refine ⟨_, rfl, z1, _, _, _, rfl, rfl, SqT.of gz1', atI_nat (j := 0) rfl, _, rfl, z1, _, _, _, rfl, rfl, SqT.of gz1', atI_nat (j := 1) rfl, fun d dd hd0 hdd0 ndd => ?_⟩
    refine ⟨d, dd, n1, q1, rfl, upd_same, n10, n11, q10, q11, fun H4 D4 M4 => ⟨rfl, ?_⟩⟩
    have S4 : Same H3 H4 := fun a o e => M4 a o (ne_of_none e hd0) (by rw [upd_ne (ne_of_none e hd0), upd_ne (ne_of_none e hdd0)]; exact e)
    have W4 := W3.trans (.of S4)
    have B4 := B3.same S4
    refine ⟨_, rfl, _, rfl, _, rfl, b, z1, d, N + 9, n1, q1, rfl, B4, by omega, S4 _ _ gz1', D4, ⟨n10, n11, q10, q11⟩, fun kn p pa ks kp tn st H5 f1 f2 f3 f4 A5 B5 M5 => ?_⟩
    have W5 := W4.trans M5
    obtain ⟨X0, hX0⟩ : ∃ X0 : KN, X0 = ⟨kn, p, d, ks, pa, ks, kp, z1, tn, n1, q1, st, []⟩ := ⟨_, rfl⟩
    refine cutk (c := fun y H6 => y.At (ad 100022) (ad 100017) H6 ∧ (∀ a ∈ y.mut, H5 a = none) ∧ BoxAt H6 b (N + 100) ∧ Mv b H5 H6 ∧ y.pd = []) ?R ?h ?b
    case h =>
      intro rest
      refine ⟨_, rfl, rfl, _, rfl, ?_⟩
      have mutf : ∀ {q1 q2 q3 q4 : Addr} {Hh : Hp}, Hh q1 = none → Hh q2 = none → Hh q3 = none → Hh q4 = none → ∀ a ∈ [q1, q4, q2, q3], Hh a = none := fun e1 e2 e3 e4 a ha => by
        simp only [List.mem_cons, List.not_mem_nil, or_false] at ha
        rcases ha with e | e | e | e <;> subst e <;> assumption
      have gz5 := M5.tup B4 (S4 _ _ gz1')
      have D5 := M5.dk B4 D4
      refine ite2 (fun c => ?_) (fun c => ?_)
      · refine ⟨_, rfl, _, rfl, _, rfl, b, z1, d, N + 9 + 40, n1, q1, rfl, B5, by omega, gz5, D5, ⟨n10, n11, q10, q11⟩, fun kn2 p2 pa2 ks2 kp2 tn2 st2 H6 e1 e2 e3 e4 A6 B6 M6 => ?_⟩
        exact rest kn2 ⟨kn2, p2, d, ks2, pa2, ks2, kp2, z1, tn2, n1, q1, st2, []⟩ H6 rfl ⟨A6, mutf e1 e2 e3 e4, B6.mono (by omega), M6, rfl⟩
      · have gz35 := M5.tup B4 (S4 _ _ gz3)
        refine ⟨_, rfl, _, rfl, _, rfl, z3, _, _, _, rfl, rfl, SqT.of gz35, atI_nat (j := 0) rfl, _, rfl, z3, _, _, _, rfl, rfl, SqT.of gz35, atI_nat (j := 1) rfl, fun d2 dd2 g1 g2 g3 => ?_⟩
        refine ⟨d2, dd2, n3, q3, rfl, upd_same, n30, n31, q30, q31, fun H7 D7 M7 => ⟨rfl, ?_⟩⟩
        have S7 : Same H5 H7 := fun a o e => M7 a o (ne_of_none e g1) (by rw [upd_ne (ne_of_none e g1), upd_ne (ne_of_none e g2)]; exact e)
        refine ⟨b, z3, d2, N + 9 + 40, n3, q3, rfl, B5.same S7, by omega, S7 _ _ gz35, D7, ⟨n30, n31, q30, q31⟩, fun kn2 p2 pa2 ks2 kp2 tn2 st2 H6 e1 e2 e3 e4 A6 B6 M6 => ?_⟩
        exact rest kn2 ⟨kn2, p2, d2, ks2, pa2, ks2, kp2, z3, tn2, n3, q3, st2, []⟩ H6 rfl ⟨A6, mutf (S7.free e1) (S7.free e2) (S7.free e3) (S7.free e4), B6.mono (by omega), (Mv.of S7).trans M6, rfl⟩
    case b =>
      rintro kn2 y H6 hkn2 ⟨A6, fr6, B6, M6, py⟩
      have W6 := W5.trans M6
      refine ⟨z2, fun ld hld => ?_⟩
      obtain ⟨H7, e7⟩ : ∃ X, X = upd H6 ld (.lst [.ref kn, .ref kn2]) := ⟨_, rfl⟩
      rw [← e7]
      have s7 : Same H6 H7 := e7 ▸ same_new hld
      have g7 : H7 ld = some (.lst [.ref kn, .ref kn2]) := by rw [e7]; exact upd_same
      clear e7
      refine ⟨_, rfl, ld, _, _, _, rfl, rfl, SqL.of g7, atI_nat (j := 0) rfl, rfl, _, rfl, ?_⟩
      rw [show decide (V.ref kn = V.non) = false from decide_eq_false (by intro z; cases z)]
      refine iteF ?_
      refine ⟨_, rfl, ld, _, _, _, rfl, rfl, SqL.of g7, atI_nat (j := 1) rfl, rfl, _, rfl, ?_⟩
      rw [show decide (V.ref kn2 = V.non) = false from decide_eq_false (by intro z; cases z)]
      refine iteF ?_
      have AX5 : X0.At (ad 100022) (ad 100017) H5 := by rw [hX0]; exact A5
      have AX6 : X0.At (ad 100022) (ad 100017) H6 := by rw [hX0]; exact A5.mv B5 M6.k
      have thX := AX5.there
      have fX : ∀ a ∈ X0.mut, H4 a = none := by
        rw [hX0]; intro a ha
        simp only [KN.mut, List.mem_cons, List.not_mem_nil, or_false] at ha
        rcases ha with e | e | e | e <;> subst e <;> assumption
      have tw0 : Two (ad 100022) (ad 100017) H H7 b ld 0 X0 y := by
        refine ⟨?_, A6.same s7, fun a hy hx => thX a hx (fr6 a hy), fun a ha => W4.f a (fX a ha), fun a ha => W5.f a (fr6 a ha), fun h => AX6.there ld h hld, fun h => A6.there ld h hld, by rw [hX0]; exact Nat.zero_le _, by rw [py]; exact Nat.zero_le _⟩
        exact KnAt.same AX6 s7
      have B7 := B6.same s7
      have W7 := W6.trans (.of s7)
      refine ⟨20, rfl, by decide, by decide, for_range (n := 20) (fun i σ H' => ∃ v6 v7 v8 v9, ∃ x2 y2 : KN, σ = [some (.ref b), some (.int alike), some (.ref z1), some (.ref z3), some (.ref d), some (.ref ld), v6, v7, v8, v9] ∧
          Two (ad 100022) (ad 100017) H H' b ld i x2 y2 ∧ x2.kn = kn ∧ y2.kn = kn2 ∧ H' ld = some (.lst [.ref kn, .ref kn2]) ∧ BoxAt H' b (N + 100 + 70 * i) ∧ Mv b H H')
        ⟨none, none, none, none, X0, y, rfl, tw0, by rw [hX0], hkn2, g7, B7, W7⟩ ?_ ?_⟩
      · rintro i σ H8 hi ⟨v6, v7, v8, v9, x2, y2, rfl, tw, hk1, hk2, g8, B8, W8⟩
        have nlb : ld ≠ b := by obtain ⟨y1, c, dd, f, hb, _⟩ := B8; rintro rfl; rw [g8] at hb; cases hb
        refine ⟨_, rfl, _, rfl, b, N + 100 + 70 * i, 2, rfl, B8, by omega, by decide, by decide, fun w9 H9 w0 w1 B9 M9 F9 => ?_⟩
        have tw9 := tw.mv B8 M9
        have g9 := M9 _ _ nlb g8
        have W9 := W8.trans ⟨M9, F9⟩
        refine ix_any (SqL.of g9) w0 w1 fun v hv => ?_
        obtain ⟨x, y3, rfl, twx, back⟩ : ∃ x y3 : KN, v = .ref x.kn ∧ Two (ad 100022) (ad 100017) H H9 b ld i x y3 ∧ ∀ (x' : KN) (H' : Hp), Two (ad 100022) (ad 100017) H H' b ld (i + 1) x' y3 → x'.kn = x.kn →
            ∃ x4 y4 : KN, Two (ad 100022) (ad 100017) H H' b ld (i + 1) x4 y4 ∧ x4.kn = kn ∧ y4.kn = kn2 := by
          simp only [List.mem_cons, List.not_mem_nil, or_false] at hv
          rcases hv with e | e
          · exact ⟨x2, y2, by rw [e, hk1], tw9, fun x' H' t' e' => ⟨x', y2, t', e'.trans hk1, hk2⟩⟩
          · exact ⟨y2, x2, by rw [e, hk2], tw9.symm, fun x' H' t' e' => ⟨x2, x', t'.symm, hk1, e'.trans hk2⟩⟩
        obtain ⟨dx, hp⟩ := twx.ax.D.ob
        refine ⟨_, rfl, x.kn, _, _, _, rfl, rfl, SqL.of twx.ax.hn, atI_nat (j := 0) rfl, x.p, dx, _, rfl, hp, rfl, x.p, x.d, x.sa, x.pa, x.tn, x.n, x.q, x.st, x.pd, rfl, twx.ax.D, fun lh xs H10 hlh S10 h10 hprs => ?_⟩
        obtain ⟨xs2, hx2, hr2⟩ := twx.ax.hp
        refine ⟨_, rfl, x.kn, _, _, _, rfl, rfl, SqL.of (S10 _ _ twx.ax.hn), atI_nat (j := 2) rfl, x.kp, xs2, rfl, .inl (SqL.of (S10 _ _ hx2)), fun lk hlk => ⟨_, _, rfl, ?_⟩⟩
        obtain ⟨H11, e11⟩ : ∃ X, X = upd H10 lk (.lst xs2) := ⟨_, rfl⟩
        rw [← e11]
        have s11 : Same H10 H11 := e11 ▸ same_new hlk
        have g11 : H11 lk = some (.lst xs2) := by rw [e11]; exact upd_same
        clear e11
        have S9 := S10.trans s11
        have tw11 := twx.same S9
        have B11 := B9.same S9
        have W11 := W9.trans (.of S9)
        have hl11 := s11 _ _ h10
        refine ⟨_, rfl, _, rfl, b, x.kn, x.p, x.d, x.sa, x.pa, x.ks, x.kp, x.kz, N + 100 + 70 * i + 1, x.tn, x.n, x.q, x.st, x.pd, rfl, B11, by omega, tw11.ax, by have := twx.px; omega, fun sa' pa' ks' kp' st' pd' H12 A12 l12 e3 e4 B12 F12 => ⟨_, rfl, iteF ?_⟩⟩
        have F12' : Fr (b :: x.mut) H11 H12 := F12
        have tw12 := Two.step (x' := ⟨x.kn, x.p, x.d, sa', pa', ks', kp', x.kz, x.tn, x.n, x.q, st', pd'⟩) tw11 B11 W11 (by rw [S9 _ _ g9]; intro z; cases z) F12' A12 rfl rfl e3 e4 l12
        have kt12 := (KnAt.fr tw11.ax tw11.ay B11 F12' tw11.d).2
        have W12 := Fr.toMv W11 F12' twx.fx
        refine ⟨_, rfl, _, rfl, b, x.kn, x.p, x.d, sa', pa', ks', kp', x.kz, N + 100 + 70 * i + 1 + 60, x.tn, x.n, x.q, st', pd', rfl, B12, by omega, A12, fun H13 B13 M13 => ⟨_, rfl, iteF ?_⟩⟩
        have nS : ∀ a, H9 a = none → a ∉ b :: x.mut := fun a e h => by
          rcases List.mem_cons.mp h with q | q
          · subst q; obtain ⟨y1, c, dd, f, hb, _⟩ := B9; rw [hb] at e; cases e
          · exact twx.ax.there a q e
        have nb9 : ∀ a, H9 a = none → a ≠ b := fun a e z => nS a e (by rw [z]; exact List.mem_cons_self ..)
        have n10 : H9 lk = none := S10.free hlk
        have h13 := M13.k _ _ (nb9 _ hlh) (F12'.k _ _ (nS _ hlh) hl11)
        have k13 := M13.k _ _ (nb9 _ n10) (F12'.k _ _ (nS _ n10) g11)
        have kt13 : KT H11 H13 := fun a ts h => B12.kt M13.k _ _ (kt12 _ _ h)
        refine ⟨_, rfl, _, rfl, _, _, .lst (SqL.of h13) ((hprs.kt (.of S9)).kt kt13).dp, .lst (SqL.of k13) ((hr2.kt (.of S9)).kt kt13).dp, pts_shaped _, pts_shaped _, _, rfl, ?_⟩
        rw [eqv_pts]
        refine iteF ?_
        obtain ⟨x4, y4, t4, q1', q2'⟩ := back _ _ (tw12.mv B12 M13.k) rfl
        have g12 : H12 ld = some (.lst [.ref kn, .ref kn2]) := F12'.k _ _ (by
          intro h
          rcases List.mem_cons.mp h with q | q
          · exact nlb q
          · exact twx.lx q) (S9 _ _ g9)
        exact ⟨_, _, _, _, x4, y4, rfl, t4, q1', q2', M13.k _ _ nlb g12, B13.mono (by omega), W12.trans M13⟩
      · rintro σ H8 ⟨v6, v7, v8, v9, x2, y2, rfl, tw, hk1, hk2, g8, B8, W8⟩
        have nlb : ld ≠ b := by obtain ⟨y1, c, dd, f, hb, _⟩ := B8; rintro rfl; rw [g8] at hb; cases hb
        subst hk1 hk2
        refine ⟨_, rfl, _, rfl, ld, _, _, _, rfl, rfl, SqL.of g8, atI_nat (j := 0) rfl, b, x2.kn, x2.p, x2.d, x2.sa, x2.pa, x2.ks, x2.kp, x2.kz, _, x2.tn, x2.n, x2.q, x2.st, x2.pd, rfl, B8, by omega, tw.ax, fun H9 B9 M9 => ⟨_, rfl, iteT ?_⟩⟩
        have tw9 := tw.mv B8 M9.k
        refine ⟨_, rfl, _, rfl, ld, _, _, _, rfl, rfl, SqL.of (M9.k _ _ nlb g8), atI_nat (j := 1) rfl, b, y2.kn, y2.p, y2.d, y2.sa, y2.pa, y2.ks, y2.kp, y2.kz, _, y2.tn, y2.n, y2.q, y2.st, y2.pd, rfl, B9, by omega, tw9.ay, fun H10 B10 M10 => ?_⟩
        exact k H10 ((W8.trans M9).trans M10)
end
end Ls

namespace Ls
open PySem PySem.Spec PyProof.Rows L2
def spLaw (K : PySem.W.Frag) : Sp := fun vs H Q _ => ∃ (a : Addr) (ns : List Int), vs = [.ref a] ∧ SqL K H a (ns.map V.int) ∧ ns.length ≤ 63 ∧ ∀ H', Q (.bl true) H'
section
variable {P : Program} {w : World} {K : PySem.W.Frag} {mg : Str → Option Value} {base : Heap} {ad : Nat → Addr} {fd : Nat → FuncData}
theorem ok_law (T : Tx K mg ad fd) : FnG P w K mg base CX0 10 (ad 43) (fd 43) ["script"] (spLaw K) := by
  refine funGn T.f_law sc_law (fun vs H Q E h => ?_) (fun cdv A outer s H vs Q E hgd hr h => ?_)
  · obtain ⟨a, ns, rfl, _⟩ := h; rfl
  · obtain ⟨a, ns, rfl, hs, hl, k⟩ := h
    refine ⟨_, (pss_cons (ps_set (i := 1) sc_law.nd rfl (by first | exact Or.inl rfl | exact Or.inr rfl) (pe_cmpR op_eq (pe_call (ok_law_take T) (hr.mono (by decide)) rfl T.g_law_take T.f_law_take.kp (b_law_take T) .nil pass0 (pa_cons (pe_call (ok_law_box T) (hr.mono (by decide)) rfl T.g_law_box T.f_law_box.kp (b_law_box T) .nil pass0 (pa_cons (pe_op op_fdiv (pe_call (ok_law_cell T) (hr.mono (by decide)) rfl T.g_law_cell T.f_law_cell.kp (b_law_cell T) .nil pass0 (pa_cons (pv 0) (pa_cons pe_int pa_nil))) pe_int) pa_nil)) (pa_cons pe_int pa_nil))) pe_int (nomark _)))
      (pss_cons (ps_for PassesOwn.never rfl (pi_range1 rfl T.n_range (pa_cons (pe_callB (call_max2 rfl) (by rfl) T.n_max (by decide +kernel) (pa_cons pe_int (pa_cons (pe_callB (call_min2 rfl) (by rfl) T.n_min (by decide +kernel) (pa_cons pe_int (pa_cons (pe_callB call_len_seq (by rfl) T.n_len (by decide +kernel) (pa_cons (pv 0) pa_nil)) pa_nil))) pa_nil))) pa_nil)) (pg_name (i := 2) sc_law.nd rfl (by first | exact Or.inl rfl | exact Or.inr rfl))
        (pss_one (ps_if (pt_not (pt_val (pe_callG (ok_law_right T) hgd (hr.mono (by decide)) rfl T.g_law_right T.f_law_right.kp (b_law_right T) .nil pass0 (pa_cons (pe_call (ok_law_box T) (hr.mono (by decide)) rfl T.g_law_box T.f_law_box.kp (b_law_box T) .nil pass0 (pa_cons (pe_call (ok_law_cell T) (hr.mono (by decide)) rfl T.g_law_cell T.f_law_cell.kp (b_law_cell T) .nil pass0 (pa_cons (pv 0) (pa_cons (pv 2) pa_nil))) pa_nil)) pa_nil))))
        (pss_one (ps_ret pe_bl))
        pss_nil)))
      (pss_one (ps_ret (pe_ifExp (pt_val (pv 1)) (pe_call (ok_law_many T) (hr.mono (by decide)) rfl T.g_law_many_right T.f_law_many_right.kp (b_law_many_right T) .nil pass0 (pa_cons (pe_call (ok_law_box T) (hr.mono (by decide)) rfl T.g_law_box T.f_law_box.kp (b_law_box T) .nil pass0 (pa_cons (pe_call (ok_law_cell T) (hr.mono (by decide)) rfl T.g_law_cell T.f_law_cell.kp (b_law_cell T) .nil pass0 (pa_cons (pv 0) (pa_cons pe_int pa_nil))) pa_nil)) pa_nil)) pe_bl))))), ?_⟩
    refine ⟨_, rfl, a, ns, 0, rfl, hs, hl, by decide, fun z H1 S1 => ?_⟩
    refine ⟨_, _, rfl, rfl, ⟨by decide, by decide⟩, _, rfl, fun b H2 hb S2 B2 => ?_⟩
    refine ⟨b, 0, 20, rfl, B2, by decide, by decide, by decide, fun r H3 r0 r1 B3 M3 F3 => ⟨rfl, ?_⟩⟩
    have S3 : Same H H3 := fun c o e => M3 c o (ne_of_none (S1 _ _ e) hb) (S2 _ _ (S1 _ _ e))
    generalize decide (V.int r = V.int 7) = great
    refine ⟨_, rfl, a, _, rfl, .inl (SqL.ext hs S3), 4, _, rfl, 1, _, rfl, _, rfl, ?_, ?_, for_range (fun i σ H' => ∃ v2, σ = [some (.ref a), some (.bl great), v2] ∧ Same H H') ⟨none, rfl, S3⟩ ?_ ?_⟩
    · split <;> split <;> omega
    · split <;> split <;> omega
    · rintro i σ H' hi ⟨v2, rfl, S⟩
      have hi4 : i < 4 := by revert hi; split <;> split <;> intro hi <;> omega
      refine ⟨_, rfl, _, rfl, a, ns, i, by rw [Int.zero_add]; rfl, SqL.ext hs S, hl, by omega, fun z H5 S5 => ?_⟩
      refine ⟨_, rfl, fun b5 H6 hb5 S6 B6 => ?_⟩
      refine ⟨b5, 0, rfl, B6, by decide, fun H7 M7 => ⟨_, rfl, iteF ⟨_, rfl, fun c o e => ?_⟩⟩⟩
      exact M7.k c o (ne_of_none (S5 _ _ (S _ _ e)) hb5) (S6 _ _ (S5 _ _ (S _ _ e)))
    · rintro σ H' ⟨v2, rfl, S⟩
      refine ⟨_, rfl, _, rfl, ?_⟩
      cases great with
      | true =>
        refine iteT ?_
        refine ⟨_, rfl, a, ns, 1, rfl, SqL.ext hs S, hl, by decide, fun z H5 S5 => ?_⟩
        refine ⟨_, rfl, fun b5 H6 hb5 S6 B6 => ?_⟩
        exact ⟨b5, 0, rfl, B6, by decide, fun H7 => k H7⟩
      | false => exact iteF (k H')
end
end Ls

namespace Ls
open PySem PySem.Spec PyProof.Rows L2 PySem.HandSPX
theorem exmE {K : PySem.W.Frag} {S C : Addr} {v : Bool} (h1 : PySem.W.subIn K (.ref C) (.type "BaseException") = some true) (h2 : PySem.W.isClsIn K C = true) (h3 : PySem.W.typeIn K (.ref C) = some (.type "type"))
    (h4 : PySem.W.subIn K (.ref S) (.ref C) = some v) : PySem.W.exmOne K (.ref S) (.ref C) = some v := by
  have h2' : (PySem.W.clsIn K C).isSome = true := h2
  unfold PySem.W.exmOne PySem.W.kitCls
  simp [h1, h3, h4]
  intro e; rw [e] at h2'; cases h2'
theorem all_mk {P : Program} {w : World} {K : PySem.W.Frag} {h : Heap} {mg : Str → Option Value} {fa : Addr} (X : K.In h) (G : h.Ns mainGlobals mg) (hfa : mg "law" = some (.ref fa))
    {f14 f18 f19 f20 f25 f26 f27 f28 f29 f30 f31 f32 f33 f34 f35 f36 f37 f38 f39 f40 f41 f42 f43 f400 f500 f600 f800 f1700 f1701 f2200 f2201 f2202 f2203 f2204 f2205 f2207 f2208 f2209 f2210 C100004 C100005 C100006 C100008 C100017 C100022 : Addr}
    {od14 an14 : Option Addr} {sl14 : Array (Option Value)} {oc14 kV14 dc14 pm14 cd14 ct14 : Value}
    {od1700 an1700 : Option Addr} {sl1700 : Array (Option Value)} {oc1700 kV1700 dc1700 pm1700 cd1700 ct1700 : Value}
    {od1701 an1701 : Option Addr} {sl1701 : Array (Option Value)} {oc1701 kV1701 dc1701 pm1701 cd1701 ct1701 : Value}
    {od18 an18 : Option Addr} {sl18 : Array (Option Value)} {oc18 kV18 dc18 pm18 cd18 ct18 : Value}
    {od19 an19 : Option Addr} {sl19 : Array (Option Value)} {oc19 kV19 dc19 pm19 cd19 ct19 : Value}
    {od20 an20 : Option Addr} {sl20 : Array (Option Value)} {oc20 kV20 dc20 pm20 cd20 ct20 : Value}
    {od2200 an2200 : Option Addr} {sl2200 : Array (Option Value)} {oc2200 dc2200 pm2200 cd2200 ct2200 : Value}
    {kD2200 : Addr}
    {od2201 an2201 : Option Addr} {sl2201 : Array (Option Value)} {oc2201 kV2201 dc2201 pm2201 cd2201 ct2201 : Value}
    {od2202 an2202 : Option Addr} {sl2202 : Array (Option Value)} {oc2202 kV2202 dc2202 pm2202 cd2202 ct2202 : Value}
    {od2203 an2203 : Option Addr} {sl2203 : Array (Option Value)} {oc2203 kV2203 dc2203 pm2203 cd2203 ct2203 : Value}
    {od2204 an2204 : Option Addr} {sl2204 : Array (Option Value)} {oc2204 kV2204 dc2204 pm2204 cd2204 ct2204 : Value}
    {od2205 an2205 : Option Addr} {sl2205 : Array (Option Value)} {oc2205 kV2205 dc2205 pm2205 cd2205 ct2205 : Value}
    {od2207 an2207 : Option Addr} {sl2207 : Array (Option Value)} {oc2207 kV2207 dc2207 pm2207 cd2207 ct2207 : Value}
    {od2208 an2208 : Option Addr} {sl2208 : Array (Option Value)} {oc2208 kV2208 dc2208 pm2208 cd2208 ct2208 : Value}
    {od2209 an2209 : Option Addr} {sl2209 : Array (Option Value)} {oc2209 kV2209 dc2209 pm2209 cd2209 ct2209 : Value}
    {od2210 an2210 : Option Addr} {sl2210 : Array (Option Value)} {oc2210 kV2210 dc2210 pm2210 cd2210 ct2210 : Value}
    {od25 an25 : Option Addr} {sl25 : Array (Option Value)} {oc25 kV25 dc25 pm25 cd25 ct25 : Value}
    {od26 an26 : Option Addr} {sl26 : Array (Option Value)} {oc26 kV26 dc26 pm26 cd26 ct26 : Value}
    {od27 an27 : Option Addr} {sl27 : Array (Option Value)} {oc27 kV27 dc27 pm27 cd27 ct27 : Value}
    {od28 an28 : Option Addr} {sl28 : Array (Option Value)} {oc28 kV28 dc28 pm28 cd28 ct28 : Value}
    {od29 an29 : Option Addr} {sl29 : Array (Option Value)} {oc29 kV29 dc29 pm29 cd29 ct29 : Value}
    {od30 an30 : Option Addr} {sl30 : Array (Option Value)} {oc30 kV30 dc30 pm30 cd30 ct30 : Value}
    {od31 an31 : Option Addr} {sl31 : Array (Option Value)} {oc31 kV31 dc31 pm31 cd31 ct31 : Value}
    {od32 an32 : Option Addr} {sl32 : Array (Option Value)} {oc32 kV32 dc32 pm32 cd32 ct32 : Value}
    {od33 an33 : Option Addr} {sl33 : Array (Option Value)} {oc33 kV33 dc33 pm33 cd33 ct33 : Value}
    {od34 an34 : Option Addr} {sl34 : Array (Option Value)} {oc34 kV34 dc34 pm34 cd34 ct34 : Value}
    {od35 an35 : Option Addr} {sl35 : Array (Option Value)} {oc35 kV35 dc35 pm35 cd35 ct35 : Value}
    {od36 an36 : Option Addr} {sl36 : Array (Option Value)} {oc36 kV36 dc36 pm36 cd36 ct36 : Value}
    {od37 an37 : Option Addr} {sl37 : Array (Option Value)} {oc37 kV37 dc37 pm37 cd37 ct37 : Value}
    {od38 an38 : Option Addr} {sl38 : Array (Option Value)} {oc38 kV38 dc38 pm38 cd38 ct38 : Value}
    {od39 an39 : Option Addr} {sl39 : Array (Option Value)} {oc39 kV39 dc39 pm39 cd39 ct39 : Value}
    {od40 an40 : Option Addr} {sl40 : Array (Option Value)} {oc40 kV40 dc40 pm40 cd40 ct40 : Value}
    {od41 an41 : Option Addr} {sl41 : Array (Option Value)} {oc41 kV41 dc41 pm41 cd41 ct41 : Value}
    {od42 an42 : Option Addr} {sl42 : Array (Option Value)} {oc42 kV42 dc42 pm42 cd42 ct42 : Value}
    {od43 an43 : Option Addr} {sl43 : Array (Option Value)} {oc43 kV43 dc43 pm43 cd43 ct43 : Value}
    {od400 an400 : Option Addr} {sl400 : Array (Option Value)} {oc400 kV400 dc400 pm400 cd400 ct400 : Value}
    {od500 an500 : Option Addr} {sl500 : Array (Option Value)} {oc500 kV500 dc500 pm500 cd500 ct500 : Value}
    {od600 an600 : Option Addr} {sl600 : Array (Option Value)} {oc600 kV600 dc600 pm600 cd600 ct600 : Value}
    {od800 an800 : Option Addr} {sl800 : Array (Option Value)} {oc800 kV800 dc800 pm800 cd800 ct800 : Value}
    {nm100004 q100004 : Str} {N100004 : Addr} {bs100004 : List Value} {sn100004 : List Str} {sub100004 : List Value} {ab100004 : Bool} {col100004 : Option Bool} {dd100004 : Option Addr} {m0100004 m1100004 m2100004 m3100004 m5100004 : Option Value}
    {bm100004 : List Value}
    {nm100005 q100005 : Str} {N100005 : Addr} {bs100005 : List Value} {sn100005 : List Str} {sub100005 : List Value} {ab100005 : Bool} {col100005 : Option Bool} {dd100005 : Option Addr} {m0100005 m1100005 m2100005 m3100005 m5100005 : Option Value}
    {bm100005 : List Value}
    {nm100006 q100006 : Str} {N100006 : Addr} {bs100006 : List Value} {sn100006 : List Str} {sub100006 : List Value} {ab100006 : Bool} {col100006 : Option Bool} {dd100006 : Option Addr} {m0100006 m1100006 m2100006 m3100006 m5100006 : Option Value}
    {bm100006 : List Value}
    {nm100008 q100008 : Str} {N100008 : Addr} {bs100008 : List Value} {sn100008 : List Str} {sub100008 : List Value} {ab100008 : Bool} {col100008 : Option Bool} {dd100008 : Option Addr} {m0100008 m1100008 m2100008 m3100008 m5100008 : Option Value}
    {bm100008 : List Value}
    {tk_MOST_BLOCKS : Tok}
    {tk_LEAST_CONTENTS : Tok}
    {tk_MOST_CONTENTS : Tok}
    {tk_MOST_LISTED : Tok}
    (g_is_within : PySem.W.nsIn K mainGlobals "is_within" = some (some (.ref f14)))
    (g_is_block : PySem.W.nsIn K mainGlobals "is_block" = some (some (.ref f18)))
    (g_is_content : PySem.W.nsIn K mainGlobals "is_content" = some (some (.ref f19)))
    (g_is_filling : PySem.W.nsIn K mainGlobals "is_filling" = some (some (.ref f20)))
    (g_law_cell : PySem.W.nsIn K mainGlobals "_law_cell" = some (some (.ref f25)))
    (g_law_box : PySem.W.nsIn K mainGlobals "_law_box" = some (some (.ref f26)))
    (g_law_take : PySem.W.nsIn K mainGlobals "_law_take" = some (some (.ref f27)))
    (g_law_sizes : PySem.W.nsIn K mainGlobals "_law_sizes" = some (some (.ref f28)))
    (g_law_odd_filling : PySem.W.nsIn K mainGlobals "_law_odd_filling" = some (some (.ref f29)))
    (g_law_same : PySem.W.nsIn K mainGlobals "_law_same" = some (some (.ref f30)))
    (g_law_put : PySem.W.nsIn K mainGlobals "_law_put" = some (some (.ref f31)))
    (g_law_opened : PySem.W.nsIn K mainGlobals "_law_opened" = some (some (.ref f32)))
    (g_law_told : PySem.W.nsIn K mainGlobals "_law_told" = some (some (.ref f33)))
    (g_law_stands : PySem.W.nsIn K mainGlobals "_law_stands" = some (some (.ref f34)))
    (g_law_menu : PySem.W.nsIn K mainGlobals "_law_menu" = some (some (.ref f35)))
    (g_law_write : PySem.W.nsIn K mainGlobals "_law_write" = some (some (.ref f36)))
    (g_law_refused_write : PySem.W.nsIn K mainGlobals "_law_refused_write" = some (some (.ref f37)))
    (g_law_refused_cut : PySem.W.nsIn K mainGlobals "_law_refused_cut" = some (some (.ref f38)))
    (g_law_turn : PySem.W.nsIn K mainGlobals "_law_turn" = some (some (.ref f39)))
    (g_law_begun : PySem.W.nsIn K mainGlobals "_law_begun" = some (some (.ref f40)))
    (g_law_right : PySem.W.nsIn K mainGlobals "_law_right" = some (some (.ref f41)))
    (g_law_many_right : PySem.W.nsIn K mainGlobals "_law_many_right" = some (some (.ref f42)))
    (g_law : PySem.W.nsIn K mainGlobals "law" = some (some (.ref f43)))
    (g_Disk : PySem.W.nsIn K mainGlobals "Disk" = some (some (.ref C100017)))
    (g_Drive : PySem.W.nsIn K mainGlobals "Drive" = some (some (.ref C100022)))
    (g_InvalidFilling : PySem.W.nsIn K mainGlobals "InvalidFilling" = some (some (.ref C100004)))
    (g_InvalidBlock : PySem.W.nsIn K mainGlobals "InvalidBlock" = some (some (.ref C100005)))
    (g_InvalidContent : PySem.W.nsIn K mainGlobals "InvalidContent" = some (some (.ref C100006)))
    (g_NotLeft : PySem.W.nsIn K mainGlobals "NotLeft" = some (some (.ref C100008)))
    (at_Disk___init : PySem.W.findIn K (.ref C100017) "__init__" = some (some (.ref f1700)))
    (at_Disk___eq : PySem.W.findIn K (.ref C100017) "__eq__" = some (some (.ref f1701)))
    (at_Drive___init : PySem.W.findIn K (.ref C100022) "__init__" = some (some (.ref f2200)))
    (at_Drive_write : PySem.W.findIn K (.ref C100022) "write" = some (some (.ref f2201)))
    (at_Drive_sync : PySem.W.findIn K (.ref C100022) "sync" = some (some (.ref f2202)))
    (at_Drive_pending : PySem.W.findIn K (.ref C100022) "pending" = some (some (.ref f2203)))
    (at_Drive_settled : PySem.W.findIn K (.ref C100022) "settled" = some (some (.ref f2204)))
    (at_Drive_filling : PySem.W.findIn K (.ref C100022) "filling" = some (some (.ref f2205)))
    (at_Drive_may_leave : PySem.W.findIn K (.ref C100022) "may_leave" = some (some (.ref f2207)))
    (at_Drive_cut : PySem.W.findIn K (.ref C100022) "cut" = some (some (.ref f2208)))
    (at_Drive__settle : PySem.W.findIn K (.ref C100022) "_settle" = some (some (.ref f2209)))
    (at_Drive__choices : PySem.W.findIn K (.ref C100022) "_choices" = some (some (.ref f2210)))
    (at_InvalidFilling___init : PySem.W.findIn K (.ref C100004) "__init__" = some (some (.ref f400)))
    (at_InvalidBlock___init : PySem.W.findIn K (.ref C100005) "__init__" = some (some (.ref f500)))
    (at_InvalidContent___init : PySem.W.findIn K (.ref C100006) "__init__" = some (some (.ref f600)))
    (at_NotLeft___init : PySem.W.findIn K (.ref C100008) "__init__" = some (some (.ref f800)))
    (l_is_within : K.lookup f14 = some ⟨oc14, od14, .func (PySem.W.fnOf "is_within" "is_within" (defArgs s_is_within) (defBody s_is_within) (defScope s_is_within) .none kV14 dc14 pm14 an14 cd14 ct14), sl14⟩)
    (c_is_within : PySem.W.codeIn K cd14 "is_within" = true)
    (k_is_within : PySem.W.keepIn K (.ref f14) = true)
    (l_Disk___init : K.lookup f1700 = some ⟨oc1700, od1700, .func (PySem.W.fnOf "__init__" "Disk.__init__" (defArgs s_Disk___init) (defBody s_Disk___init) (defScope s_Disk___init) .none kV1700 dc1700 pm1700 an1700 cd1700 ct1700), sl1700⟩)
    (c_Disk___init : PySem.W.codeIn K cd1700 "Disk.__init__" = true)
    (k_Disk___init : PySem.W.keepIn K (.ref f1700) = true)
    (l_Disk___eq : K.lookup f1701 = some ⟨oc1701, od1701, .func (PySem.W.fnOf "__eq__" "Disk.__eq__" (defArgs s_Disk___eq) (defBody s_Disk___eq) (defScope s_Disk___eq) .none kV1701 dc1701 pm1701 an1701 cd1701 ct1701), sl1701⟩)
    (c_Disk___eq : PySem.W.codeIn K cd1701 "Disk.__eq__" = true)
    (k_Disk___eq : PySem.W.keepIn K (.ref f1701) = true)
    (l_is_block : K.lookup f18 = some ⟨oc18, od18, .func (PySem.W.fnOf "is_block" "is_block" (defArgs s_is_block) (defBody s_is_block) (defScope s_is_block) .none kV18 dc18 pm18 an18 cd18 ct18), sl18⟩)
    (c_is_block : PySem.W.codeIn K cd18 "is_block" = true)
    (k_is_block : PySem.W.keepIn K (.ref f18) = true)
    (l_is_content : K.lookup f19 = some ⟨oc19, od19, .func (PySem.W.fnOf "is_content" "is_content" (defArgs s_is_content) (defBody s_is_content) (defScope s_is_content) .none kV19 dc19 pm19 an19 cd19 ct19), sl19⟩)
    (c_is_content : PySem.W.codeIn K cd19 "is_content" = true)
    (k_is_content : PySem.W.keepIn K (.ref f19) = true)
    (l_is_filling : K.lookup f20 = some ⟨oc20, od20, .func (PySem.W.fnOf "is_filling" "is_filling" (defArgs s_is_filling) (defBody s_is_filling) (defScope s_is_filling) .none kV20 dc20 pm20 an20 cd20 ct20), sl20⟩)
    (c_is_filling : PySem.W.codeIn K cd20 "is_filling" = true)
    (k_is_filling : PySem.W.keepIn K (.ref f20) = true)
    (l_Drive___init : K.lookup f2200 = some ⟨oc2200, od2200, .func (PySem.W.fnOf "__init__" "Drive.__init__" (defArgs s_Drive___init) (defBody s_Drive___init) (defScope s_Drive___init) .none (.ref kD2200) dc2200 pm2200 an2200 cd2200 ct2200), sl2200⟩)
    (c_Drive___init : PySem.W.codeIn K cd2200 "Drive.__init__" = true)
    (k_Drive___init : PySem.W.keepIn K (.ref f2200) = true)
    (kw_Drive___init : PySem.W.nsIn K kD2200 "torn" = some (some (.bool true)))
    (l_Drive_write : K.lookup f2201 = some ⟨oc2201, od2201, .func (PySem.W.fnOf "write" "Drive.write" (defArgs s_Drive_write) (defBody s_Drive_write) (defScope s_Drive_write) .none kV2201 dc2201 pm2201 an2201 cd2201 ct2201), sl2201⟩)
    (c_Drive_write : PySem.W.codeIn K cd2201 "Drive.write" = true)
    (k_Drive_write : PySem.W.keepIn K (.ref f2201) = true)
    (l_Drive_sync : K.lookup f2202 = some ⟨oc2202, od2202, .func (PySem.W.fnOf "sync" "Drive.sync" (defArgs s_Drive_sync) (defBody s_Drive_sync) (defScope s_Drive_sync) .none kV2202 dc2202 pm2202 an2202 cd2202 ct2202), sl2202⟩)
    (c_Drive_sync : PySem.W.codeIn K cd2202 "Drive.sync" = true)
    (k_Drive_sync : PySem.W.keepIn K (.ref f2202) = true)
    (l_Drive_pending : K.lookup f2203 = some ⟨oc2203, od2203, .func (PySem.W.fnOf "pending" "Drive.pending" (defArgs s_Drive_pending) (defBody s_Drive_pending) (defScope s_Drive_pending) .none kV2203 dc2203 pm2203 an2203 cd2203 ct2203), sl2203⟩)
    (c_Drive_pending : PySem.W.codeIn K cd2203 "Drive.pending" = true)
    (k_Drive_pending : PySem.W.keepIn K (.ref f2203) = true)
    (l_Drive_settled : K.lookup f2204 = some ⟨oc2204, od2204, .func (PySem.W.fnOf "settled" "Drive.settled" (defArgs s_Drive_settled) (defBody s_Drive_settled) (defScope s_Drive_settled) .none kV2204 dc2204 pm2204 an2204 cd2204 ct2204), sl2204⟩)
    (c_Drive_settled : PySem.W.codeIn K cd2204 "Drive.settled" = true)
    (k_Drive_settled : PySem.W.keepIn K (.ref f2204) = true)
    (l_Drive_filling : K.lookup f2205 = some ⟨oc2205, od2205, .func (PySem.W.fnOf "filling" "Drive.filling" (defArgs s_Drive_filling) (defBody s_Drive_filling) (defScope s_Drive_filling) .none kV2205 dc2205 pm2205 an2205 cd2205 ct2205), sl2205⟩)
    (c_Drive_filling : PySem.W.codeIn K cd2205 "Drive.filling" = true)
    (k_Drive_filling : PySem.W.keepIn K (.ref f2205) = true)
    (l_Drive_may_leave : K.lookup f2207 = some ⟨oc2207, od2207, .func (PySem.W.fnOf "may_leave" "Drive.may_leave" (defArgs s_Drive_may_leave) (defBody s_Drive_may_leave) (defScope s_Drive_may_leave) .none kV2207 dc2207 pm2207 an2207 cd2207 ct2207), sl2207⟩)
    (c_Drive_may_leave : PySem.W.codeIn K cd2207 "Drive.may_leave" = true)
    (k_Drive_may_leave : PySem.W.keepIn K (.ref f2207) = true)
    (l_Drive_cut : K.lookup f2208 = some ⟨oc2208, od2208, .func (PySem.W.fnOf "cut" "Drive.cut" (defArgs s_Drive_cut) (defBody s_Drive_cut) (defScope s_Drive_cut) .none kV2208 dc2208 pm2208 an2208 cd2208 ct2208), sl2208⟩)
    (c_Drive_cut : PySem.W.codeIn K cd2208 "Drive.cut" = true)
    (k_Drive_cut : PySem.W.keepIn K (.ref f2208) = true)
    (l_Drive__settle : K.lookup f2209 = some ⟨oc2209, od2209, .func (PySem.W.fnOf "_settle" "Drive._settle" (defArgs s_Drive__settle) (defBody s_Drive__settle) (defScope s_Drive__settle) .none kV2209 dc2209 pm2209 an2209 cd2209 ct2209), sl2209⟩)
    (c_Drive__settle : PySem.W.codeIn K cd2209 "Drive._settle" = true)
    (k_Drive__settle : PySem.W.keepIn K (.ref f2209) = true)
    (l_Drive__choices : K.lookup f2210 = some ⟨oc2210, od2210, .func (PySem.W.fnOf "_choices" "Drive._choices" (defArgs s_Drive__choices) (defBody s_Drive__choices) (defScope s_Drive__choices) .none kV2210 dc2210 pm2210 an2210 cd2210 ct2210), sl2210⟩)
    (c_Drive__choices : PySem.W.codeIn K cd2210 "Drive._choices" = true)
    (k_Drive__choices : PySem.W.keepIn K (.ref f2210) = true)
    (l_law_cell : K.lookup f25 = some ⟨oc25, od25, .func (PySem.W.fnOf "_law_cell" "_law_cell" (defArgs s_law_cell) (defBody s_law_cell) (defScope s_law_cell) .none kV25 dc25 pm25 an25 cd25 ct25), sl25⟩)
    (c_law_cell : PySem.W.codeIn K cd25 "_law_cell" = true)
    (k_law_cell : PySem.W.keepIn K (.ref f25) = true)
    (l_law_box : K.lookup f26 = some ⟨oc26, od26, .func (PySem.W.fnOf "_law_box" "_law_box" (defArgs s_law_box) (defBody s_law_box) (defScope s_law_box) .none kV26 dc26 pm26 an26 cd26 ct26), sl26⟩)
    (c_law_box : PySem.W.codeIn K cd26 "_law_box" = true)
    (k_law_box : PySem.W.keepIn K (.ref f26) = true)
    (l_law_take : K.lookup f27 = some ⟨oc27, od27, .func (PySem.W.fnOf "_law_take" "_law_take" (defArgs s_law_take) (defBody s_law_take) (defScope s_law_take) .none kV27 dc27 pm27 an27 cd27 ct27), sl27⟩)
    (c_law_take : PySem.W.codeIn K cd27 "_law_take" = true)
    (k_law_take : PySem.W.keepIn K (.ref f27) = true)
    (l_law_sizes : K.lookup f28 = some ⟨oc28, od28, .func (PySem.W.fnOf "_law_sizes" "_law_sizes" (defArgs s_law_sizes) (defBody s_law_sizes) (defScope s_law_sizes) .none kV28 dc28 pm28 an28 cd28 ct28), sl28⟩)
    (c_law_sizes : PySem.W.codeIn K cd28 "_law_sizes" = true)
    (k_law_sizes : PySem.W.keepIn K (.ref f28) = true)
    (l_law_odd_filling : K.lookup f29 = some ⟨oc29, od29, .func (PySem.W.fnOf "_law_odd_filling" "_law_odd_filling" (defArgs s_law_odd_filling) (defBody s_law_odd_filling) (defScope s_law_odd_filling) .none kV29 dc29 pm29 an29 cd29 ct29), sl29⟩)
    (c_law_odd_filling : PySem.W.codeIn K cd29 "_law_odd_filling" = true)
    (k_law_odd_filling : PySem.W.keepIn K (.ref f29) = true)
    (l_law_same : K.lookup f30 = some ⟨oc30, od30, .func (PySem.W.fnOf "_law_same" "_law_same" (defArgs s_law_same) (defBody s_law_same) (defScope s_law_same) .none kV30 dc30 pm30 an30 cd30 ct30), sl30⟩)
    (c_law_same : PySem.W.codeIn K cd30 "_law_same" = true)
    (k_law_same : PySem.W.keepIn K (.ref f30) = true)
    (l_law_put : K.lookup f31 = some ⟨oc31, od31, .func (PySem.W.fnOf "_law_put" "_law_put" (defArgs s_law_put) (defBody s_law_put) (defScope s_law_put) .none kV31 dc31 pm31 an31 cd31 ct31), sl31⟩)
    (c_law_put : PySem.W.codeIn K cd31 "_law_put" = true)
    (k_law_put : PySem.W.keepIn K (.ref f31) = true)
    (l_law_opened : K.lookup f32 = some ⟨oc32, od32, .func (PySem.W.fnOf "_law_opened" "_law_opened" (defArgs s_law_opened) (defBody s_law_opened) (defScope s_law_opened) .none kV32 dc32 pm32 an32 cd32 ct32), sl32⟩)
    (c_law_opened : PySem.W.codeIn K cd32 "_law_opened" = true)
    (k_law_opened : PySem.W.keepIn K (.ref f32) = true)
    (l_law_told : K.lookup f33 = some ⟨oc33, od33, .func (PySem.W.fnOf "_law_told" "_law_told" (defArgs s_law_told) (defBody s_law_told) (defScope s_law_told) .none kV33 dc33 pm33 an33 cd33 ct33), sl33⟩)
    (c_law_told : PySem.W.codeIn K cd33 "_law_told" = true)
    (k_law_told : PySem.W.keepIn K (.ref f33) = true)
    (l_law_stands : K.lookup f34 = some ⟨oc34, od34, .func (PySem.W.fnOf "_law_stands" "_law_stands" (defArgs s_law_stands) (defBody s_law_stands) (defScope s_law_stands) .none kV34 dc34 pm34 an34 cd34 ct34), sl34⟩)
    (c_law_stands : PySem.W.codeIn K cd34 "_law_stands" = true)
    (k_law_stands : PySem.W.keepIn K (.ref f34) = true)
    (l_law_menu : K.lookup f35 = some ⟨oc35, od35, .func (PySem.W.fnOf "_law_menu" "_law_menu" (defArgs s_law_menu) (defBody s_law_menu) (defScope s_law_menu) .none kV35 dc35 pm35 an35 cd35 ct35), sl35⟩)
    (c_law_menu : PySem.W.codeIn K cd35 "_law_menu" = true)
    (k_law_menu : PySem.W.keepIn K (.ref f35) = true)
    (l_law_write : K.lookup f36 = some ⟨oc36, od36, .func (PySem.W.fnOf "_law_write" "_law_write" (defArgs s_law_write) (defBody s_law_write) (defScope s_law_write) .none kV36 dc36 pm36 an36 cd36 ct36), sl36⟩)
    (c_law_write : PySem.W.codeIn K cd36 "_law_write" = true)
    (k_law_write : PySem.W.keepIn K (.ref f36) = true)
    (l_law_refused_write : K.lookup f37 = some ⟨oc37, od37, .func (PySem.W.fnOf "_law_refused_write" "_law_refused_write" (defArgs s_law_refused_write) (defBody s_law_refused_write) (defScope s_law_refused_write) .none kV37 dc37 pm37 an37 cd37 ct37), sl37⟩)
    (c_law_refused_write : PySem.W.codeIn K cd37 "_law_refused_write" = true)
    (k_law_refused_write : PySem.W.keepIn K (.ref f37) = true)
    (l_law_refused_cut : K.lookup f38 = some ⟨oc38, od38, .func (PySem.W.fnOf "_law_refused_cut" "_law_refused_cut" (defArgs s_law_refused_cut) (defBody s_law_refused_cut) (defScope s_law_refused_cut) .none kV38 dc38 pm38 an38 cd38 ct38), sl38⟩)
    (c_law_refused_cut : PySem.W.codeIn K cd38 "_law_refused_cut" = true)
    (k_law_refused_cut : PySem.W.keepIn K (.ref f38) = true)
    (l_law_turn : K.lookup f39 = some ⟨oc39, od39, .func (PySem.W.fnOf "_law_turn" "_law_turn" (defArgs s_law_turn) (defBody s_law_turn) (defScope s_law_turn) .none kV39 dc39 pm39 an39 cd39 ct39), sl39⟩)
    (c_law_turn : PySem.W.codeIn K cd39 "_law_turn" = true)
    (k_law_turn : PySem.W.keepIn K (.ref f39) = true)
    (l_law_begun : K.lookup f40 = some ⟨oc40, od40, .func (PySem.W.fnOf "_law_begun" "_law_begun" (defArgs s_law_begun) (defBody s_law_begun) (defScope s_law_begun) .none kV40 dc40 pm40 an40 cd40 ct40), sl40⟩)
    (c_law_begun : PySem.W.codeIn K cd40 "_law_begun" = true)
    (k_law_begun : PySem.W.keepIn K (.ref f40) = true)
    (l_law_right : K.lookup f41 = some ⟨oc41, od41, .func (PySem.W.fnOf "_law_right" "_law_right" (defArgs s_law_right) (defBody s_law_right) (defScope s_law_right) .none kV41 dc41 pm41 an41 cd41 ct41), sl41⟩)
    (c_law_right : PySem.W.codeIn K cd41 "_law_right" = true)
    (k_law_right : PySem.W.keepIn K (.ref f41) = true)
    (l_law_many_right : K.lookup f42 = some ⟨oc42, od42, .func (PySem.W.fnOf "_law_many_right" "_law_many_right" (defArgs s_law_many_right) (defBody s_law_many_right) (defScope s_law_many_right) .none kV42 dc42 pm42 an42 cd42 ct42), sl42⟩)
    (c_law_many_right : PySem.W.codeIn K cd42 "_law_many_right" = true)
    (k_law_many_right : PySem.W.keepIn K (.ref f42) = true)
    (l_law : K.lookup f43 = some ⟨oc43, od43, .func (PySem.W.fnOf "law" "law" (defArgs s_law) (defBody s_law) (defScope s_law) .none kV43 dc43 pm43 an43 cd43 ct43), sl43⟩)
    (c_law : PySem.W.codeIn K cd43 "law" = true)
    (k_law : PySem.W.keepIn K (.ref f43) = true)
    (l_InvalidFilling___init : K.lookup f400 = some ⟨oc400, od400, .func (PySem.W.fnOf "__init__" "InvalidFilling.__init__" (defArgs s_InvalidFilling___init) (defBody s_InvalidFilling___init) (defScope s_InvalidFilling___init) .none kV400 dc400 pm400 an400 cd400 ct400), sl400⟩)
    (c_InvalidFilling___init : PySem.W.codeIn K cd400 "InvalidFilling.__init__" = true)
    (k_InvalidFilling___init : PySem.W.keepIn K (.ref f400) = true)
    (l_InvalidBlock___init : K.lookup f500 = some ⟨oc500, od500, .func (PySem.W.fnOf "__init__" "InvalidBlock.__init__" (defArgs s_InvalidBlock___init) (defBody s_InvalidBlock___init) (defScope s_InvalidBlock___init) .none kV500 dc500 pm500 an500 cd500 ct500), sl500⟩)
    (c_InvalidBlock___init : PySem.W.codeIn K cd500 "InvalidBlock.__init__" = true)
    (k_InvalidBlock___init : PySem.W.keepIn K (.ref f500) = true)
    (l_InvalidContent___init : K.lookup f600 = some ⟨oc600, od600, .func (PySem.W.fnOf "__init__" "InvalidContent.__init__" (defArgs s_InvalidContent___init) (defBody s_InvalidContent___init) (defScope s_InvalidContent___init) .none kV600 dc600 pm600 an600 cd600 ct600), sl600⟩)
    (c_InvalidContent___init : PySem.W.codeIn K cd600 "InvalidContent.__init__" = true)
    (k_InvalidContent___init : PySem.W.keepIn K (.ref f600) = true)
    (l_NotLeft___init : K.lookup f800 = some ⟨oc800, od800, .func (PySem.W.fnOf "__init__" "NotLeft.__init__" (defArgs s_NotLeft___init) (defBody s_NotLeft___init) (defScope s_NotLeft___init) .none kV800 dc800 pm800 an800 cd800 ct800), sl800⟩)
    (c_NotLeft___init : PySem.W.codeIn K cd800 "NotLeft.__init__" = true)
    (k_NotLeft___init : PySem.W.keepIn K (.ref f800) = true)
    (fn_Drive_write : PySem.W.isFn K (.ref f2201) = true)
    (fn_Drive_sync : PySem.W.isFn K (.ref f2202) = true)
    (fn_Drive_pending : PySem.W.isFn K (.ref f2203) = true)
    (fn_Drive_settled : PySem.W.isFn K (.ref f2204) = true)
    (fn_Drive_filling : PySem.W.isFn K (.ref f2205) = true)
    (fn_Drive_may_leave : PySem.W.isFn K (.ref f2207) = true)
    (fn_Drive_cut : PySem.W.isFn K (.ref f2208) = true)
    (fn_Drive__settle : PySem.W.isFn K (.ref f2209) = true)
    (fn_Drive__choices : PySem.W.isFn K (.ref f2210) = true)
    (pg_Disk : PySem.W.plainGet K C100017 Str.empty = true)
    (hd_Disk : PySem.W.hasDictIn K C100017 = true)
    (po_Disk : PySem.W.plainOver K C100017 = true)
    (sa_Disk : PySem.W.findIn K (.ref C100017) "__setattr__" = some (some (.builtin "object.__setattr__")))
    (mk_Disk : PySem.W.makesIn K C100017 = true)
    (kc_Disk : PySem.W.keepIn K (.ref C100017) = true)
    (fi_Disk : PySem.W.isFn K (.ref f1700) = true)
    (qf_Disk : PySem.W.isFn K (.ref f1701) = true)
    (cc_Disk : PySem.W.findIn K (.ref C100017) "__class__" = some (some (.builtin "object.__class__")))
    (mr_Disk : PySem.W.mroIn K C100017 (.type "object") = some true)
    (na_Disk_blocks : PySem.W.findIn K (.ref C100017) "blocks" = some none)
    (na_Disk_contents : PySem.W.findIn K (.ref C100017) "contents" = some none)
    (pg_Drive : PySem.W.plainGet K C100022 Str.empty = true)
    (hd_Drive : PySem.W.hasDictIn K C100022 = true)
    (po_Drive : PySem.W.plainOver K C100022 = true)
    (sa_Drive : PySem.W.findIn K (.ref C100022) "__setattr__" = some (some (.builtin "object.__setattr__")))
    (mk_Drive : PySem.W.makesIn K C100022 = true)
    (kc_Drive : PySem.W.keepIn K (.ref C100022) = true)
    (fi_Drive : PySem.W.isFn K (.ref f2200) = true)
    (na_Drive_disk : PySem.W.findIn K (.ref C100022) "disk" = some none)
    (na_Drive_torn : PySem.W.findIn K (.ref C100022) "torn" = some none)
    (na_Drive__settled : PySem.W.findIn K (.ref C100022) "_settled" = some none)
    (na_Drive__pending : PySem.W.findIn K (.ref C100022) "_pending" = some none)
    (xl_InvalidFilling : K.lookup C100004 = some (excClassObj nm100004 q100004 C100004 N100004 bs100004 bm100004 true sn100004 sub100004 ab100004 col100004 dd100004 m0100004 m1100004 m2100004 m3100004 m5100004 "ValueError.__new__"))
    (rv_InvalidFilling : PySem.HandSPX.refsVE bm100004 = true)
    (sa_InvalidFilling : PySem.W.findIn K (.ref C100004) "__setattr__" = some (some (.builtin "object.__setattr__")))
    (eb_InvalidFilling : PySem.W.subIn K (.ref C100004) (.type "BaseException") = some true)
    (ty_InvalidFilling : PySem.W.typeIn K (.ref C100004) = some (.type "type"))
    (ke_InvalidFilling : PySem.W.keepIn K (.ref C100004) = true)
    (ga_InvalidFilling : PySem.W.findIn K (.ref C100004) "__getattribute__" = some (some (.builtin "BaseException.__getattribute__")))
    (gg_InvalidFilling : PySem.W.findIn K (.ref C100004) "__getattr__" = some none)
    (hd_InvalidFilling : PySem.W.hasDictIn K C100004 = true)
    (ic_InvalidFilling : PySem.W.isClsIn K C100004 = true)
    (nf_InvalidFilling : PySem.W.findIn K (.ref C100004) "given" = some none)
    (ti_InvalidFilling : PySem.W.typeIn K (.ref f400) = some (.type "function"))
    (xl_InvalidBlock : K.lookup C100005 = some (excClassObj nm100005 q100005 C100005 N100005 bs100005 bm100005 true sn100005 sub100005 ab100005 col100005 dd100005 m0100005 m1100005 m2100005 m3100005 m5100005 "ValueError.__new__"))
    (rv_InvalidBlock : PySem.HandSPX.refsVE bm100005 = true)
    (sa_InvalidBlock : PySem.W.findIn K (.ref C100005) "__setattr__" = some (some (.builtin "object.__setattr__")))
    (eb_InvalidBlock : PySem.W.subIn K (.ref C100005) (.type "BaseException") = some true)
    (ty_InvalidBlock : PySem.W.typeIn K (.ref C100005) = some (.type "type"))
    (ke_InvalidBlock : PySem.W.keepIn K (.ref C100005) = true)
    (ga_InvalidBlock : PySem.W.findIn K (.ref C100005) "__getattribute__" = some (some (.builtin "BaseException.__getattribute__")))
    (gg_InvalidBlock : PySem.W.findIn K (.ref C100005) "__getattr__" = some none)
    (hd_InvalidBlock : PySem.W.hasDictIn K C100005 = true)
    (ic_InvalidBlock : PySem.W.isClsIn K C100005 = true)
    (nf_InvalidBlock : PySem.W.findIn K (.ref C100005) "given" = some none)
    (ti_InvalidBlock : PySem.W.typeIn K (.ref f500) = some (.type "function"))
    (xl_InvalidContent : K.lookup C100006 = some (excClassObj nm100006 q100006 C100006 N100006 bs100006 bm100006 true sn100006 sub100006 ab100006 col100006 dd100006 m0100006 m1100006 m2100006 m3100006 m5100006 "ValueError.__new__"))
    (rv_InvalidContent : PySem.HandSPX.refsVE bm100006 = true)
    (sa_InvalidContent : PySem.W.findIn K (.ref C100006) "__setattr__" = some (some (.builtin "object.__setattr__")))
    (eb_InvalidContent : PySem.W.subIn K (.ref C100006) (.type "BaseException") = some true)
    (ty_InvalidContent : PySem.W.typeIn K (.ref C100006) = some (.type "type"))
    (ke_InvalidContent : PySem.W.keepIn K (.ref C100006) = true)
    (ga_InvalidContent : PySem.W.findIn K (.ref C100006) "__getattribute__" = some (some (.builtin "BaseException.__getattribute__")))
    (gg_InvalidContent : PySem.W.findIn K (.ref C100006) "__getattr__" = some none)
    (hd_InvalidContent : PySem.W.hasDictIn K C100006 = true)
    (ic_InvalidContent : PySem.W.isClsIn K C100006 = true)
    (nf_InvalidContent : PySem.W.findIn K (.ref C100006) "given" = some none)
    (ti_InvalidContent : PySem.W.typeIn K (.ref f600) = some (.type "function"))
    (xl_NotLeft : K.lookup C100008 = some (excClassObj nm100008 q100008 C100008 N100008 bs100008 bm100008 true sn100008 sub100008 ab100008 col100008 dd100008 m0100008 m1100008 m2100008 m3100008 m5100008 "ValueError.__new__"))
    (rv_NotLeft : PySem.HandSPX.refsVE bm100008 = true)
    (sa_NotLeft : PySem.W.findIn K (.ref C100008) "__setattr__" = some (some (.builtin "object.__setattr__")))
    (eb_NotLeft : PySem.W.subIn K (.ref C100008) (.type "BaseException") = some true)
    (ty_NotLeft : PySem.W.typeIn K (.ref C100008) = some (.type "type"))
    (ke_NotLeft : PySem.W.keepIn K (.ref C100008) = true)
    (ga_NotLeft : PySem.W.findIn K (.ref C100008) "__getattribute__" = some (some (.builtin "BaseException.__getattribute__")))
    (gg_NotLeft : PySem.W.findIn K (.ref C100008) "__getattr__" = some none)
    (hd_NotLeft : PySem.W.hasDictIn K C100008 = true)
    (ic_NotLeft : PySem.W.isClsIn K C100008 = true)
    (nf_NotLeft : PySem.W.findIn K (.ref C100008) "filling" = some none)
    (ti_NotLeft : PySem.W.typeIn K (.ref f800) = some (.type "function"))
    (su_InvalidFilling_InvalidFilling : PySem.W.subIn K (.ref C100004) (.ref C100004) = some true)
    (su_InvalidFilling_InvalidBlock : PySem.W.subIn K (.ref C100004) (.ref C100005) = some false)
    (su_InvalidFilling_InvalidContent : PySem.W.subIn K (.ref C100004) (.ref C100006) = some false)
    (su_InvalidFilling_NotLeft : PySem.W.subIn K (.ref C100004) (.ref C100008) = some false)
    (su_InvalidBlock_InvalidFilling : PySem.W.subIn K (.ref C100005) (.ref C100004) = some false)
    (su_InvalidBlock_InvalidBlock : PySem.W.subIn K (.ref C100005) (.ref C100005) = some true)
    (su_InvalidBlock_InvalidContent : PySem.W.subIn K (.ref C100005) (.ref C100006) = some false)
    (su_InvalidBlock_NotLeft : PySem.W.subIn K (.ref C100005) (.ref C100008) = some false)
    (su_InvalidContent_InvalidFilling : PySem.W.subIn K (.ref C100006) (.ref C100004) = some false)
    (su_InvalidContent_InvalidBlock : PySem.W.subIn K (.ref C100006) (.ref C100005) = some false)
    (su_InvalidContent_InvalidContent : PySem.W.subIn K (.ref C100006) (.ref C100006) = some true)
    (su_InvalidContent_NotLeft : PySem.W.subIn K (.ref C100006) (.ref C100008) = some false)
    (su_NotLeft_InvalidFilling : PySem.W.subIn K (.ref C100008) (.ref C100004) = some false)
    (su_NotLeft_InvalidBlock : PySem.W.subIn K (.ref C100008) (.ref C100005) = some false)
    (su_NotLeft_InvalidContent : PySem.W.subIn K (.ref C100008) (.ref C100006) = some false)
    (su_NotLeft_NotLeft : PySem.W.subIn K (.ref C100008) (.ref C100008) = some true)
    (v_MOST_BLOCKS : PySem.W.nsIn K mainGlobals "MOST_BLOCKS" = some (some (.int 24 tk_MOST_BLOCKS)))
    (v_LEAST_CONTENTS : PySem.W.nsIn K mainGlobals "LEAST_CONTENTS" = some (some (.int 2 tk_LEAST_CONTENTS)))
    (v_MOST_CONTENTS : PySem.W.nsIn K mainGlobals "MOST_CONTENTS" = some (some (.int 64 tk_MOST_CONTENTS)))
    (v_MOST_LISTED : PySem.W.nsIn K mainGlobals "MOST_LISTED" = some (some (.int 20000 tk_MOST_LISTED)))
    (gs_cls : PySem.W.specialIn K (.builtin "object.__class__") "__get__" = some (some (.builtin "getset_descriptor.__get__")))
    (tk_cls : PySem.W.takesIn K (.builtin "object.__class__") = some true)
    (n_len : PySem.W.nsIn K mainGlobals "len" = some none)
    (n_int : PySem.W.nsIn K mainGlobals "int" = some none)
    (n_sum : PySem.W.nsIn K mainGlobals "sum" = some none)
    (n_abs : PySem.W.nsIn K mainGlobals "abs" = some none)
    (n_isinstance : PySem.W.nsIn K mainGlobals "isinstance" = some none)
    (n_bool : PySem.W.nsIn K mainGlobals "bool" = some none)
    (n_tuple : PySem.W.nsIn K mainGlobals "tuple" = some none)
    (n_list : PySem.W.nsIn K mainGlobals "list" = some none)
    (n_dict : PySem.W.nsIn K mainGlobals "dict" = some none)
    (n_all : PySem.W.nsIn K mainGlobals "all" = some none)
    (n_range : PySem.W.nsIn K mainGlobals "range" = some none)
    (n_sorted : PySem.W.nsIn K mainGlobals "sorted" = some none)
    (n_set : PySem.W.nsIn K mainGlobals "set" = some none)
    (n_repr : PySem.W.nsIn K mainGlobals "repr" = some none)
    (n_zip : PySem.W.nsIn K mainGlobals "zip" = some none)
    (n_max : PySem.W.nsIn K mainGlobals "max" = some none)
    (n_min : PySem.W.nsIn K mainGlobals "min" = some none) :
    ∃ fd : FuncData, (∀ (s : Shared) (u : Value), BindsTo s fd ⟨[u], []⟩ [("script", u)]) ∧ ∀ base : Heap, K.In base → base.Ns mainGlobals mg → FnG P w K mg base CX0 10 fa fd ["script"] (spLaw K) := by
  have e := hfa.symm.trans (PySem.W.mg_of X G g_law)
  cases e
  have T : Tx K mg (fun n => [(14, f14), (18, f18), (19, f19), (20, f20), (25, f25), (26, f26), (27, f27), (28, f28), (29, f29), (30, f30), (31, f31), (32, f32), (33, f33), (34, f34), (35, f35), (36, f36), (37, f37), (38, f38), (39, f39), (40, f40), (41, f41), (42, f42), (43, fa), (400, f400), (500, f500), (600, f600), (800, f800), (1700, f1700), (1701, f1701), (2200, f2200), (2201, f2201), (2202, f2202), (2203, f2203), (2204, f2204), (2205, f2205), (2207, f2207), (2208, f2208), (2209, f2209), (2210, f2210), (100004, C100004), (100005, C100005), (100006, C100006), (100008, C100008), (100017, C100017), (100022, C100022)].lookup n |>.getD 0) (fun n => [(14, (PySem.W.fnOf "is_within" "is_within" (defArgs s_is_within) (defBody s_is_within) (defScope s_is_within) .none kV14 dc14 pm14 an14 cd14 ct14)), (18, (PySem.W.fnOf "is_block" "is_block" (defArgs s_is_block) (defBody s_is_block) (defScope s_is_block) .none kV18 dc18 pm18 an18 cd18 ct18)), (19, (PySem.W.fnOf "is_content" "is_content" (defArgs s_is_content) (defBody s_is_content) (defScope s_is_content) .none kV19 dc19 pm19 an19 cd19 ct19)), (20, (PySem.W.fnOf "is_filling" "is_filling" (defArgs s_is_filling) (defBody s_is_filling) (defScope s_is_filling) .none kV20 dc20 pm20 an20 cd20 ct20)), (25, (PySem.W.fnOf "_law_cell" "_law_cell" (defArgs s_law_cell) (defBody s_law_cell) (defScope s_law_cell) .none kV25 dc25 pm25 an25 cd25 ct25)), (26, (PySem.W.fnOf "_law_box" "_law_box" (defArgs s_law_box) (defBody s_law_box) (defScope s_law_box) .none kV26 dc26 pm26 an26 cd26 ct26)), (27, (PySem.W.fnOf "_law_take" "_law_take" (defArgs s_law_take) (defBody s_law_take) (defScope s_law_take) .none kV27 dc27 pm27 an27 cd27 ct27)), (28, (PySem.W.fnOf "_law_sizes" "_law_sizes" (defArgs s_law_sizes) (defBody s_law_sizes) (defScope s_law_sizes) .none kV28 dc28 pm28 an28 cd28 ct28)), (29, (PySem.W.fnOf "_law_odd_filling" "_law_odd_filling" (defArgs s_law_odd_filling) (defBody s_law_odd_filling) (defScope s_law_odd_filling) .none kV29 dc29 pm29 an29 cd29 ct29)), (30, (PySem.W.fnOf "_law_same" "_law_same" (defArgs s_law_same) (defBody s_law_same) (defScope s_law_same) .none kV30 dc30 pm30 an30 cd30 ct30)), (31, (PySem.W.fnOf "_law_put" "_law_put" (defArgs s_law_put) (defBody s_law_put) (defScope s_law_put) .none kV31 dc31 pm31 an31 cd31 ct31)), (32, (PySem.W.fnOf "_law_opened" "_law_opened" (defArgs s_law_opened) (defBody s_law_opened) (defScope s_law_opened) .none kV32 dc32 pm32 an32 cd32 ct32)), (33, (PySem.W.fnOf "_law_told" "_law_told" (defArgs s_law_told) (defBody s_law_told) (defScope s_law_told) .none kV33 dc33 pm33 an33 cd33 ct33)), (34, (PySem.W.fnOf "_law_stands" "_law_stands" (defArgs s_law_stands) (defBody s_law_stands) (defScope s_law_stands) .none kV34 dc34 pm34 an34 cd34 ct34)), (35, (PySem.W.fnOf "_law_menu" "_law_menu" (defArgs s_law_menu) (defBody s_law_menu) (defScope s_law_menu) .none kV35 dc35 pm35 an35 cd35 ct35)), (36, (PySem.W.fnOf "_law_write" "_law_write" (defArgs s_law_write) (defBody s_law_write) (defScope s_law_write) .none kV36 dc36 pm36 an36 cd36 ct36)), (37, (PySem.W.fnOf "_law_refused_write" "_law_refused_write" (defArgs s_law_refused_write) (defBody s_law_refused_write) (defScope s_law_refused_write) .none kV37 dc37 pm37 an37 cd37 ct37)), (38, (PySem.W.fnOf "_law_refused_cut" "_law_refused_cut" (defArgs s_law_refused_cut) (defBody s_law_refused_cut) (defScope s_law_refused_cut) .none kV38 dc38 pm38 an38 cd38 ct38)), (39, (PySem.W.fnOf "_law_turn" "_law_turn" (defArgs s_law_turn) (defBody s_law_turn) (defScope s_law_turn) .none kV39 dc39 pm39 an39 cd39 ct39)), (40, (PySem.W.fnOf "_law_begun" "_law_begun" (defArgs s_law_begun) (defBody s_law_begun) (defScope s_law_begun) .none kV40 dc40 pm40 an40 cd40 ct40)), (41, (PySem.W.fnOf "_law_right" "_law_right" (defArgs s_law_right) (defBody s_law_right) (defScope s_law_right) .none kV41 dc41 pm41 an41 cd41 ct41)), (42, (PySem.W.fnOf "_law_many_right" "_law_many_right" (defArgs s_law_many_right) (defBody s_law_many_right) (defScope s_law_many_right) .none kV42 dc42 pm42 an42 cd42 ct42)), (43, (PySem.W.fnOf "law" "law" (defArgs s_law) (defBody s_law) (defScope s_law) .none kV43 dc43 pm43 an43 cd43 ct43)), (400, (PySem.W.fnOf "__init__" "InvalidFilling.__init__" (defArgs s_InvalidFilling___init) (defBody s_InvalidFilling___init) (defScope s_InvalidFilling___init) .none kV400 dc400 pm400 an400 cd400 ct400)), (500, (PySem.W.fnOf "__init__" "InvalidBlock.__init__" (defArgs s_InvalidBlock___init) (defBody s_InvalidBlock___init) (defScope s_InvalidBlock___init) .none kV500 dc500 pm500 an500 cd500 ct500)), (600, (PySem.W.fnOf "__init__" "InvalidContent.__init__" (defArgs s_InvalidContent___init) (defBody s_InvalidContent___init) (defScope s_InvalidContent___init) .none kV600 dc600 pm600 an600 cd600 ct600)), (800, (PySem.W.fnOf "__init__" "NotLeft.__init__" (defArgs s_NotLeft___init) (defBody s_NotLeft___init) (defScope s_NotLeft___init) .none kV800 dc800 pm800 an800 cd800 ct800)), (1700, (PySem.W.fnOf "__init__" "Disk.__init__" (defArgs s_Disk___init) (defBody s_Disk___init) (defScope s_Disk___init) .none kV1700 dc1700 pm1700 an1700 cd1700 ct1700)), (1701, (PySem.W.fnOf "__eq__" "Disk.__eq__" (defArgs s_Disk___eq) (defBody s_Disk___eq) (defScope s_Disk___eq) .none kV1701 dc1701 pm1701 an1701 cd1701 ct1701)), (2200, (PySem.W.fnOf "__init__" "Drive.__init__" (defArgs s_Drive___init) (defBody s_Drive___init) (defScope s_Drive___init) .none (.ref kD2200) dc2200 pm2200 an2200 cd2200 ct2200)), (2201, (PySem.W.fnOf "write" "Drive.write" (defArgs s_Drive_write) (defBody s_Drive_write) (defScope s_Drive_write) .none kV2201 dc2201 pm2201 an2201 cd2201 ct2201)), (2202, (PySem.W.fnOf "sync" "Drive.sync" (defArgs s_Drive_sync) (defBody s_Drive_sync) (defScope s_Drive_sync) .none kV2202 dc2202 pm2202 an2202 cd2202 ct2202)), (2203, (PySem.W.fnOf "pending" "Drive.pending" (defArgs s_Drive_pending) (defBody s_Drive_pending) (defScope s_Drive_pending) .none kV2203 dc2203 pm2203 an2203 cd2203 ct2203)), (2204, (PySem.W.fnOf "settled" "Drive.settled" (defArgs s_Drive_settled) (defBody s_Drive_settled) (defScope s_Drive_settled) .none kV2204 dc2204 pm2204 an2204 cd2204 ct2204)), (2205, (PySem.W.fnOf "filling" "Drive.filling" (defArgs s_Drive_filling) (defBody s_Drive_filling) (defScope s_Drive_filling) .none kV2205 dc2205 pm2205 an2205 cd2205 ct2205)), (2207, (PySem.W.fnOf "may_leave" "Drive.may_leave" (defArgs s_Drive_may_leave) (defBody s_Drive_may_leave) (defScope s_Drive_may_leave) .none kV2207 dc2207 pm2207 an2207 cd2207 ct2207)), (2208, (PySem.W.fnOf "cut" "Drive.cut" (defArgs s_Drive_cut) (defBody s_Drive_cut) (defScope s_Drive_cut) .none kV2208 dc2208 pm2208 an2208 cd2208 ct2208)), (2209, (PySem.W.fnOf "_settle" "Drive._settle" (defArgs s_Drive__settle) (defBody s_Drive__settle) (defScope s_Drive__settle) .none kV2209 dc2209 pm2209 an2209 cd2209 ct2209)), (2210, (PySem.W.fnOf "_choices" "Drive._choices" (defArgs s_Drive__choices) (defBody s_Drive__choices) (defScope s_Drive__choices) .none kV2210 dc2210 pm2210 an2210 cd2210 ct2210))].lookup n |>.getD (PySem.W.fnOf "law" "law" (defArgs s_law) (defBody s_law) (defScope s_law) .none kV43 dc43 pm43 an43 cd43 ct43)) :=
    { f_is_within := fun_mk (st := s_is_within) l_is_within c_is_within k_is_within,
      g_is_within := PySem.W.mg_of X G g_is_within,
      f_Disk___init := fun_mk (st := s_Disk___init) l_Disk___init c_Disk___init k_Disk___init,
      f_Disk___eq := fun_mk (st := s_Disk___eq) l_Disk___eq c_Disk___eq k_Disk___eq,
      f_is_block := fun_mk (st := s_is_block) l_is_block c_is_block k_is_block,
      g_is_block := PySem.W.mg_of X G g_is_block,
      f_is_content := fun_mk (st := s_is_content) l_is_content c_is_content k_is_content,
      g_is_content := PySem.W.mg_of X G g_is_content,
      f_is_filling := fun_mk (st := s_is_filling) l_is_filling c_is_filling k_is_filling,
      g_is_filling := PySem.W.mg_of X G g_is_filling,
      d_Drive___init := ⟨⟨_, _, _, _, _, _, _, _, _, _, rfl, l_Drive___init, c_Drive___init, .inl ⟨rfl, rfl⟩, .inr ⟨_, rfl, fun q hq => by rw [List.mem_singleton.mp hq]; exact ⟨_, kw_Drive___init, rfl⟩⟩⟩, k_Drive___init⟩,
      f_Drive_write := fun_mk (st := s_Drive_write) l_Drive_write c_Drive_write k_Drive_write,
      f_Drive_sync := fun_mk (st := s_Drive_sync) l_Drive_sync c_Drive_sync k_Drive_sync,
      f_Drive_pending := fun_mk (st := s_Drive_pending) l_Drive_pending c_Drive_pending k_Drive_pending,
      f_Drive_settled := fun_mk (st := s_Drive_settled) l_Drive_settled c_Drive_settled k_Drive_settled,
      f_Drive_filling := fun_mk (st := s_Drive_filling) l_Drive_filling c_Drive_filling k_Drive_filling,
      f_Drive_may_leave := fun_mk (st := s_Drive_may_leave) l_Drive_may_leave c_Drive_may_leave k_Drive_may_leave,
      f_Drive_cut := fun_mk (st := s_Drive_cut) l_Drive_cut c_Drive_cut k_Drive_cut,
      f_Drive__settle := fun_mk (st := s_Drive__settle) l_Drive__settle c_Drive__settle k_Drive__settle,
      f_Drive__choices := fun_mk (st := s_Drive__choices) l_Drive__choices c_Drive__choices k_Drive__choices,
      f_law_cell := fun_mk (st := s_law_cell) l_law_cell c_law_cell k_law_cell,
      g_law_cell := PySem.W.mg_of X G g_law_cell,
      f_law_box := fun_mk (st := s_law_box) l_law_box c_law_box k_law_box,
      g_law_box := PySem.W.mg_of X G g_law_box,
      f_law_take := fun_mk (st := s_law_take) l_law_take c_law_take k_law_take,
      g_law_take := PySem.W.mg_of X G g_law_take,
      f_law_sizes := fun_mk (st := s_law_sizes) l_law_sizes c_law_sizes k_law_sizes,
      g_law_sizes := PySem.W.mg_of X G g_law_sizes,
      f_law_odd_filling := fun_mk (st := s_law_odd_filling) l_law_odd_filling c_law_odd_filling k_law_odd_filling,
      g_law_odd_filling := PySem.W.mg_of X G g_law_odd_filling,
      f_law_same := fun_mk (st := s_law_same) l_law_same c_law_same k_law_same,
      g_law_same := PySem.W.mg_of X G g_law_same,
      f_law_put := fun_mk (st := s_law_put) l_law_put c_law_put k_law_put,
      g_law_put := PySem.W.mg_of X G g_law_put,
      f_law_opened := fun_mk (st := s_law_opened) l_law_opened c_law_opened k_law_opened,
      g_law_opened := PySem.W.mg_of X G g_law_opened,
      f_law_told := fun_mk (st := s_law_told) l_law_told c_law_told k_law_told,
      g_law_told := PySem.W.mg_of X G g_law_told,
      f_law_stands := fun_mk (st := s_law_stands) l_law_stands c_law_stands k_law_stands,
      g_law_stands := PySem.W.mg_of X G g_law_stands,
      f_law_menu := fun_mk (st := s_law_menu) l_law_menu c_law_menu k_law_menu,
      g_law_menu := PySem.W.mg_of X G g_law_menu,
      f_law_write := fun_mk (st := s_law_write) l_law_write c_law_write k_law_write,
      g_law_write := PySem.W.mg_of X G g_law_write,
      f_law_refused_write := fun_mk (st := s_law_refused_write) l_law_refused_write c_law_refused_write k_law_refused_write,
      g_law_refused_write := PySem.W.mg_of X G g_law_refused_write,
      f_law_refused_cut := fun_mk (st := s_law_refused_cut) l_law_refused_cut c_law_refused_cut k_law_refused_cut,
      g_law_refused_cut := PySem.W.mg_of X G g_law_refused_cut,
      f_law_turn := fun_mk (st := s_law_turn) l_law_turn c_law_turn k_law_turn,
      g_law_turn := PySem.W.mg_of X G g_law_turn,
      f_law_begun := fun_mk (st := s_law_begun) l_law_begun c_law_begun k_law_begun,
      g_law_begun := PySem.W.mg_of X G g_law_begun,
      f_law_right := fun_mk (st := s_law_right) l_law_right c_law_right k_law_right,
      g_law_right := PySem.W.mg_of X G g_law_right,
      f_law_many_right := fun_mk (st := s_law_many_right) l_law_many_right c_law_many_right k_law_many_right,
      g_law_many_right := PySem.W.mg_of X G g_law_many_right,
      f_law := fun_mk (st := s_law) l_law c_law k_law,
      g_law := PySem.W.mg_of X G g_law,
      f_InvalidFilling___init := fun_mk (st := s_InvalidFilling___init) l_InvalidFilling___init c_InvalidFilling___init k_InvalidFilling___init,
      f_InvalidBlock___init := fun_mk (st := s_InvalidBlock___init) l_InvalidBlock___init c_InvalidBlock___init k_InvalidBlock___init,
      f_InvalidContent___init := fun_mk (st := s_InvalidContent___init) l_InvalidContent___init c_InvalidContent___init k_InvalidContent___init,
      f_NotLeft___init := fun_mk (st := s_NotLeft___init) l_NotLeft___init c_NotLeft___init k_NotLeft___init,
      m_Drive_write := ⟨at_Drive_write, fn_Drive_write, k_Drive_write⟩,
      m_Drive_sync := ⟨at_Drive_sync, fn_Drive_sync, k_Drive_sync⟩,
      m_Drive_pending := ⟨at_Drive_pending, fn_Drive_pending, k_Drive_pending⟩,
      m_Drive_settled := ⟨at_Drive_settled, fn_Drive_settled, k_Drive_settled⟩,
      m_Drive_filling := ⟨at_Drive_filling, fn_Drive_filling, k_Drive_filling⟩,
      m_Drive_may_leave := ⟨at_Drive_may_leave, fn_Drive_may_leave, k_Drive_may_leave⟩,
      m_Drive_cut := ⟨at_Drive_cut, fn_Drive_cut, k_Drive_cut⟩,
      m_Drive__settle := ⟨at_Drive__settle, fn_Drive__settle, k_Drive__settle⟩,
      m_Drive__choices := ⟨at_Drive__choices, fn_Drive__choices, k_Drive__choices⟩,
      c_Disk := ⟨pg_Disk, hd_Disk, po_Disk, sa_Disk⟩,
      g_Disk := PySem.W.mg_of X G g_Disk,
      k_Disk := ⟨mk_Disk, at_Disk___init, fi_Disk, kc_Disk⟩,
      q_Disk := at_Disk___eq,
      qf_Disk := qf_Disk,
      cc_Disk := cc_Disk,
      mr_Disk := mr_Disk,
      a_Disk_blocks := na_Disk_blocks,
      a_Disk_contents := na_Disk_contents,
      c_Drive := ⟨pg_Drive, hd_Drive, po_Drive, sa_Drive⟩,
      g_Drive := PySem.W.mg_of X G g_Drive,
      k_Drive := ⟨mk_Drive, at_Drive___init, fi_Drive, kc_Drive⟩,
      a_Drive_disk := na_Drive_disk,
      a_Drive_torn := na_Drive_torn,
      a_Drive__settled := na_Drive__settled,
      a_Drive__pending := na_Drive__pending,
      g_InvalidFilling := PySem.W.mg_of X G g_InvalidFilling,
      ox_InvalidFilling := ⟨⟨_, _, _, _, _, _, _, _, _, _, _, _, _, _, _, xl_InvalidFilling, rv_InvalidFilling⟩, sa_InvalidFilling, eb_InvalidFilling, ty_InvalidFilling, ke_InvalidFilling⟩,
      xf_InvalidFilling := ⟨ga_InvalidFilling, gg_InvalidFilling, eb_InvalidFilling, hd_InvalidFilling⟩,
      nf_InvalidFilling := nf_InvalidFilling,
      ii_InvalidFilling := at_InvalidFilling___init,
      ti_InvalidFilling := ti_InvalidFilling,
      te_InvalidFilling_InvalidFilling := exmE eb_InvalidFilling ic_InvalidFilling ty_InvalidFilling su_InvalidFilling_InvalidFilling,
      te_InvalidFilling_InvalidBlock := exmE eb_InvalidBlock ic_InvalidBlock ty_InvalidBlock su_InvalidFilling_InvalidBlock,
      te_InvalidFilling_InvalidContent := exmE eb_InvalidContent ic_InvalidContent ty_InvalidContent su_InvalidFilling_InvalidContent,
      te_InvalidFilling_NotLeft := exmE eb_NotLeft ic_NotLeft ty_NotLeft su_InvalidFilling_NotLeft,
      g_InvalidBlock := PySem.W.mg_of X G g_InvalidBlock,
      ox_InvalidBlock := ⟨⟨_, _, _, _, _, _, _, _, _, _, _, _, _, _, _, xl_InvalidBlock, rv_InvalidBlock⟩, sa_InvalidBlock, eb_InvalidBlock, ty_InvalidBlock, ke_InvalidBlock⟩,
      xf_InvalidBlock := ⟨ga_InvalidBlock, gg_InvalidBlock, eb_InvalidBlock, hd_InvalidBlock⟩,
      nf_InvalidBlock := nf_InvalidBlock,
      ii_InvalidBlock := at_InvalidBlock___init,
      ti_InvalidBlock := ti_InvalidBlock,
      te_InvalidBlock_InvalidFilling := exmE eb_InvalidFilling ic_InvalidFilling ty_InvalidFilling su_InvalidBlock_InvalidFilling,
      te_InvalidBlock_InvalidBlock := exmE eb_InvalidBlock ic_InvalidBlock ty_InvalidBlock su_InvalidBlock_InvalidBlock,
      te_InvalidBlock_InvalidContent := exmE eb_InvalidContent ic_InvalidContent ty_InvalidContent su_InvalidBlock_InvalidContent,
      te_InvalidBlock_NotLeft := exmE eb_NotLeft ic_NotLeft ty_NotLeft su_InvalidBlock_NotLeft,
      g_InvalidContent := PySem.W.mg_of X G g_InvalidContent,
      ox_InvalidContent := ⟨⟨_, _, _, _, _, _, _, _, _, _, _, _, _, _, _, xl_InvalidContent, rv_InvalidContent⟩, sa_InvalidContent, eb_InvalidContent, ty_InvalidContent, ke_InvalidContent⟩,
      xf_InvalidContent := ⟨ga_InvalidContent, gg_InvalidContent, eb_InvalidContent, hd_InvalidContent⟩,
      nf_InvalidContent := nf_InvalidContent,
      ii_InvalidContent := at_InvalidContent___init,
      ti_InvalidContent := ti_InvalidContent,
      te_InvalidContent_InvalidFilling := exmE eb_InvalidFilling ic_InvalidFilling ty_InvalidFilling su_InvalidContent_InvalidFilling,
      te_InvalidContent_InvalidBlock := exmE eb_InvalidBlock ic_InvalidBlock ty_InvalidBlock su_InvalidContent_InvalidBlock,
      te_InvalidContent_InvalidContent := exmE eb_InvalidContent ic_InvalidContent ty_InvalidContent su_InvalidContent_InvalidContent,
      te_InvalidContent_NotLeft := exmE eb_NotLeft ic_NotLeft ty_NotLeft su_InvalidContent_NotLeft,
      g_NotLeft := PySem.W.mg_of X G g_NotLeft,
      ox_NotLeft := ⟨⟨_, _, _, _, _, _, _, _, _, _, _, _, _, _, _, xl_NotLeft, rv_NotLeft⟩, sa_NotLeft, eb_NotLeft, ty_NotLeft, ke_NotLeft⟩,
      xf_NotLeft := ⟨ga_NotLeft, gg_NotLeft, eb_NotLeft, hd_NotLeft⟩,
      nf_NotLeft := nf_NotLeft,
      ii_NotLeft := at_NotLeft___init,
      ti_NotLeft := ti_NotLeft,
      te_NotLeft_InvalidFilling := exmE eb_InvalidFilling ic_InvalidFilling ty_InvalidFilling su_NotLeft_InvalidFilling,
      te_NotLeft_InvalidBlock := exmE eb_InvalidBlock ic_InvalidBlock ty_InvalidBlock su_NotLeft_InvalidBlock,
      te_NotLeft_InvalidContent := exmE eb_InvalidContent ic_InvalidContent ty_InvalidContent su_NotLeft_InvalidContent,
      te_NotLeft_NotLeft := exmE eb_NotLeft ic_NotLeft ty_NotLeft su_NotLeft_NotLeft,
      v_MOST_BLOCKS := ⟨_, PySem.W.mg_of X G v_MOST_BLOCKS⟩,
      v_LEAST_CONTENTS := ⟨_, PySem.W.mg_of X G v_LEAST_CONTENTS⟩,
      v_MOST_CONTENTS := ⟨_, PySem.W.mg_of X G v_MOST_CONTENTS⟩,
      v_MOST_LISTED := ⟨_, PySem.W.mg_of X G v_MOST_LISTED⟩,
      gs_cls := gs_cls,
      tk_cls := tk_cls,
      n_len := PySem.W.mg_none_of X G n_len,
      n_int := PySem.W.mg_none_of X G n_int,
      n_sum := PySem.W.mg_none_of X G n_sum,
      n_abs := PySem.W.mg_none_of X G n_abs,
      n_isinstance := PySem.W.mg_none_of X G n_isinstance,
      n_bool := PySem.W.mg_none_of X G n_bool,
      n_tuple := PySem.W.mg_none_of X G n_tuple,
      n_list := PySem.W.mg_none_of X G n_list,
      n_dict := PySem.W.mg_none_of X G n_dict,
      n_all := PySem.W.mg_none_of X G n_all,
      n_range := PySem.W.mg_none_of X G n_range,
      n_sorted := PySem.W.mg_none_of X G n_sorted,
      n_set := PySem.W.mg_none_of X G n_set,
      n_repr := PySem.W.mg_none_of X G n_repr,
      n_zip := PySem.W.mg_none_of X G n_zip,
      n_max := PySem.W.mg_none_of X G n_max,
      n_min := PySem.W.mg_none_of X G n_min }
  exact ⟨_, fun s u => .of_eq rfl, fun base _ _ => ok_law T⟩
theorem walk_law {l : PySem.W.OpenLaw} {q : Program} {loose : List Str} {XP : (Str → Option Value) → Heap → Prop} {YP : World → Heap → Prop} {d : DefRec} {K : Params → PySem.W.Frag}
    (hn : l.most = some 63) (hdf : d.params.defaults = []) (hY : ∀ (w : World) (h : Heap), YP w h → (K w.params).In h)
    (F : ∀ (w : World) (mg : Str → Option Value) (fa : Addr) (h : Heap), (K w.params).In h → h.Ns mainGlobals mg → mg d.name = some (.ref fa) →
      ∃ fd : FuncData, (∀ (s : Shared) (u : Value), BindsTo s fd ⟨[u], []⟩ [("script", u)]) ∧ ∀ base : Heap, (K w.params).In base → base.Ns mainGlobals mg → FnG l.prog w (K w.params) mg base CX0 10 fa fd ["script"] (spLaw (K w.params))) :
    PySem.W.WalkO q loose XP YP l.row.toRowW d [] (fun f vs => PySem.call f vs) :=
  walk_ofG (sp := fun w => spLaw (K w.params)) hn (by decide +kernel) hdf ⟨rfl, by decide, by decide⟩ hY F fun w H a ns hl hO hs => ⟨a, ns, rfl, hs, hl, fun _ => rfl⟩
end Ls

set_option maxHeartbeats 0
open PySem PySem.W PyProof.Rows
open_top hd03 for PySem.Challenge.rw_leastspare_k03_drives

open PySem PySem.W PyProof.Rows
theorem PySem.Challenge.cw_leastspare_k03_drives_holds : PySem.Challenge.rw_leastspare_k03_drives.Holds := by
  refine hd03 ?_
  k_fill
  refine Ls.walk_law (l := PySem.Challenge.rw_leastspare_k03_drives) (by decide +kernel) rfl (fun w h Y => PySem.W.kIn_of Y) ?F
  case F =>
    intro w mg fa h KX G hmg
    refine' Ls.all_mk KX G hmg ?h0 ?h1 ?h2 ?h3 ?h4 ?h5 ?h6 ?h7 ?h8 ?h9 ?h10 ?h11 ?h12 ?h13 ?h14 ?h15 ?h16 ?h17 ?h18 ?h19 ?h20 ?h21 ?h22 ?h23 ?h24 ?h25 ?h26 ?h27 ?h28 ?h29 ?h30 ?h31 ?h32 ?h33 ?h34 ?h35 ?h36 ?h37 ?h38 ?h39 ?h40 ?h41 ?h42 ?h43 ?h44 ?h45 ?h46 ?h47 ?h48 ?h49 ?h50 ?h51 ?h52 ?h53 ?h54 ?h55 ?h56 ?h57 ?h58 ?h59 ?h60 ?h61 ?h62 ?h63 ?h64 ?h65 ?h66 ?h67 ?h68 ?h69 ?h70 ?h71 ?h72 ?h73 ?h74 ?h75 ?h76 ?h77 ?h78 ?h79 ?h80 ?h81 ?h82 ?h83 ?h84 ?h85 ?h86 ?h87 ?h88 ?h89 ?h90 ?h91 ?h92 ?h93 ?h94 ?h95 ?h96 ?h97 ?h98 ?h99 ?h100 ?h101 ?h102 ?h103 ?h104 ?h105 ?h106 ?h107 ?h108 ?h109 ?h110 ?h111 ?h112 ?h113 ?h114 ?h115 ?h116 ?h117 ?h118 ?h119 ?h120 ?h121 ?h122 ?h123 ?h124 ?h125 ?h126 ?h127 ?h128 ?h129 ?h130 ?h131 ?h132 ?h133 ?h134 ?h135 ?h136 ?h137 ?h138 ?h139 ?h140 ?h141 ?h142 ?h143 ?h144 ?h145 ?h146 ?h147 ?h148 ?h149 ?h150 ?h151 ?h152 ?h153 ?h154 ?h155 ?h156 ?h157 ?h158 ?h159 ?h160 ?h161 ?h162 ?h163 ?h164 ?h165 ?h166 ?h167 ?h168 ?h169 ?h170 ?h171 ?h172 ?h173 ?h174 ?h175 ?h176 ?h177 ?h178 ?h179 ?h180 ?h181 ?h182 ?h183 ?h184 ?h185 ?h186 ?h187 ?h188 ?h189 ?h190 ?h191 ?h192 ?h193 ?h194 ?h195 ?h196 ?h197 ?h198 ?h199 ?h200 ?h201 ?h202 ?h203 ?h204 ?h205 ?h206 ?h207 ?h208 ?h209 ?h210 ?h211 ?h212 ?h213 ?h214 ?h215 ?h216 ?h217 ?h218 ?h219 ?h220 ?h221 ?h222 ?h223 ?h224 ?h225 ?h226 ?h227 ?h228 ?h229 ?h230 ?h231 ?h232 ?h233 ?h234 ?h235 ?h236 ?h237 ?h238 ?h239 ?h240 ?h241 ?h242 ?h243 ?h244 ?h245 ?h246 ?h247 ?h248 ?h249 ?h250 ?h251 ?h252 ?h253 ?h254 ?h255 ?h256 ?h257 ?h258 ?h259 ?h260 ?h261 ?h262 ?h263 ?h264 ?h265 ?h266 ?h267 ?h268 ?h269 ?h270 ?h271 ?h272 ?h273 ?h274 ?h275 ?h276 ?h277 ?h278 ?h279 ?h280 ?h281
    (case h0 => first | k_is | rfl | decide +kernel)
    (case h1 => first | k_is | rfl | decide +kernel)
    (case h2 => first | k_is | rfl | decide +kernel)
    (case h3 => first | k_is | rfl | decide +kernel)
    (case h4 => first | k_is | rfl | decide +kernel)
    (case h5 => first | k_is | rfl | decide +kernel)
    (case h6 => first | k_is | rfl | decide +kernel)
    (case h7 => first | k_is | rfl | decide +kernel)
    (case h8 => first | k_is | rfl | decide +kernel)
    (case h9 => first | k_is | rfl | decide +kernel)
    (case h10 => first | k_is | rfl | decide +kernel)
    (case h11 => first | k_is | rfl | decide +kernel)
    (case h12 => first | k_is | rfl | decide +kernel)
    (case h13 => first | k_is | rfl | decide +kernel)
    (case h14 => first | k_is | rfl | decide +kernel)
    (case h15 => first | k_is | rfl | decide +kernel)
    (case h16 => first | k_is | rfl | decide +kernel)
    (case h17 => first | k_is | rfl | decide +kernel)
    (case h18 => first | k_is | rfl | decide +kernel)
    (case h19 => first | k_is | rfl | decide +kernel)
    (case h20 => first | k_is | rfl | decide +kernel)
    (case h21 => first | k_is | rfl | decide +kernel)
    (case h22 => first | k_is | rfl | decide +kernel)
    (case h23 => first | k_is | rfl | decide +kernel)
    (case h24 => first | k_is | rfl | decide +kernel)
    (case h25 => first | k_is | rfl | decide +kernel)
    (case h26 => first | k_is | rfl | decide +kernel)
    (case h27 => first | k_is | rfl | decide +kernel)
    (case h28 => first | k_is | rfl | decide +kernel)
    (case h29 => first | k_is | rfl | decide +kernel)
    (case h30 => first | k_is | rfl | decide +kernel)
    (case h31 => first | k_is | rfl | decide +kernel)
    (case h32 => first | k_is | rfl | decide +kernel)
    (case h33 => first | k_is | rfl | decide +kernel)
    (case h34 => first | k_is | rfl | decide +kernel)
    (case h35 => first | k_is | rfl | decide +kernel)
    (case h36 => first | k_is | rfl | decide +kernel)
    (case h37 => first | k_is | rfl | decide +kernel)
    (case h38 => first | k_is | rfl | decide +kernel)
    (case h39 => first | k_is | rfl | decide +kernel)
    (case h40 => first | k_is | rfl | decide +kernel)
    (case h41 => first | k_is | rfl | decide +kernel)
    (case h42 => first | k_is | rfl | decide +kernel)
    (case h43 => first | k_is | rfl | decide +kernel)
    (case h44 => first | k_is | rfl | decide +kernel)
    (case h45 => first | k_is | rfl | decide +kernel)
    (case h46 => first | k_is | rfl | decide +kernel)
    (case h47 => first | k_is | rfl | decide +kernel)
    (case h48 => first | k_is | rfl | decide +kernel)
    (case h49 => first | k_is | rfl | decide +kernel)
    (case h50 => first | k_is | rfl | decide +kernel)
    (case h51 => first | k_is | rfl | decide +kernel)
    (case h52 => first | k_is | rfl | decide +kernel)
    (case h53 => first | k_is | rfl | decide +kernel)
    (case h54 => first | k_is | rfl | decide +kernel)
    (case h55 => first | k_is | rfl | decide +kernel)
    (case h56 => first | k_is | rfl | decide +kernel)
    (case h57 => first | k_is | rfl | decide +kernel)
    (case h58 => first | k_is | rfl | decide +kernel)
    (case h59 => first | k_is | rfl | decide +kernel)
    (case h60 => first | k_is | rfl | decide +kernel)
    (case h61 => first | k_is | rfl | decide +kernel)
    (case h62 => first | k_is | rfl | decide +kernel)
    (case h63 => first | k_is | rfl | decide +kernel)
    (case h64 => first | k_is | rfl | decide +kernel)
    (case h65 => first | k_is | rfl | decide +kernel)
    (case h66 => first | k_is | rfl | decide +kernel)
    (case h67 => first | k_is | rfl | decide +kernel)
    (case h68 => first | k_is | rfl | decide +kernel)
    (case h69 => first | k_is | rfl | decide +kernel)
    (case h70 => first | k_is | rfl | decide +kernel)
    (case h71 => first | k_is | rfl | decide +kernel)
    (case h72 => first | k_is | rfl | decide +kernel)
    (case h73 => first | k_is | rfl | decide +kernel)
    (case h74 => first | k_is | rfl | decide +kernel)
    (case h75 => first | k_is | rfl | decide +kernel)
    (case h76 => first | k_is | rfl | decide +kernel)
    (case h77 => first | k_is | rfl | decide +kernel)
    (case h78 => first | k_is | rfl | decide +kernel)
    (case h79 => first | k_is | rfl | decide +kernel)
    (case h80 => first | k_is | rfl | decide +kernel)
    (case h81 => first | k_is | rfl | decide +kernel)
    (case h82 => first | k_is | rfl | decide +kernel)
    (case h83 => first | k_is | rfl | decide +kernel)
    (case h84 => first | k_is | rfl | decide +kernel)
    (case h85 => first | k_is | rfl | decide +kernel)
    (case h86 => first | k_is | rfl | decide +kernel)
    (case h87 => first | k_is | rfl | decide +kernel)
    (case h88 => first | k_is | rfl | decide +kernel)
    (case h89 => first | k_is | rfl | decide +kernel)
    (case h90 => first | k_is | rfl | decide +kernel)
    (case h91 => first | k_is | rfl | decide +kernel)
    (case h92 => first | k_is | rfl | decide +kernel)
    (case h93 => first | k_is | rfl | decide +kernel)
    (case h94 => first | k_is | rfl | decide +kernel)
    (case h95 => first | k_is | rfl | decide +kernel)
    (case h96 => first | k_is | rfl | decide +kernel)
    (case h97 => first | k_is | rfl | decide +kernel)
    (case h98 => first | k_is | rfl | decide +kernel)
    (case h99 => first | k_is | rfl | decide +kernel)
    (case h100 => first | k_is | rfl | decide +kernel)
    (case h101 => first | k_is | rfl | decide +kernel)
    (case h102 => first | k_is | rfl | decide +kernel)
    (case h103 => first | k_is | rfl | decide +kernel)
    (case h104 => first | k_is | rfl | decide +kernel)
    (case h105 => first | k_is | rfl | decide +kernel)
    (case h106 => first | k_is | rfl | decide +kernel)
    (case h107 => first | k_is | rfl | decide +kernel)
    (case h108 => first | k_is | rfl | decide +kernel)
    (case h109 => first | k_is | rfl | decide +kernel)
    (case h110 => first | k_is | rfl | decide +kernel)
    (case h111 => first | k_is | rfl | decide +kernel)
    (case h112 => first | k_is | rfl | decide +kernel)
    (case h113 => first | k_is | rfl | decide +kernel)
    (case h114 => first | k_is | rfl | decide +kernel)
    (case h115 => first | k_is | rfl | decide +kernel)
    (case h116 => first | k_is | rfl | decide +kernel)
    (case h117 => first | k_is | rfl | decide +kernel)
    (case h118 => first | k_is | rfl | decide +kernel)
    (case h119 => first | k_is | rfl | decide +kernel)
    (case h120 => first | k_is | rfl | decide +kernel)
    (case h121 => first | k_is | rfl | decide +kernel)
    (case h122 => first | k_is | rfl | decide +kernel)
    (case h123 => first | k_is | rfl | decide +kernel)
    (case h124 => first | k_is | rfl | decide +kernel)
    (case h125 => first | k_is | rfl | decide +kernel)
    (case h126 => first | k_is | rfl | decide +kernel)
    (case h127 => first | k_is | rfl | decide +kernel)
    (case h128 => first | k_is | rfl | decide +kernel)
    (case h129 => first | k_is | rfl | decide +kernel)
    (case h130 => first | k_is | rfl | decide +kernel)
    (case h131 => first | k_is | rfl | decide +kernel)
    (case h132 => first | k_is | rfl | decide +kernel)
    (case h133 => first | k_is | rfl | decide +kernel)
    (case h134 => first | k_is | rfl | decide +kernel)
    (case h135 => first | k_is | rfl | decide +kernel)
    (case h136 => first | k_is | rfl | decide +kernel)
    (case h137 => first | k_is | rfl | decide +kernel)
    (case h138 => first | k_is | rfl | decide +kernel)
    (case h139 => first | k_is | rfl | decide +kernel)
    (case h140 => first | k_is | rfl | decide +kernel)
    (case h141 => first | k_is | rfl | decide +kernel)
    (case h142 => first | k_is | rfl | decide +kernel)
    (case h143 => first | k_is | rfl | decide +kernel)
    (case h144 => first | k_is | rfl | decide +kernel)
    (case h145 => first | k_is | rfl | decide +kernel)
    (case h146 => first | k_is | rfl | decide +kernel)
    (case h147 => first | k_is | rfl | decide +kernel)
    (case h148 => first | k_is | rfl | decide +kernel)
    (case h149 => first | k_is | rfl | decide +kernel)
    (case h150 => first | k_is | rfl | decide +kernel)
    (case h151 => first | k_is | rfl | decide +kernel)
    (case h152 => first | k_is | rfl | decide +kernel)
    (case h153 => first | k_is | rfl | decide +kernel)
    (case h154 => first | k_is | rfl | decide +kernel)
    (case h155 => first | k_is | rfl | decide +kernel)
    (case h156 => first | k_is | rfl | decide +kernel)
    (case h157 => first | k_is | rfl | decide +kernel)
    (case h158 => first | k_is | rfl | decide +kernel)
    (case h159 => first | k_is | rfl | decide +kernel)
    (case h160 => first | k_is | rfl | decide +kernel)
    (case h161 => first | k_is | rfl | decide +kernel)
    (case h162 => first | k_is | rfl | decide +kernel)
    (case h163 => first | k_is | rfl | decide +kernel)
    (case h164 => first | k_is | rfl | decide +kernel)
    (case h165 => first | k_is | rfl | decide +kernel)
    (case h166 => first | k_is | rfl | decide +kernel)
    (case h167 => first | k_is | rfl | decide +kernel)
    (case h168 => first | k_is | rfl | decide +kernel)
    (case h169 => first | k_is | rfl | decide +kernel)
    (case h170 => first | k_is | rfl | decide +kernel)
    (case h171 => first | k_is | rfl | decide +kernel)
    (case h172 => first | k_is | rfl | decide +kernel)
    (case h173 => first | k_is | rfl | decide +kernel)
    (case h174 => first | k_is | rfl | decide +kernel)
    (case h175 => first | k_is | rfl | decide +kernel)
    (case h176 => first | k_is | rfl | decide +kernel)
    (case h177 => first | k_is | rfl | decide +kernel)
    (case h178 => first | k_is | rfl | decide +kernel)
    (case h179 => first | k_is | rfl | decide +kernel)
    (case h180 => first | k_is | rfl | decide +kernel)
    (case h181 => first | k_is | rfl | decide +kernel)
    (case h182 => first | k_is | rfl | decide +kernel)
    (case h183 => first | k_is | rfl | decide +kernel)
    (case h184 => first | k_is | rfl | decide +kernel)
    (case h185 => first | k_is | rfl | decide +kernel)
    (case h186 => first | k_is | rfl | decide +kernel)
    (case h187 => first | k_is | rfl | decide +kernel)
    (case h188 => first | k_is | rfl | decide +kernel)
    (case h189 => first | k_is | rfl | decide +kernel)
    (case h190 => first | k_is | rfl | decide +kernel)
    (case h191 => first | k_is | rfl | decide +kernel)
    (case h192 => first | k_is | rfl | decide +kernel)
    (case h193 => first | k_is | rfl | decide +kernel)
    (case h194 => first | k_is | rfl | decide +kernel)
    (case h195 => first | k_is | rfl | decide +kernel)
    (case h196 => first | k_is | rfl | decide +kernel)
    (case h197 => first | k_is | rfl | decide +kernel)
    (case h198 => first | k_is | rfl | decide +kernel)
    (case h199 => first | k_is | rfl | decide +kernel)
    (case h200 => first | k_is | rfl | decide +kernel)
    (case h201 => first | k_is | rfl | decide +kernel)
    (case h202 => first | k_is | rfl | decide +kernel)
    (case h203 => first | k_is | rfl | decide +kernel)
    (case h204 => first | k_is | rfl | decide +kernel)
    (case h205 => first | k_is | rfl | decide +kernel)
    (case h206 => first | k_is | rfl | decide +kernel)
    (case h207 => first | k_is | rfl | decide +kernel)
    (case h208 => first | k_is | rfl | decide +kernel)
    (case h209 => first | k_is | rfl | decide +kernel)
    (case h210 => first | k_is | rfl | decide +kernel)
    (case h211 => first | k_is | rfl | decide +kernel)
    (case h212 => first | k_is | rfl | decide +kernel)
    (case h213 => first | k_is | rfl | decide +kernel)
    (case h214 => first | k_is | rfl | decide +kernel)
    (case h215 => first | k_is | rfl | decide +kernel)
    (case h216 => first | k_is | rfl | decide +kernel)
    (case h217 => first | k_is | rfl | decide +kernel)
    (case h218 => first | k_is | rfl | decide +kernel)
    (case h219 => first | k_is | rfl | decide +kernel)
    (case h220 => first | k_is | rfl | decide +kernel)
    (case h221 => first | k_is | rfl | decide +kernel)
    (case h222 => first | k_is | rfl | decide +kernel)
    (case h223 => first | k_is | rfl | decide +kernel)
    (case h224 => first | k_is | rfl | decide +kernel)
    (case h225 => first | k_is | rfl | decide +kernel)
    (case h226 => first | k_is | rfl | decide +kernel)
    (case h227 => first | k_is | rfl | decide +kernel)
    (case h228 => first | k_is | rfl | decide +kernel)
    (case h229 => first | k_is | rfl | decide +kernel)
    (case h230 => first | k_is | rfl | decide +kernel)
    (case h231 => first | k_is | rfl | decide +kernel)
    (case h232 => first | k_is | rfl | decide +kernel)
    (case h233 => first | k_is | rfl | decide +kernel)
    (case h234 => first | k_is | rfl | decide +kernel)
    (case h235 => first | k_is | rfl | decide +kernel)
    (case h236 => first | k_is | rfl | decide +kernel)
    (case h237 => first | k_is | rfl | decide +kernel)
    (case h238 => first | k_is | rfl | decide +kernel)
    (case h239 => first | k_is | rfl | decide +kernel)
    (case h240 => first | k_is | rfl | decide +kernel)
    (case h241 => first | k_is | rfl | decide +kernel)
    (case h242 => first | k_is | rfl | decide +kernel)
    (case h243 => first | k_is | rfl | decide +kernel)
    (case h244 => first | k_is | rfl | decide +kernel)
    (case h245 => first | k_is | rfl | decide +kernel)
    (case h246 => first | k_is | rfl | decide +kernel)
    (case h247 => first | k_is | rfl | decide +kernel)
    (case h248 => first | k_is | rfl | decide +kernel)
    (case h249 => first | k_is | rfl | decide +kernel)
    (case h250 => first | k_is | rfl | decide +kernel)
    (case h251 => first | k_is | rfl | decide +kernel)
    (case h252 => first | k_is | rfl | decide +kernel)
    (case h253 => first | k_is | rfl | decide +kernel)
    (case h254 => first | k_is | rfl | decide +kernel)
    (case h255 => first | k_is | rfl | decide +kernel)
    (case h256 => first | k_is | rfl | decide +kernel)
    (case h257 => first | k_is | rfl | decide +kernel)
    (case h258 => first | k_is | rfl | decide +kernel)
    (case h259 => first | k_is | rfl | decide +kernel)
    (case h260 => first | k_is | rfl | decide +kernel)
    (case h261 => first | k_is | rfl | decide +kernel)
    (case h262 => first | k_is | rfl | decide +kernel)
    (case h263 => first | k_is | rfl | decide +kernel)
    (case h264 => first | k_is | rfl | decide +kernel)
    (case h265 => first | k_is | rfl | decide +kernel)
    (case h266 => first | k_is | rfl | decide +kernel)
    (case h267 => first | k_is | rfl | decide +kernel)
    (case h268 => first | k_is | rfl | decide +kernel)
    (case h269 => first | k_is | rfl | decide +kernel)
    (case h270 => first | k_is | rfl | decide +kernel)
    (case h271 => first | k_is | rfl | decide +kernel)
    (case h272 => first | k_is | rfl | decide +kernel)
    (case h273 => first | k_is | rfl | decide +kernel)
    (case h274 => first | k_is | rfl | decide +kernel)
    (case h275 => first | k_is | rfl | decide +kernel)
    (case h276 => first | k_is | rfl | decide +kernel)
    (case h277 => first | k_is | rfl | decide +kernel)
    (case h278 => first | k_is | rfl | decide +kernel)
    (case h279 => first | k_is | rfl | decide +kernel)
    (case h280 => first | k_is | rfl | decide +kernel)
    (case h281 => first | k_is | rfl | decide +kernel)
#print axioms PySem.Challenge.cw_leastspare_k03_drives_holds
