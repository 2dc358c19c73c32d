import PyProof.Rows.All
import Wide.All
import OpenK.AllK
import Wide.FinOn
import KE.KExcPX
import KE.KExcInit
import HandS.Base
import HandS.Call
import HandS.List
import HandS.Ends
import HandS.Exc
import HandS.ExcInit
import HandS.Words
import HandS.WordsExc
import HandS.Wide
import HandS.WordsList
import HandS.Comp
import HandS.Iter
import HandS.Zip
import HandS.IsInst
import HandS.DeepEq
import HandS.ExcField
import HandS.ExcOwn
import HandS.More
import HandS.MakeKwOnly
import PyProof.ReprRoads
import HandS.Text
import HandS.Style
import HandS.Strs
import PyProof.StrLawsRepr
import HandS.SetFor
import PySem.Challenge.RW_shapebetween_k04_rows_fitted
import KE.KExcLine
import HandS.ExcIs
section
set_option Elab.async false
set_option linter.all false
set_option maxRecDepth 100000
set_option maxHeartbeats 4000000
/-! try with several clauses `except C as n`; own exception classes over any base. -/
namespace SB
open PySem PySem.Spec PyProof.Rows L2

/-- clauses, each with a name: what is wished of an exception, clause by clause -/
inductive Clauses (X : Cx) (D : Ends) (Wout : WX) : List ExceptHandler → WX → Prop
  | done : Clauses X D Wout [] Wout
  | more {x n : Str} {c : Value} {i : Nat} {ts : Addr → Value → Option Addr → TS} {b₀ : Stmt} {suite : List Stmt} {np pc : Pos} {rest : List ExceptHandler} {W : WX}
      (hi : X.N[i]? = some n) (hl : X.env.kindOf n = some .local) (hc : Names X x c)
      (hs : ∀ (a : Addr) (oe : Obj) (cls : Value) (d : Option Addr) (pn : List (Addr × Obj)), Zc cls d oe → (∃ vs, oe.data = .fields vs) → PSs (X.suite a ((a, oe) :: pn)) (b₀ :: suite) (ts a cls d))
      (r : Clauses X D Wout rest W) : Clauses X D Wout (.ExceptHandler (some (.Name x np)) (some n) (b₀ :: suite) pc :: rest) (wAs X.K c i ts W D)

section
variable {X : Cx} {body : List Stmt} {h₀ : ExceptHandler} {hds : List ExceptHandler} {pos : Pos} {tb : WX → TS} {Wout : WX}

/-- the exception at a, seen by the clauses that are left -/
theorem clauses_run {D : Ends} {pins : List (Addr × Obj)} {a : Addr} {B : Heap} {cls : Value} {d : Option Addr} {sI s' : Shared} {σ : L2.St} {H : Hp}
    (hst : X.stack = X.env :: X.outer) (hf : X.env.frame = some X.env.locals) (hN : X.N.Nodup) (tk : Takes X Wout) (J : Inv X pins σ H sI)
    (nb : ∀ b o, sI.heap.get? b = some o → b ∉ frs X.stack → B.get? b = some o) (os : s'.os = sI.os) (ag : AllBare s'.gens) (na : H a = none) :
    ∀ {hs : List ExceptHandler} {W : WX}, Clauses X D Wout hs W → ∀ h3 : Heap, HandSPX.FlyingZ B (X.env :: X.outer) a (Zc cls d) h3 → sI.heap.UpToSlots h3 → W cls d σ H →
      wpAny (model X.prog X.w) X.A (handleBy (.ref a) X.env hs) (SP X pins D) X.xe { s' with heap := h3 } := by
  intro hs W hk
  induction hk with
  | done =>
    intro h3 fl up w
    refine PX.no_clauseZ (B := B) (outer := X.outer) (Z := Zc cls d) hf fl fun h4 hh up4 => tk _ _ ?_
    exact ⟨a, B, sI, pins, σ, H, cls, d, rfl, J, nb, up.trans up4, .inr (.inr (by rw [hst]; exact hh)), na, os, ag, w⟩
  | @more x n c i ts b₀ suite np pc rest W hi hl hc hsu r ih =>
    intro h3 fl up w
    obtain ⟨b, hb, yes, no⟩ := w
    have ok := J.ok
    have J3 : Inv X pins σ H { s' with heap := h3 } := J.landed nb fl.1 up os ag
    obtain ⟨oe, vs, he, hz, hd⟩ := fl.there
    have out : a ∉ frs (X.env :: X.outer) := fun hm => by
      obtain ⟨_, o', e', hnf⟩ := fl.2.2.1.mem hm
      rw [he] at e'
      cases e'
      exact hnf _ hd
    have nL : a ≠ X.env.locals := fun z => out (List.mem_filterMap.mpr ⟨X.env, List.mem_cons_self, by rw [hf, z]⟩)
    have nF : a ∉ X.fs := fun hm => by
      obtain ⟨e, h1, h2⟩ := List.mem_filterMap.mp hm
      exact out (List.mem_filterMap.mpr ⟨e, List.mem_cons_of_mem _ h1, h2⟩)
    have S3 := J3.suite he hd na nL nF
    have asked : ∀ {Q' : Value → Shared → Prop} {E' : Value → Shared → Prop}, Q' c { s' with heap := h3 } → wpAny (model X.prog X.w) (X.A.mark (some (.ref a))) (eval (.Name x np) X.env) Q' E' { s' with heap := h3 } := fun {Q' E'} q => by
      obtain ⟨hg, hdb, hm | ⟨hm, hv, hnn⟩⟩ := hc
      · exact ld_glob (X := X.suite a ((a, oe) :: (X.pn ++ pins))) S3 hg hm q hdb
      · exact ld_blt (X := X.suite a ((a, oe) :: (X.pn ++ pins))) S3 hg hm hv q hnn hdb
    cases b with
    | false => exact PX.clause_passZ (B := B) (outer := X.outer) (Z := Zc cls d) J3.kIn (fun o z => z.1) fl hb asked (ih h3 fl up (no rfl))
    | true =>
      refine PX.clause_asZ (B := B) (outer := X.outer) (Z := Zc cls d) J3.kIn (fun o z => z.1) fl hb asked fun h4 fl4 up4 => ?_
      have J4 : Inv X pins σ H { s' with heap := h4 } := J.landed nb fl4.1 (up.trans up4) os ag
      obtain ⟨oe4, vs4, he4, hz4, hd4⟩ := HandSPX.FlyingZ.there fl4
      have S4 := J4.suite he4 hd4 na nL nF
      refine store_ok (X := X.suite a ((a, oe4) :: (X.pn ++ pins))) (v := .ref a) S4 hN hi (.inl hl) rfl (fun s5 S5 => ?_) (.inr hl)
      refine wpAny_mono ((hsu a oe4 cls d (X.pn ++ pins) hz4 ⟨_, hd4⟩).run [] s5 _ H _ S5 (yes rfl a na)) (fun f s6 hsp => ?_) (fun _ _ z => False.elim z)
      have gone : ∀ {σ6 : L2.St} {H6 : Hp} {Q : Shared → Prop}, Inv (X.suite a ((a, oe4) :: (X.pn ++ pins))) [] σ6 H6 s6 → (∀ s7, Inv X pins (σ6.set i none) H6 s7 → Q s7) →
          wpAny (model X.prog X.w) X.A (do bindName X.env n .none; unbindBehindTheSuite X.env n pc) (fun _ s7 => Q s7) X.xe s6 := fun S6 hq => gone_ok (S6.unsuite ok) hN hi hl hq
      cases f with
      | next => exact let ⟨σ6, H6, S6, q6⟩ := hsp; gone S6 fun s7 J7 => ⟨_, _, J7, q6⟩
      | brk => exact let ⟨σ6, H6, S6, q6⟩ := hsp; gone S6 fun s7 J7 => ⟨_, _, J7, q6⟩
      | cont => exact let ⟨σ6, H6, S6, q6⟩ := hsp; gone S6 fun s7 J7 => ⟨_, _, J7, q6⟩
      | ret u => exact let ⟨v6, σ6, H6, S6, r6, q6⟩ := hsp; gone S6 fun s7 J7 => ⟨_, _, _, J7, r6, q6⟩

/-- try: body except A as n: .. except B as n: .. -/
theorem ps_try_clauses (hst : X.stack = X.env :: X.outer) (hf : X.env.frame = some X.env.locals) (hN : X.N.Nodup) (tk : Takes X Wout) {wW : Ends → WX}
    (hb : ∀ (W : WX) (pn : List (Addr × Obj)) (xe : Value → Shared → Prop), Takes (X.tr pn xe) W → PassesOwn (model X.prog X.w) X.A X.env xe → PSs (X.tr pn xe) body (tb W))
    (hh : ∀ D, Clauses X D Wout (h₀ :: hds) (wW D)) : PS X (.Try body (h₀ :: hds) [] [] pos) (fun D σ H => tb (wW D) D σ H) := by
  refine ⟨fun pins s σ H D I h => ?_⟩
  have ok := I.ok
  have hfr : X.A.frames = some (X.env :: X.outer) := ok.frames.trans (congrArg some hst)
  refine wpAny_Try_except (wpAny_mono ((hb (wW D) (X.pn ++ pins) (fun e s₁ => wpAny (model X.prog X.w) X.A (noteFrame e X.env) (fun _ s₂ => wpAny (model X.prog X.w) X.A (setFlight e none)
    (fun _ s₃ => wpAny (model X.prog X.w) X.A (handleBy e X.env (h₀ :: hds)) (SP X pins D) X.xe s₃) X.xe s₂) X.xe s₁) (fun u s' xx => ?_) PassesOwn.looking).run [] s σ H D (I.toTry _) h) (fun f s1 hsp => ?_) fun e s1 he => he)
  · obtain ⟨a, B, sI, pins', σ', H', cls, d, rfl, J', nb, up, sky, na, os, ag, w⟩ := xx
    have J : Inv X pins σ' H' sI := J'.ofTry ok
    have sk : Sky B (X.env :: X.outer) a (Zc cls d) X.env.locals s'.heap := hst ▸ sky
    exact Sky.land Zc.steady hfr hf sk fun h3 fl3 up3 => clauses_run hst hf hN tk J nb os ag na (hh D) h3 fl3 (up.trans up3) w
  · cases f with
    | next => exact let ⟨σ', H', J', q⟩ := hsp; wpAny_execs_nil ⟨σ', H', J'.ofTry ok, q⟩
    | brk => exact let ⟨σ', H', J', q⟩ := hsp; ⟨σ', H', J'.ofTry ok, q⟩
    | cont => exact let ⟨σ', H', J', q⟩ := hsp; ⟨σ', H', J'.ofTry ok, q⟩
    | ret u => exact let ⟨v, σ', H', J', r, q⟩ := hsp; ⟨v, σ', H', J'.ofTry ok, r, q⟩
end
end SB

end

section
set_option Elab.async false
set_option linter.all false
set_option maxRecDepth 100000
set_option maxHeartbeats 4000000
/-! own exception classes over a built-in base, whose __init__ stores fields. -/
namespace SB
open PySem PySem.Spec PyProof.Rows L2

section
open PySem.W PySem.Calls Builtin Builtin.ObjectAttr
variable {prog : Program} {w : World} {A : Around} {E : Value → Shared → Prop} {R : Result → Shared → Prop} {hp : Heap} {g : Array GenState} {d : Drawn} {t : Nat} {os : OsState} {B : String} {bmB : List Value}
/-- the first field that is stored: the exception gets its dict -/
theorem put_first {K : W.Frag} {name : Str} {tk : Tok} {v : Value} {x C : Addr} {fv : Array Value} (SF : StoreFacts B bmB "object.__setattr__" "object") (X : K.In hp) (hx : hp.get? x = some { cls := .ref C, data := .fields fv })
    (ov : W.excOver K C bmB = true) (hdc : W.hasDictIn K C = true) (ha : W.takerIn K C name = some none)
    (hq : ∀ h' tk' dx, (∀ b o, b ≠ x → hp.get? b = some o → h'.get? b = some o) → hp.objs.size ≤ dx → dx ≠ x → h'.get? x = some { cls := .ref C, dict := some dx, data := .fields fv } →
      h'.Ns1 dx (fun y => if y = name then some v else none) → R (.ok (.ret .none)) ⟨h', g, d, tk', os⟩) :
    codeAny (model prog w) A (.call (.builtin "object.__setattr__") ⟨[.ref x, .str name tk, v], []⟩) R ⟨hp, g, d, t, os⟩ := by
  have I : W.InstAt hp x { cls := .ref C, data := .fields fv } C none := ⟨hx, rfl, rfl, trivial⟩
  have apart : x ≠ hp.objs.size := Nat.ne_of_lt (Heap.lt_size hx)
  refine W.osa_openX (s := ⟨hp, g, d, t, os⟩) SF X I ov ha fun b => ?_
  obtain ⟨cd, hcd, hh⟩ := W.any_some hdc
  have known : W.Looks (model prog w) hp (classData C) cd := W.looks_clsIn X hcd
  obtain ⟨nm, bs, mro, ns, qn, hdd, sn, sb, ab, col, del⟩ := cd
  dsimp only at hh
  subst hh
  unfold storeInOwnDict ownDictForStores
  repeat (first | with_reducible refine HandSPX.store_in_new ?_ ?_ | with_reducible refine wpAny_loadPart_at hx ?_ | with_reducible refine known.at ?_ | wp_step)
  · exact ⟨_, #[], _, (Heap.get?_update_ne _ _ _ _ apart.symm).trans (Heap.get?_push_at rfl rfl), rfl, fun e he => absurd he (by simp), fun _ => rfl⟩
  · intro h' tk' hn' hs
    have there : (hp.push { cls := .type "dict", data := .dict #[] }).get? x = some { cls := .ref C, data := .fields fv } := Heap.get?_push_of_some _ hx
    refine hq h' tk' hp.objs.size (fun b o hb ho => ?_) (Nat.le_refl _) apart.symm ?_ hn'
    · exact (hs.2 b (Nat.ne_of_lt (Heap.lt_size ho))).trans ((Heap.get?_update_ne _ _ _ _ hb).trans (Heap.get?_push_of_some _ ho))
    · exact (hs.2 x apart).trans (Heap.get?_update_self _ there rfl)
/-- a further field -/
theorem put_more {K : W.Frag} {name : Str} {tk : Tok} {v : Value} {x C dx : Addr} {fv : Array Value} {m0 : Str → Option Value} {nl : List Str} (SF : StoreFacts B bmB "object.__setattr__" "object")
    (X : K.In hp) (hx : hp.get? x = some { cls := .ref C, dict := some dx, data := .fields fv }) (hns : hp.Ns1 dx m0) (hw : Within m0 nl) (hz : nl.length ≤ 1000)
    (ov : W.excOver K C bmB = true) (hdc : W.hasDictIn K C = true) (ha : W.takerIn K C name = some none)
    (hq : ∀ h' tk', (∀ b o, b ≠ dx → hp.get? b = some o → h'.get? b = some o) → h'.Ns1 dx (fun y => if y = name then some v else m0 y) → R (.ok (.ret .none)) ⟨h', g, d, tk', os⟩) :
    codeAny (model prog w) A (.call (.builtin "object.__setattr__") ⟨[.ref x, .str name tk, v], []⟩) R ⟨hp, g, d, t, os⟩ := by
  obtain ⟨oD, esD, epD, hoD, hdD, _⟩ := hns.count hw
  have I : W.InstAt hp x { cls := .ref C, dict := some dx, data := .fields fv } C (some oD) := ⟨hx, rfl, rfl, hoD⟩
  refine W.osa_openX (s := ⟨hp, g, d, t, os⟩) SF X I ov ha fun b => ?_
  obtain ⟨cd, hcd, hh⟩ := W.any_some hdc
  have known : W.Looks (model prog w) hp (classData C) cd := W.looks_clsIn X hcd
  obtain ⟨nm, bs, mro, ns, qn, hdd, sn, sb, ab, col, del⟩ := cd
  dsimp only at hh
  subst hh
  unfold storeInOwnDict ownDictForStores
  repeat (first | with_reducible refine OEX.store_in_old hns hw hz ?_ | with_reducible refine wpAny_loadPart_at hx ?_ | with_reducible refine known.at ?_ | wp_step)
  intro h' tk' hn' hs
  exact hq h' tk' (fun b o hb ho => (hs.2 b hb).trans ho) hn'
end

/-- what the written part says of an exception class of the text -/
structure ExCls (K : PySem.W.Frag) (C : Addr) (bmB : List Value) (newId : String) : Prop where
  made : PySem.W.excInitIn K C bmB newId = true
  over : PySem.W.excOver K C bmB = true
  hd : PySem.W.hasDictIn K C = true
  sa : PySem.W.findIn K (.ref C) "__setattr__" = some (some (.builtin "object.__setattr__"))
  exC : PySem.W.subIn K (.ref C) (.type "BaseException") = some true
  tyC : PySem.W.typeIn K (.ref C) = some (.type "type")
  kC : PySem.W.keepIn K (.ref C) = true

/-- self.f = e in an exception's __init__ -/
def tPut (K : PySem.W.Frag) (C : Addr) (f : Str) (to te : TE) : TS := fun D σ H => te σ H fun y H1 => to σ H1 fun x H2 => ∃ a : Addr, x = .ref a ∧
  ((H2 a = some (exo a C none) ∧ ∀ dx, H2 dx = none → dx ≠ a → D.nx σ (upd (upd H2 dx (exd dx [(f, y)])) a (exo a C (some dx)))) ∨
    ∃ (dx : Addr) (fs : List (Str × V)), H2 a = some (exo a C (some dx)) ∧ H2 dx = some (exd dx fs) ∧ fs.length ≤ 900 ∧ D.nx σ (upd H2 dx (exd dx ((f, y) :: fs))))

section
variable {X : Cx} {o e : Expr} {es : List Expr} {to te : TE} {ta : TA} {f : Str} {p p' pos : Pos} {C : Addr} {B newId initId : String} {bmB : List Value}
theorem ps_put (SF : StoreFacts B bmB "object.__setattr__" "object") (T : ExCls X.K C bmB newId) (hno : PySem.W.findIn X.K (.ref C) f = some none) (ho : PE X o to) (he : PE X e te)
    (hs : swapsWith e (some (.Attribute o f p')) pos.line X.env = pure false := by rfl) : PS X (.Assign [.Attribute o f p'] e pos) (tPut X.K C f to te) := by
  refine ⟨fun pins s σ H D I h => ?_⟩
  refine plainObj_wpAny_Assign_Attribute (thn (he.run pins s σ H _ I h) fun v s1 ⟨y, H1, I1, r1, q1⟩ => thn (ho.run pins s1 σ H1 _ I1 q1) fun u s2 ⟨x, H2, I2, r2, a, ex, q⟩ => ?_) hs
  subst ex
  obtain rfl : u = Value.ref a := r2
  have tkr : PySem.W.takerIn X.K C f = some none := NoAttr.taker hno
  rcases q with ⟨ea, q⟩ | ⟨dx, fs, ea, ed, hl, q⟩
  · obtain ⟨t1, hat⟩ := exo_at I2.hok ea
    obtain ⟨hp, g, d, t, os⟩ := s2
    refine PySem.W.set_plain I2.kIn (ox := { cls := .ref C, dict := none, data := .fields #[.ref t1, .none, .none, .none, .bool false, .none] }) (od := none) ⟨hat, rfl, rfl, trivial⟩ T.sa ?_
    refine put_first SF I2.kIn hat T.over T.hd tkr fun h' tk' dx k dn dne hx hn => ?_
    have free : H2 dx = none := I2.hok.fresh dn
    have old : ∀ {b : Addr} {o : Obj}, hp.get? b = some o → b ≠ dx := fun q => Nat.ne_of_lt (Nat.lt_of_lt_of_le (Heap.lt_size q) dn)
    have no : ∀ {b : Addr}, H2 b = none → b ≠ a := fun n z => by rw [z, ea] at n; cases n
    have U : Un X.fs [] H2 (upd (upd H2 dx (exd dx [(f, y)])) a (exo a C (some dx))) hp h' := {
      keep := fun b o q n _ _ => k b o (no n) q
      slot := fun b o q n _ _ => ⟨o.slots, k b o (no n) q⟩
      free := fun b o q n _ => by rw [upd_ne (no n), upd_ne (old q)]; exact n
      there := fun b o q _ => by
        by_cases hb : b = a
        · subst hb
          exact ⟨_, hx⟩
        · exact ⟨o, k b o hb q⟩
      tups := fun b xs q => by rw [upd_ne (at_ne ea q exo_tup), upd_ne (ne_of_none q free)]; exact q
      frzs := fun b o v q => by rw [upd_ne (at_ne ea q exo_frz), upd_ne (ne_of_none q free)]; exact q
      tbls := fun b ps q => ⟨#[], by rw [upd_ne (at_ne ea q exo_tbl), upd_ne (ne_of_none q free), q]; simp⟩ }
    refine ⟨σ, _, I2.un (t' := tk') U fun b o q' => ?_, q dx free dne⟩
    by_cases hb : b = a
    · subst hb
      rw [upd_same] at q'
      cases q'
      exact exo_ok hx
    · rw [upd_ne hb] at q'
      by_cases hdd : b = dx
      · subst hdd
        rw [upd_same] at q'
        cases q'
        exact exd_ok hn (relO_put (fs := []) r1 fun g => True.intro)
      · rw [upd_ne hdd] at q'
        refine (I2.hok b o q').stay (fun c v hc z => k c v (hc.elim (fun hc => by rw [hc]; exact hb) fun hc => at_ne ea hc exo_own) z) (fun c hc => ?_) (fun c xs hc => ?_)
        · rw [upd_ne (at_ne ea hc exo_own), upd_ne (ne_of_none hc free)]; exact hc
        · rw [upd_ne (at_ne ea hc exo_tup), upd_ne (ne_of_none hc free)]; exact hc
  · obtain ⟨t1, hat⟩ := exo_at I2.hok ea
    obtain ⟨mA, hns, rel⟩ := exd_at I2.hok ed
    have hw := within_of rel
    obtain ⟨hp, g, d, t, os⟩ := s2
    obtain ⟨oD, _, _, hoD, _, _⟩ := hns.count hw
    refine PySem.W.set_plain I2.kIn (ox := { cls := .ref C, dict := some dx, data := .fields #[.ref t1, .none, .none, .none, .bool false, .none] }) (od := some oD) ⟨hat, rfl, rfl, hoD⟩ T.sa ?_
    refine put_more SF I2.kIn hat hns hw (by rw [List.length_map]; omega) T.over T.hd tkr fun h' tk' k hn => ?_
    have hdx : ∃ o, h'.get? dx = some o := let ⟨o, _, _, e', _⟩ := hn; ⟨o, e'⟩
    exact ⟨σ, _, I2.write (t' := tk') (x := dx) (e := dx) (o := exd dx ((f, y) :: fs)) (by rw [ed]; exact True.intro) (.inl rfl) k hdx (exd_ok hn (relO_put r1 rel)), q⟩

/-- C(e, ..), to be raised: C's own __init__ keeps sp -/
theorem pmk_exg {CX : CXT} {x : Str} {fI : Addr} {k : Nat} {fd : FuncData} {ps : List Str} {sp : Sp} {ds : List Value} {dvs : List V} (FB : ExcBaseFacts B newId initId bmB) (T : ExCls X.K C bmB newId)
    (iC : PySem.W.findIn X.K (.ref C) "__init__" = some (some (.ref fI))) (tI : PySem.W.typeIn X.K (.ref fI) = some (.type "function"))
    (F1 : FnOk X.prog X.w X.K X.mg X.base CX k fI fd ps sp) (hr : Room (k + 1) X.A) (hb : Binds X.K fd ps ds) (hd : Vals dvs ds) (hx : Passes CX X (fun _ _ _ => False)) (hg : Gl X x) (hm : X.mg x = some (.ref C)) (ha : PA X (e :: es) ta)
    (hdb : (x == ("__debug__" : Str)) = false := by decide) (he : starEach (e :: es) X.env = (false, eval e X.env) :: starEach es X.env := by rfl) (hpl : (backTo pos (starEach es X.env)).any (·.1) = false := by rfl) :
    PMk X (.Call (.Name x p) (e :: es) [] pos) (tMkO C sp dvs ta) := by
  intro pins s σ H Q I h
  refine wpAny_Call_Name_kw (ld_glob I hg hm ?_ hdb)
  refine PySem.W.callWith_K (h₀ := X.base) I.ok.mod.kin T.kC (thn (ha.run pos pins s σ H _ I h) fun us s1 ⟨vs, H1, I1, r1, hz, q1⟩ => ⟨I1.kIn, ?_⟩) he hpl
  show wpAny _ _ (call (.ref C) us) _ _ _
  obtain ⟨hp, g, dr, tk, os⟩ := s1
  obtain ⟨nm, N, qn, bs, bm, hdct, sn, sub, ab, col, dd, k0, k1, k2, k3, k5, hC, hbm⟩ := PySem.W.excInit_of I1.kIn T.made
  have grow : hp.objs.size ≤ hp.objs.size + 1 := Nat.le_succ _
  have hn : H1 (hp.objs.size + 1) = none := I1.hok.fresh grow
  have hq := q1 (hp.objs.size + 1) hn
  have keep2 : ∀ b o, hp.get? b = some o → ((hp.push (PySem.W.kdv_tup us)).push (PySem.HandSPX.excO C hp.objs.size)).get? b = some o := fun b o e => Heap.get?_push_of_some _ (Heap.get?_push_of_some _ e)
  have new : ((hp.push (PySem.W.kdv_tup us)).push (PySem.HandSPX.excO C hp.objs.size)).get? (hp.objs.size + 1) = some (PySem.HandSPX.excO C hp.objs.size) := by heap_get
  have I2 := I1.laid (t' := tk) (a := hp.objs.size + 1) (o := exo (hp.objs.size + 1) C none) keep2 grow (exo_ok new)
  have r2 : Vals (V.ref (hp.objs.size + 1) :: (vs ++ dvs)) (Value.ref (hp.objs.size + 1) :: (us ++ ds)) := .cons rfl (r1.append hd)
  have hl : (Value.ref (hp.objs.size + 1) :: us ++ ds).length = ps.length := (r2.length.symm.trans (F1.len _ _ _ _ hq))
  have hus : us.length ≤ sizeLine := by rw [← Paired.length r1, sizeLine_eq]; omega
  refine wpAny_call (PySem.HandSPX.call_own FB hbm hC (PySem.W.looks_findIn I1.kIn iC) (fun self => PySem.W.bind_fn I1.kIn self tI) hus
    (codeAny_mono (F1.run _ X.stack _ _ ⟨Value.ref (hp.objs.size + 1) :: us, []⟩ (Value.ref (hp.objs.size + 1) :: (us ++ ds)) _ _ (fun _ _ _ => False) (hr.make C us []) (I2.env0.make C us []) (hb _ (Value.ref (hp.objs.size + 1) :: us) I2.kIn hl) r2 hq) fun r s' hq' => ?_))
  cases r with
  | error er => exact hx pins σ _ _ er s' I2 hq'
  | ok fl =>
    cases fl with
    | ret u =>
      obtain ⟨v, H2, os2, bare2, un2, hok2, rv, ev, d, fs, ea, ed, hd1, q2⟩ := hq'
      subst ev
      obtain ⟨h2, g2, d2, t2, os'⟩ := s'
      exact ⟨rv, mk_end (raises_own T.exC T.tyC) I1 grow keep2 un2 hok2 os2 bare2 ea ed hd1 q2⟩
    | next => exact False.elim hq'
    | brk => exact False.elim hq'
    | cont => exact False.elim hq'
end
end SB

end

section
set_option Elab.async false
set_option linter.all false
set_option maxRecDepth 100000
set_option maxHeartbeats 4000000
/-! cuts: an assertion between two parts; what the drawing defs of a law promise. -/
namespace SB
open PySem PySem.Spec PyProof.Rows L2
section
variable {X : Cx} {st : Stmt} {rest sts : List Stmt} {e : Expr} {t u : TS} {te : TE} {tt : TT}
def tCut (t u : TS) : TS := fun D σ H => ∃ P : L2.St → Hp → Prop, t { D with nx := P } σ H ∧ ∀ σ' H', P σ' H' → u D σ' H'
/-- a block, an assertion behind its first statement -/
theorem pss_cut (h1 : PS X st t) (h2 : PSs X rest u) : PSs X (st :: rest) (tCut t u) := by
  refine ⟨fun pins s σ H D I ⟨P, h, k⟩ => ?_⟩
  refine wpAny_execs_cons (thn (h1.run pins s σ H { D with nx := P } I h) fun f s1 q => ?_)
  cases f with
  | next => exact let ⟨σ', H', I', q⟩ := q; h2.run pins s1 σ' H' D I' (k σ' H' q)
  | ret v => exact q
  | brk => exact q
  | cont => exact q
def eCut (t : TE) : TE := fun σ H Q => ∃ P : V → Hp → Prop, t σ H P ∧ ∀ v H', P v H' → Q v H'
/-- an expression, what it gives said by an assertion -/
theorem pe_cut (h : PE X e te) : PE X e (eCut te) :=
  ⟨fun pins s σ H Q I ⟨P, h1, k⟩ => thn (h.run pins s σ H P I h1) fun _ _ ⟨v, H', I', r, q⟩ => ⟨v, H', I', r, k v H' q⟩⟩
def bCut (t : TT) : TT := fun σ H Q => ∃ P : Bool → Hp → Prop, t σ H P ∧ ∀ v H', P v H' → Q v H'
theorem pt_cut (h : PT X e tt) : PT X e (bCut tt) :=
  ⟨fun pins s σ H Q I ⟨P, h1, k⟩ => thn (h.run pins s σ H P I h1) fun _ _ ⟨H', I', q⟩ => ⟨H', I', k _ H' q⟩⟩
end

/-- all that stood but what stands at b is as it was -/
def Keep (b : Addr) (H H' : Hp) : Prop := ∀ c o, H c = some o → c ≠ b → H' c = some o
theorem Keep.refl (b : Addr) (H : Hp) : Keep b H H := fun _ _ e _ => e
theorem Keep.trans {b : Addr} {H H1 H2 : Hp} (x : Keep b H H1) (y : Keep b H1 H2) : Keep b H H2 := fun c o e n => y c o (x c o e n) n
theorem Keep.upd {b : Addr} {H H1 : Hp} {o : HO} (x : Keep b H H1) : Keep b H (upd H1 b o) := fun c u e n => by rw [upd_ne n]; exact x c u e n
theorem Keep.new {b p : Addr} {H H1 : Hp} {o : HO} (x : Keep b H H1) (hp : H1 p = none) : Keep b H (L2.upd H1 p o) := fun c u e n => by rw [upd_ne (ne_of_none (x c u e n) hp)]; exact x c u e n
theorem Keep.same {b : Addr} {H H1 H2 : Hp} (x : Keep b H H1) (y : Same H1 H2) : Keep b H H2 := fun c o e n => y c o (x c o e n)
theorem Keep.ofSame {b : Addr} {H H1 : Hp} (y : Same H H1) : Keep b H H1 := fun c o e _ => y c o e
theorem Same.new {p : Addr} {H H1 : Hp} {o : HO} (x : Same H H1) (hp : H1 p = none) : Same H (L2.upd H1 p o) := fun c u e => by rw [upd_ne (ne_of_none (x c u e) hp)]; exact x c u e
/-- the bag of a law: its list of cells, the next one, the rest of a great cell, the mixed number, how many draws -/
def BagAt (H : Hp) (b : Addr) : Prop := ∃ (l : Addr) (ns : List Int) (i g m c : Int), H b = some (.lst [.ref l, .int i, .int g, .int m, .int c]) ∧ H l = some (.lst (ns.map V.int)) ∧ l ≠ b ∧ 0 ≤ i ∧ 0 ≤ g ∧ 0 ≤ m ∧ m < 2147483648
theorem BagAt.same {H H' : Hp} {b : Addr} (x : BagAt H b) (s : Same H H') : BagAt H' b := let ⟨l, ns, i, g, m, c, h1, h2, r⟩ := x; ⟨l, ns, i, g, m, c, s _ _ h1, s _ _ h2, r⟩
def spBag (K : PySem.W.Frag) : Sp := fun vs H Q _ => ∃ (a : Addr) (ns : List Int), vs = [.ref a] ∧ SqL K H a (ns.map V.int) ∧ ns.length ≤ 1000 ∧
  ∀ b H', H b = none → Same H H' → BagAt H' b → Q (.ref b) H'
def spDraw : Sp := fun vs H Q _ => ∃ (b : Addr) (top : Int), vs = [.ref b, .int top] ∧ BagAt H b ∧ 0 < top ∧ top.natAbs.log2 < 9000 ∧
  ∀ d H', 0 ≤ d → d < top → BagAt H' b → Keep b H H' → (∀ c, H c = none → H' c = none) → Q (.int d) H'
/-- one of the items of a list or a tuple -/
def spOf (K : PySem.W.Frag) : Sp := fun vs H Q _ => ∃ (b p : Addr) (xs : List V), vs = [.ref b, .ref p] ∧ BagAt H b ∧ p ≠ b ∧ (SqL K H p xs ∨ SqT K H p xs) ∧ 0 < xs.length ∧ xs.length < 2 ^ 62 ∧
  (∀ H', Keep b H H' → SqL K H p xs → SqL K H' p xs) ∧ (∀ H', Keep b H H' → SqT K H p xs → SqT K H' p xs) ∧
  ∀ v H', v ∈ xs → BagAt H' b → Keep b H H' → (∀ c, H c = none → H' c = none) → Q v H'
end SB

end

section
set_option Elab.async false
set_option linter.all false
set_option maxRecDepth 100000
set_option maxHeartbeats 4000000
namespace SB
open PySem PySem.Spec PyProof.Rows L2
/-- a list comprehension over any walk: an assertion by turns -/
theorem lc_walk {J : It} {n : Nat} {g : TG} {tt : TT} {te : TE} {vs : List Nat} {σ : L2.St} {H1 : Hp} {D : Addr} {Qd : Hp → Prop} (Pv : Nat → Hp → Prop) (h0 : Pv 0 (upd H1 D (.lst [])))
    (hgo : ∀ i H, i < n → Pv i H → J.go i H) (hst : ∀ H, Pv n H → J.stop n H)
    (hs : ∀ i x H H', i < n → Pv i H → J.yld i H x H' → g x (wipe σ vs) H' fun σ2 H2 => wipe σ2 vs = wipe σ vs ∧ tt σ2 H2 fun b H3 =>
      if b = true then te σ2 H3 fun y H4 => ∃ acc, H4 D = some (.lst acc) ∧ acc.length < sizeLine ∧ Pv (i + 1) (upd H4 D (.lst (acc ++ [y]))) else Pv (i + 1) H3)
    (hd : ∀ H, Pv n H → Qd H) :
    ∃ W : Nat → Nat → Hp → Prop, (∃ m, W 0 m (upd H1 D (.lst []))) ∧ ∀ i m H, W i m H →
      (J.stop i H ∧ Qd H) ∨ (J.go i H ∧ ∃ Nx : Hp → Prop, (∀ H', Nx H' → ∃ m', m' < m ∧ W (i + 1) m' H') ∧ ∀ x H', J.yld i H x H' → g x (wipe σ vs) H' fun σ2 H2 => wipe σ2 vs = wipe σ vs ∧ tt σ2 H2 fun b H3 =>
        if b = true then te σ2 H3 fun y H4 => ∃ acc, H4 D = some (.lst acc) ∧ acc.length < sizeLine ∧ Nx (upd H4 D (.lst (acc ++ [y]))) else Nx H3) := by
  refine ⟨fun i m H => i + m = n ∧ Pv i H, ⟨n, by omega, h0⟩, fun i m H ⟨e, p⟩ => ?_⟩
  cases m with
  | zero =>
    obtain rfl : i = n := by omega
    exact .inl ⟨hst H p, hd H p⟩
  | succ m => exact .inr ⟨hgo i H (by omega) p, Pv (i + 1), fun H' p' => ⟨m, by omega, by omega, p'⟩, fun x H' y => hs i x H H' (by omega) p y⟩

/-- values that `_law_same` finds to be the same, n levels deep -/
def Leaf (H : Hp) (x y : V) : Prop := (x = y ∧ flatV x = true) ∨ ∃ a kvs, x = .ref a ∧ y = .ref a ∧ H a = some (.dK kvs) ∧ ∀ p ∈ kvs, valV kvs p.1 = some p.2 ∧ flatB p.2 = true
def Alike (K : PySem.W.Frag) (H : Hp) : Nat → V → V → Prop
  | 0 => fun x y => Leaf H x y
  | n + 1 => fun x y => Leaf H x y ∨ (∃ a b xs ys, x = .ref a ∧ y = .ref b ∧ SqL K H a xs ∧ SqL K H b ys ∧ xs.length < sizeLine ∧ Paired (Alike K H n) xs ys) ∨
      ∃ a b xs ys, x = .ref a ∧ y = .ref b ∧ SqT K H a xs ∧ SqT K H b ys ∧ xs.length < sizeLine ∧ Paired (Alike K H n) xs ys
theorem sqT_same {K : PySem.W.Frag} {H H' : Hp} {a : Addr} {xs : List V} (e : Same H H') (h : SqT K H a xs) : SqT K H' a xs := by
  rcases h with h | h
  · rcases h with h | ⟨o, h⟩
    · exact .inl (.inl (e _ _ h))
    · exact .inl (.inr ⟨o, e _ _ h⟩)
  · exact .inr h
theorem paired_imp {α β : Type} {F G : α → β → Prop} (h : ∀ a b, F a b → G a b) : ∀ {xs : List α} {ys : List β}, Paired F xs ys → Paired G xs ys
  | _, _, .nil => .nil
  | _, _, .cons a t => .cons (h _ _ a) (paired_imp h t)
theorem Leaf.same {H H' : Hp} {x y : V} (s : Same H H') (h : Leaf H x y) : Leaf H' x y := by
  rcases h with h | ⟨a, kvs, h1, h2, h3, h4⟩
  · exact .inl h
  · exact .inr ⟨a, kvs, h1, h2, s _ _ h3, h4⟩
theorem Alike.same {K : PySem.W.Frag} {H H' : Hp} (s : Same H H') : ∀ {n : Nat} {x y : V}, Alike K H n x y → Alike K H' n x y
  | 0, x, y, h => Leaf.same s h
  | n + 1, x, y, h => by
    rcases h with h | ⟨a, b, xs, ys, e1, e2, h1, h2, hz, h3⟩ | ⟨a, b, xs, ys, e1, e2, h1, h2, hz, h3⟩
    · exact .inl (Leaf.same s h)
    · exact .inr (.inl ⟨a, b, xs, ys, e1, e2, s.seq h1, s.seq h2, hz, paired_imp (fun _ _ q => Alike.same s q) h3⟩)
    · exact .inr (.inr ⟨a, b, xs, ys, e1, e2, sqT_same s h1, sqT_same s h2, hz, paired_imp (fun _ _ q => Alike.same s q) h3⟩)
theorem Alike.succ {K : PySem.W.Frag} {H : Hp} : ∀ {n : Nat} {x y : V}, Alike K H n x y → Alike K H (n + 1) x y
  | 0, x, y, h => .inl h
  | n + 1, x, y, h => by
    rcases h with h | ⟨a, b, xs, ys, e1, e2, h1, h2, hz, h3⟩ | ⟨a, b, xs, ys, e1, e2, h1, h2, hz, h3⟩
    · exact .inl h
    · exact .inr (.inl ⟨a, b, xs, ys, e1, e2, h1, h2, hz, paired_imp (fun _ _ q => Alike.succ q) h3⟩)
    · exact .inr (.inr ⟨a, b, xs, ys, e1, e2, h1, h2, hz, paired_imp (fun _ _ q => Alike.succ q) h3⟩)
theorem paired_len {α β : Type} {F : α → β → Prop} : ∀ {xs : List α} {ys : List β}, Paired F xs ys → xs.length = ys.length
  | _, _, .nil => rfl
  | _, _, .cons _ t => congrArg (· + 1) (paired_len t)
theorem paired_at {α β : Type} {F : α → β → Prop} : ∀ {xs : List α} {ys : List β} {i : Nat} {x : α} {y : β}, Paired F xs ys → xs[i]? = some x → ys[i]? = some y → F x y
  | _, _, 0, x, y, .cons a _, h1, h2 => by
    cases Option.some.inj h1
    cases Option.some.inj h2
    exact a
  | _, _, i + 1, x, y, .cons _ t, h1, h2 => paired_at (i := i) t (by simpa using h1) (by simpa using h2)
  | _, _, _, _, _, .nil, h1, _ => by simp at h1
def spSame (K : PySem.W.Frag) : Nat → Sp
  | 0 => fun _ _ _ _ => False
  | n + 1 => fun vs H Q _ => ∃ x y, vs = [x, y] ∧ Alike K H n x y ∧ ∀ H', Same H H' → Q (.bl true) H'
/-- the types -/
theorem ty_list {K : PySem.W.Frag} {H : Hp} {a : Addr} {xs : List V} (h : SqL K H a xs) : TyX K H (.ref a) (.type "list") := by
  rcases h with (h | ⟨o, h⟩) | ⟨o, its, n, h, hc, _⟩
  · exact .base (.lst h)
  · exact .base (.frz h)
  · exact .kList h hc
theorem ty_tup {K : PySem.W.Frag} {H : Hp} {a : Addr} {xs : List V} (h : SqT K H a xs) : TyX K H (.ref a) (.type "tuple") := by
  rcases h with (h | ⟨o, h⟩) | ⟨o, its, n, h, hc, _⟩
  · exact .base (.tup h)
  · exact .fTuple h
  · exact .kTuple h hc
/-- the built-in type of a value -/
inductive Ty (K : PySem.W.Frag) (H : Hp) (x : V) (T : String) : Prop where
  | mk (h : TyX K H x (.type T)) : Ty K H x T
end SB

end

section
set_option Elab.async false
set_option linter.all false
set_option maxRecDepth 100000
set_option maxHeartbeats 4000000
namespace SB
open PySem PySem.Spec PyProof.Rows L2
theorem tyX_same {K : PySem.W.Frag} {H H' : Hp} {x : V} {t : Value} (s : Same H H') (h : TyX K H x t) : TyX K H' x t := by
  cases h with
  | base h =>
    refine .base ?_
    cases h with
    | non => exact .non
    | bl b => exact .bl b
    | int i => exact .int i
    | str z => exact .str z
    | flt z => exact .flt z
    | lst e => exact .lst (s _ _ e)
    | frz e => exact .frz (s _ _ e)
    | tup e => exact .tup (s _ _ e)
    | dK e => exact .dK (s _ _ e)
    | dT e => exact .dT (s _ _ e)
    | ins e cl ha hn ht hm => exact .ins (s _ _ e) cl ha hn ht hm
  | byt b => exact .byt b
  | set e => exact .set (s _ _ e)
  | kList e c => exact .kList e c
  | kTuple e c => exact .kTuple e c
  | kDict e c => exact .kDict e c
  | fTuple e => exact .fTuple (s _ _ e)
  | fDict e => exact .fDict (s _ _ e)
/-- isinstance(x, (list, tuple)); isinstance(x, T) -/
abbrev tIsLT (K : PySem.W.Frag) (i : Nat) : TE := tCB (rIsiT K) (tCons (tVar i) (tCons (tTup (tCons (tC (.ty "list")) (tCons (tC (.ty "tuple")) tNil))) tNil))
abbrev tIs (K : PySem.W.Frag) (i : Nat) (T : String) : TE := tCB (rIsi K) (tCons (tVar i) (tCons (tC (.ty T)) tNil))
theorem rd_isLT {K : PySem.W.Frag} {i : Nat} {σ : L2.St} {H : Hp} {Q : VK} {x : V} {T : String} {b : Bool} (e : σ[i]? = some (some x)) (ty : TyX K H x (.type T)) (hk : PySem.W.kitAny K (.type T) [.type "list", .type "tuple"] = some b)
    (k : ∀ H', Same H H' → Q (.bl b) H') : tIsLT K i σ H Q :=
  ⟨x, e, (by show 2 ≤ sizeLine; decide), fun p hp => ⟨x, p, _, _, _, b, rfl, upd_same, .cons (.ty _) (.cons (.ty _) .nil), tyX_same (Same.new (Same.refl H) hp) ty, hk, k _ (Same.new (Same.refl H) hp)⟩⟩
theorem rd_is {K : PySem.W.Frag} {i : Nat} {σ : L2.St} {H : Hp} {Q : VK} {x : V} {T U : String} {b : Bool} (e : σ[i]? = some (some x)) (ty : TyX K H x (.type U)) (hk : kitB U T = some b)
    (k : Q (.bl b) H) : tIs K i T σ H Q :=
  ⟨x, e, x, .ty T, _, _, b, rfl, .ty T, ty, kit_ty hk, k⟩
theorem lt_of {K : PySem.W.Frag} {U : String} {b c : Bool} (h1 : kitB U "list" = some b) (h2 : kitB U "tuple" = some c) : PySem.W.kitAny K (.type U) [.type "list", .type "tuple"] = some (b || c) := by
  refine kitAny_cons (kit_ty h1) (fun hb => kitAny_cons (kit_ty h2) (fun hc => ?_) (fun hc => ?_)) (fun hb => ?_)
  · rw [hb, hc]; exact kitAny_nil
  · rw [hb, hc]; rfl
  · rw [hb]; rfl
end SB

end

section
set_option Elab.async false
set_option linter.all false
set_option maxRecDepth 100000
set_option maxHeartbeats 4000000
namespace SB
open PySem PySem.Spec PyProof.Rows L2
section
variable {X : Cx} {CX : CXT} {x : Str} {f : Addr} {k : Nat} {fd : FuncData} {ps ks : List Str} {sp : Sp} {g : List Value → List Value → List Value} {gV : List V → List V → List V} {E : L2.St → XK} {kws : List Keyword} {p pos : Pos} {tk : TA}
/-- f(k = e, ..): what is raised is wished for at the caller's slots -/
def tKW (sp : Sp) (gV : List V → List V → List V) (E : L2.St → XK) (tk : TA) : TE := fun σ H Q => tk σ H fun zs H2 => sp (gV [] zs) H2 Q (E σ)
theorem pe_callKW (F : FnOk X.prog X.w X.K X.mg X.base CX k f fd ps sp) (hr : Room k X.A) (hg : Gl X x) (hm : X.mg x = some (.ref f)) (hk : PySem.W.keepIn X.K (.ref f) = true) (hb : KBinds X.K fd ps ks g gV) (hx : ∀ σ, PassesAt CX X σ (E σ))
    (hkw : PK X kws tk) (hall : (backToKw pos (keywordEach kws X.env)).all (·.1.isSome) = true := by rfl) (hks : (backToKw pos (keywordEach kws X.env)).filterMap (·.1) = ks := by rfl)
    (hdb : (x == ("__debug__" : Str)) = false := by decide)
    (hpl : ((backTo pos (starEach [] X.env)).any (·.1) || (backToKw pos (keywordEach kws X.env)).any (·.1.isNone)) = false := by rfl) :
    PE X (.Call (.Name x p) [] kws pos) (tKW sp gV E tk) := by
  refine ⟨fun pins s σ H Q I h => ?_⟩
  refine wpAny_Call_Name_kw (ld_glob I hg hm ?_ hdb)
  refine PySem.W.callWith_KW0 (h₀ := X.base) I.ok.mod.kin hk hall ?_ hpl
  refine thn (hkw.run pos pins s σ H _ I h) fun ws s2 ⟨zs, H2, I2, rz, q2⟩ => ⟨I2.kIn, ?_⟩
  rw [hks]
  have r2 := hb.rel (vs := []) .nil rz
  have hl : (g [] ws).length = ps.length := r2.length.symm.trans (F.len _ _ _ _ q2)
  refine wpAny_call (codeAny_mono (F.run X.A X.stack s2 H2 ⟨[], ks.zip ws⟩ (g [] ws) (gV [] zs) Q (E σ) hr I2.env0 (hb.to s2 [] ws I2.kIn hl) r2 q2) fun r s' hq => ?_)
  cases r with
  | error e => exact hx σ pins H2 s2 e s' I2 hq
  | ok fl =>
    cases fl with
    | ret u => exact I2.after hq
    | next => exact False.elim hq
    | brk => exact False.elim hq
    | cont => exact False.elim hq
end
/-- what an __init__ of an exception promises: its fields, the last one first -/
def spX (C : Addr) (n : Nat) (fs : List V → List (Str × V)) : Sp := fun vs H Q _ => ∃ (a : Addr) (ws : List V), vs = .ref a :: ws ∧ ws.length = n ∧ H a = some (exo a C none) ∧
  ∀ d H', H d = none → d ≠ a → H' a = some (exo a C (some d)) → H' d = some (exd d (fs ws)) → (∀ c, c ≠ a → c ≠ d → H' c = H c) → Q .non H'
/-- raise C(..): the exception with its dict at d -/
theorem rd_raise {C : Addr} {n : Nat} {fs : List V → List (Str × V)} {vs : List V} {H1 : Hp} {Q : XK} (hl : vs.length = n) (hn : n ≤ 1000) (k : ∀ d, H1 d = none → Q (.ref C) (some d) (upd H1 d (.xd (fs vs)))) :
    vs.length ≤ 1000 ∧ ∀ a, H1 a = none → spX C n fs (.ref a :: (vs ++ [])) (upd H1 a (exo a C none))
      (fun v H2 => v = .non ∧ ∃ (d : Addr) (fs : List (Str × V)), H2 a = some (exo a C (some d)) ∧ H2 d = some (exd d fs) ∧ H1 d = none ∧ Q (.ref C) (some d) (upd (del H2 a) d (.xd fs))) (fun _ _ _ => False) := by
  refine ⟨by omega, fun a ha => ⟨a, vs, by rw [List.append_nil], hl, upd_same, fun d H' hd hda h1 h2 h3 => ⟨rfl, d, fs vs, h1, h2, ?_, ?_⟩⟩⟩
  · rw [upd_ne hda] at hd; exact hd
  · rw [upd_ne hda] at hd
    have e : upd (del H' a) d (.xd (fs vs)) = upd H1 d (.xd (fs vs)) := by
      funext c
      by_cases hc : c = d
      · rw [hc, upd_same, upd_same]
      · rw [upd_ne hc, upd_ne hc]
        by_cases hca : c = a
        · rw [hca, del_same, ha]
        · rw [del_ne hca, h3 c hca hc, upd_ne hca]
    rw [e]
    exact k d hd
/-- all that a text's exception class is asked for -/
structure XFacts (K : PySem.W.Frag) (mg : Str → Option Value) (name : Str) (C fI : Addr) (bmB : List Value) (newId : String) : Prop where
  T : ExCls K C bmB newId
  F : XfC K C
  g : mg name = some (.ref C)
  iC : PySem.W.findIn K (.ref C) "__init__" = some (some (.ref fI))
  tI : PySem.W.typeIn K (.ref fI) = some (.type "function")
  nC : PySem.W.findIn K (.ref C) "code" = some none
  me : PySem.W.exmOne K (.ref C) (.ref C) = some true
end SB

end

section
set_option Elab.async false
set_option linter.all false
set_option maxRecDepth 100000
set_option maxHeartbeats 4000000
/-! repr of data; the law's own def at the caller, where no guard stands. -/
namespace SB
open PySem PySem.Spec PyProof.Rows L2
def keyD : Key → PyData
  | .inl i => .int i
  | .inr x => .str x
def flatD : V → PyData
  | .bl b => .bool b
  | .int i => .int i
  | .str x => .str x
  | _ => .none
inductive Sh (K : PySem.W.Frag) (H : Hp) : V → PyData → Prop
  | dp {v : V} {d : PyData} (h : Dp K H v d) (hd : d.hasDict = false) : Sh K H v d
  | dct {a : Addr} {kvs : List (Key × V)} (h : H a = some (.dK kvs)) (hf : ∀ p ∈ kvs, flatV p.2 = true) : Sh K H (.ref a) (.dict (kvs.map fun p => (keyD p.1, flatD p.2)))
theorem reads_flat {h : Heap} {v : V} {u : Value} (r : RelV v u) (f : flatV v = true) : Reads h u (flatD v) [] := by
  cases v with
  | non => cases (show u = Value.none from r); exact .none
  | bl b => cases (show u = Value.bool b from r); exact .bool b
  | int i => obtain ⟨t, rfl⟩ := (show ∃ t, u = Value.int i t from r); exact .int i t
  | str x => obtain ⟨t, rfl⟩ := (show ∃ t, u = Value.str x t from r); exact .str x t
  | byt q => cases f
  | flt q => cases f
  | ref q => cases f
  | ty q => cases f
theorem reads_kvs {P : Program} {w : World} {h : Heap} : ∀ {kvs : List (Key × V)} {vs : List (Key × Value)} {es : List DictEntry}, KV kvs vs → Pairs (mixKind P w) es vs → (∀ p ∈ kvs, flatV p.2 = true) →
    ReadsAll h (es.map (·.key)) ((kvs.map fun p => (keyD p.1, flatD p.2)).map (·.1)) [] ∧ ReadsAll h (es.map (·.val)) ((kvs.map fun p => (keyD p.1, flatD p.2)).map (·.2)) []
  | [], _, _, .nil, .nil, _ => ⟨.nil, .nil⟩
  | (k, v) :: kvs, (k', u) :: vs, e :: es, .cons ⟨h1, h2⟩ t, .cons p1 p2 p3, f => by
    obtain ⟨i1, i2⟩ := reads_kvs (P := P) (w := w) (h := h) t p3 fun p hp => f p (List.mem_cons_of_mem _ hp)
    have hk : Reads h e.key (keyD k) [] := by
      have h1' : k = k' := h1
      subst h1'
      have p1' : keyIs k e.key = true := p1
      rcases keyIs_shape p1' with ⟨i, t, e1, e2⟩ | ⟨x, t, e1, e2⟩
      · rw [e1, e2]; exact .int i t
      · rw [e1, e2]; exact .str x t
    have hv : Reads h e.val (flatD v) [] := by
      have p2' : e.val = u := p2
      rw [p2']
      exact reads_flat h2 (f _ (List.mem_cons_self ..))
    exact ⟨ReadsAll.cons (as := []) (bs := []) hk i1, ReadsAll.cons (as := []) (bs := []) hv i2⟩
section
variable {X : Cx}
theorem sh_reads {pins : List (Addr × Obj)} {σ : L2.St} {H : Hp} {s : Shared} (I : Inv X pins σ H s) {v : V} {u : Value} {d : PyData} (h : Sh X.K H v d) (r : RelV v u) : ∃ as, Reads s.heap u d as ∧ (d.hasDict = true → sysModules ∉ as) := by
  cases h with
  | dp h hd =>
    obtain ⟨as, q⟩ := Dp.reads I _ _ _ h r
    exact ⟨as, q, fun z => by rw [hd] at z; cases z⟩
  | @dct a kvs h hf =>
    cases (show u = Value.ref a from r)
    obtain ⟨hz, hs, vs, kv, o, es, ep, ho, ⟨hc, _⟩, hd, _, hp, _⟩ := I.hok a _ h
    obtain ⟨i1, i2⟩ := reads_kvs (h := s.heap) kv hp hf
    refine ⟨_, Reads.dict (as := []) (bs := []) ho hc hd i1 i2, fun _ hm => ?_⟩
    have e : sysModules = a := by simpa using hm
    rw [e] at hs
    simp at hs
/-- repr(x): its text, by the data alone -/
def rRepr (K : PySem.W.Frag) : List V → Hp → VK → Prop := fun xs H Q => ∃ v d, xs = [v] ∧ Sh K H v d ∧ d.showable = true ∧ d.shown.length ≤ sizeLine ∧ d.depth ≤ 8 ∧ Q (.str d.shown) H
theorem cr_repr (hg : X.A.guards = some []) (hu : X.A.units + 40 < cLine) : CallR X (.builtin "repr") (rRepr X.K) := by
  intro pins s σ H xs us Q I r h
  obtain ⟨v, d, rfl, sh, hs, hz, hd, q⟩ := h
  obtain ⟨u, rfl, ru⟩ := vals1 r
  have fin : ∀ (h' : Heap) (t : Tok) (tk : Nat), (∀ b o, s.heap.get? b = some o → h'.get? b = some o) → EP X pins σ Q (.str d.shown t) { s with heap := h', toks := tk } := fun h' t tk k => ⟨.str d.shown, H, I.kept k, ⟨t, rfl⟩, q⟩
  obtain ⟨as, rd, hsm⟩ := sh_reads I sh ru
  cases rd with
  | none => exact P.repr_of_none (fin s.heap _ _ fun _ _ e => e)
  | bool b => exact P.repr_of_bool (fin s.heap _ _ fun _ _ e => e)
  | int i t => exact P.repr_of_int (by simpa [PyData.showable] using hs) (fin s.heap _ _ fun _ _ e => e)
  | str x t => exact P.repr_of_str (fin s.heap _ _ fun _ _ e => e) hz
  | list a1 a2 a3 a4 => exact repr_of_reads' (.list a1 a2 a3 a4) hs hsm hg (by omega) (fun _ _ e => e) (fun h' t tk k => fin h' t tk k) hz
  | tuple a1 a2 a3 a4 => exact repr_of_reads' (.tuple a1 a2 a3 a4) hs hsm hg (by omega) (fun _ _ e => e) (fun h' t tk k => fin h' t tk k) hz
  | dict a1 a2 a3 a4 a5 => exact repr_of_reads' (.dict a1 a2 a3 a4 a5) hs hsm hg (by omega) (fun _ _ e => e) (fun h' t tk k => fin h' t tk k) hz
end
end SB

end

section
set_option Elab.async false
set_option linter.all false
set_option maxRecDepth 100000
set_option maxHeartbeats 4000000
/-! the law's own def, entered where the row calls it (callerA): there no frame and no guard stands. -/
namespace SB
open PySem PySem.Spec PyProof.Rows L2
/-- what a def of one name keeps when it is entered at the caller -/
structure AtCaller (P : Program) (w : World) (K : PySem.W.Frag) (mg : Str → Option Value) (base : Heap) (f : Addr) (fd : FuncData) (x : Str) (sp : Sp) : Prop where
  run : ∀ (s : Shared) (H : Hp) (u : Value) (v : V) (Q : VK), Env0 P w K mg base callerA [] s H → RelV v u → BindsTo s fd ⟨[u], []⟩ [(x, u)] → sp [v] H Q (fun _ _ _ => False) →
    codeAny (model P w) callerA (.call (.ref f) ⟨[u], []⟩) (CR CX0 [] P w H s Q (fun _ _ _ => False)) s
theorem caller_ok {P : Program} {w : World} {K : PySem.W.Frag} {mg : Str → Option Value} {base : Heap} {k : Nat} {f : Addr} {fd : FuncData} {nm qual x : Str} {st : Stmt} {N : List Str} {sp : Sp} (F : Fun K nm qual st f fd) (S : FnScope N [x] (defScope st)) (room : Room (k + 1) callerA)
    (hbody : ∀ (cdv : Value) (s : Shared) (H : Hp) (v : V) (Q : VK), Room k (callerA.deeper (PyProof.Rows.envOfC qual (defScope st) s.heap.objs.size f cdv)) → sp [v] H Q (fun _ _ _ => False) →
      ∃ t, PSs (cxOf CX0 P w K mg base N qual (defScope st) f cdv callerA [] s H (fun _ _ _ => False)).nox (defBody st) t ∧ t { nx := fun _ H' => Q .non H', rt := Q } (L2.start N [v]) H) : AtCaller P w K mg base f fd x sp := by
  obtain ⟨⟨oc, od, kV, doc, pm, an, cdv, ct, osl, rfl, lk, hcd⟩, _⟩ := F
  refine ⟨fun s H u v Q e0 ruv hb hsp => ?_⟩
  have KX : K.In s.heap := e0.mod.kin.keeps fun b o e => (e0.bs b o e).1
  have lim : s.heap.NoLimit := e0.mod.nolimit.keeps fun b o e => (e0.bs b o e).1
  have kinds : ∀ y ∈ [(x, u)], (defScope st).names.lookup y.1 = some .local ∨ ((defScope st).names.lookup y.1 = some .cell ∧ ((cellsFrom (s.heap.objs.size + 1) (defScope st).names []).lookup y.1).isSome = true) := fun y hy => by
    obtain rfl := List.mem_singleton.mp hy
    rcases S.par x (List.mem_singleton.mpr rfl) with q | q
    · exact .inl q
    · exact .inr ⟨q, PySem.W.cellsFrom_some _ _ _ (.inl q)⟩
  refine codeAny_call_function room.depth (KX _ _ lk) rfl S.co S.gen rfl (PySem.W.codeRec_of KX hcd) (hb _ _ _ _ ?_)
  refine wpAny_newFunctionEnv_cells S.kind kinds fun env he s1 y => ?_
  subst he
  refine ⟨lim.keeps y.toInCall.keep, codeAny_func ?_⟩
  obtain ⟨t, ht, hq⟩ := hbody cdv s H v Q (room.deeper _) hsp
  have I : Inv (cxOf CX0 P w K mg base N qual (defScope st) f cdv callerA [] s H (fun _ _ _ => False)) [] (L2.start N [v]) H s1 := inv_start S room.hd e0 rfl (.cons ruv .nil) y
  refine wpAny_mono ((PSs.nox ht).run [] s1 (L2.start N [v]) H _ I hq) (fun fl s' hs => ?_) fun e s' hs => hs
  have out : ∀ {σ' : L2.St} {H' : Hp} {v' : V} {u' : Value}, Inv (cxOf CX0 P w K mg base N qual (defScope st) f cdv callerA [] s H (fun _ _ _ => False)) [] σ' H' s' → RelV v' u' → Q v' H' → CE [] P w H s Q u' s' :=
    fun {_ H' v' _} J rv q => ⟨v', H', J.os, J.bare, J.base, J.hok, rv, q⟩
  cases fl with
  | ret u' => exact let ⟨_, _, _, J, rv, q⟩ := hs; out J rv q
  | next => exact let ⟨_, _, J, q⟩ := hs; out (v' := V.non) (u' := Value.none) J rfl q
  | brk => exact let ⟨_, _, _, q⟩ := hs; False.elim q
  | cont => exact let ⟨_, _, _, q⟩ := hs; False.elim q

/-- the row's call, from that -/
theorem caller_call {P : Program} {w : World} {K : PySem.W.Frag} {mg mb : Str → Option Value} {fa a : Addr} {fd : FuncData} {x : Str} {sp : Sp} {s₁ : Shared} {vs : List Value} {ns : List Int}
    (KX : K.In s₁.heap) (hns : s₁.heap.Ns mainGlobals mg) (hb : s₁.heap.Ns builtinsNs mb) (hbb : ∀ x : Str, x ≠ "__name__" → mb x = bootBuiltins x) (hlim : s₁.heap.NoLimit) (hg : s₁.gens = #[])
    (ha : s₁.heap.get? a = some { cls := .type "list", data := .seq vs.toArray }) (hi : IntsAre vs ns) (hl : ns.length ≤ sizeLine)
    (F : ∀ base : Heap, K.In base → base.Ns mainGlobals mg → AtCaller P w K mg base fa fd x sp) (hbind : ∀ (s : Shared) (u : Value), BindsTo s fd ⟨[u], []⟩ [(x, u)])
    (hsp : ∀ H : Hp, SqL K H a (ns.map V.int) → sp [.ref a] H (fun v _ => v = .bl true) fun _ _ _ => False) :
    codeAny (model P w) callerA (.call (.ref fa) ⟨[.ref a], []⟩) (fun r s' => r = .ok (.ret (.bool true)) ∧ OldK s₁.heap s'.heap ∧ s'.os = s₁.os ∧ AllBare s'.gens) s₁ := by
  have rv := vals_ints hi
  have same_len := hi.length
  -- H tracks the script at most, and as it stands
  have go : ∀ H : Hp, (∀ b, H b = none ∨ (b = a ∧ ∃ o xs, H b = some (.frz o (.lst xs)))) → (H a ≠ none → K.lookup a = none) → SqL K H a (ns.map V.int) → HOk P w H s₁.heap →
      codeAny (model P w) callerA (.call (.ref fa) ⟨[.ref a], []⟩) (fun r s' => r = .ok (.ret (.bool true)) ∧ OldK s₁.heap s'.heap ∧ s'.os = s₁.os ∧ AllBare s'.gens) s₁ := by
    intro H only own hS hok
    have isA : ∀ {b : Addr}, H b ≠ none → b = a := fun {b} z => (only b).elim (fun q => absurd q z) And.left
    have bare : ∀ {b : Addr} {m : Str → Option Value}, s₁.heap.Ns b m → (hidT s₁.heap H).Ns b m := fun {b m} ⟨o, es, ep, e, d, r⟩ => ⟨o, es, ep, hidT_get e (by
      cases q : H b with
      | none => rfl
      | some u =>
        obtain rfl := isA (b := b) (by rw [q]; simp)
        rw [ha] at e
        cases e
        have d' : Data.seq vs.toArray _ = Data.dict es ep := d
        cases d'), d, r⟩
    have inK : K.In (hidT s₁.heap H) := fun b o e => hidT_get (KX b o e) (by
      cases q : H b with
      | none => rfl
      | some u =>
        obtain rfl := isA (b := b) (by rw [q]; simp)
        rw [own (by rw [q]; simp)] at e
        cases e)
    have M : Mod K mg (hidT s₁.heap H) := ⟨inK, bare hns, ⟨mb, bare hb, hbb⟩, let ⟨mc, h1, h2⟩ := hlim; ⟨mc, bare h1, h2⟩⟩
    have e0 : Env0 P w K mg (hidT s₁.heap H) callerA [] s₁ H := ⟨rfl, M, fun b o e => of_hidT e, Nat.le_of_eq (hidT_size _ _), trivial, fun b hb => absurd (show b ∈ ([] : List Addr) from hb) (by simp), hok, .of_eq hg⟩
    refine codeAny_mono ((F _ inK (bare hns)).run s₁ H (.ref a) (.ref a) _ e0 rfl (hbind s₁ (.ref a)) (hsp H hS)) fun r s' h => ?_
    match r, h with
    | .ok (.ret u), ⟨v, H', os, bg, un, hok', r', q⟩ =>
      have q' : v = .bl true := q
      subst q'
      obtain rfl : u = Value.bool true := r'
      refine ⟨rfl, OldK.of_keep fun b o e => ?_, os, bg⟩
      rcases only b with z | ⟨_, ob, xs, z⟩
      · exact un.keep b o e z (fun y => absurd (show b ∈ ([] : List Addr) from y) (by simp)) (by simp)
      · obtain ⟨e1, _⟩ := hok b _ z
        obtain ⟨e2, _⟩ := hok' b _ (un.frzs b ob _ z)
        rw [e] at e1
        cases e1
        exact e2
    | .error e, h => exact False.elim h
  cases hk : K.lookup a with
  | some o =>
    have e := KX a o hk
    rw [ha] at e
    cases e
    exact go (fun _ => none) (fun _ => .inl rfl) (fun z => absurd rfl z) (.inr ⟨_, vs.toArray, _, hk, rfl, rfl, rfl, by rw [List.size_toArray, same_len]; exact hl, by simpa using rv⟩) (fun b u z => nomatch (show (none : Option HO) = some u from z))
  | none =>
    have at_ : ∀ b, b ≠ a → (if b = a then some (HO.frz { cls := .type "list", data := .seq vs.toArray } (.lst (ns.map V.int))) else none) = none := fun b hb => if_neg hb
    refine go (fun b => if b = a then some (.frz { cls := .type "list", data := .seq vs.toArray } (.lst (ns.map V.int))) else none) (fun b => ?_) (fun _ => hk) (.inl (.inr ⟨{ cls := .type "list", data := .seq vs.toArray }, if_pos rfl⟩)) (fun b u z => ?_)
    · by_cases hb : b = a
      · exact .inr ⟨hb, _, _, if_pos hb⟩
      · exact .inl (at_ b hb)
    · by_cases hb : b = a
      · cases (if_pos hb).symm.trans z
        subst hb
        exact ⟨ha, by rw [List.length_map]; exact hl, vs, _, rv, ha⟩
      · cases (at_ b hb).symm.trans z
theorem caller_walk {l : PySem.W.OpenLaw} {n : Nat} {q : Program} {loose : List Str} {XP : (Str → Option Value) → Heap → Prop} {YP : World → Heap → Prop} {d : DefRec} {K : Params → PySem.W.Frag} {sp : World → Sp} {x : Str}
    (hn : l.most = some n) (hn2 : n ≤ sizeLine) (hdf : d.params.defaults = []) (hY : ∀ (w : World) (h : Heap), YP w h → (K w.params).In h)
    (F : ∀ (w : World) (mg : Str → Option Value) (fa : Addr) (h : Heap), (K w.params).In h → h.Ns mainGlobals mg → mg d.name = some (.ref fa) →
      ∃ fd : FuncData, (∀ (s : Shared) (u : Value), BindsTo s fd ⟨[u], []⟩ [(x, u)]) ∧ ∀ base : Heap, (K w.params).In base → base.Ns mainGlobals mg → AtCaller l.prog w (K w.params) mg base fa fd x (sp w))
    (hsp : ∀ (w : World) (H : Hp) (a : Addr) (ns : List Int), ns.length ≤ n → SqL (K w.params) H a (ns.map V.int) → sp w [.ref a] H (fun v _ => v = .bl true) fun _ _ _ => False) :
    PySem.W.WalkO q loose XP YP l.row.toRowW d [] (fun f vs => PySem.call f vs) := by
  refine Att.attach_call hn hdf fun w s₀ s₁ mg mb fa o pm cd doc a vs ns G Y ho hd hcd hmg hobj hints hlen hg => ?_
  obtain ⟨fd, hb, hF⟩ := F w mg fa _ (hY w _ Y) G.T.g hmg
  exact caller_call (hY w _ Y) G.T.g G.T.b G.T.builtins G.T.nolimit hg hobj hints (Nat.le_trans hlen hn2) hF hb fun H hS => hsp w H a ns hlen hS
end SB

end

section
set_option Elab.async false
set_option linter.all false
set_option maxRecDepth 100000
set_option maxHeartbeats 4000000
/-! small texts; a text read backward. -/
namespace SB
open PySem PySem.Spec PyProof.Rows L2
/-- a small text -/
def Sm (n : Nat) (z : Str) : Prop := z.length ≤ n ∧ ∀ c ∈ z.cps.toList, c < 1114112
theorem Sm.app {m n : Nat} {x y : Str} (a : Sm m x) (b : Sm n y) : Sm (m + n) (x ++ y) := by
  refine ⟨by rw [Str.length_append]; exact Nat.add_le_add a.1 b.1, fun c hc => ?_⟩
  rw [Str.cps_append, Array.toList_append, List.mem_append] at hc
  exact hc.elim (a.2 c) (b.2 c)
theorem Sm.cut {n : Nat} {z : Str} (a : Sm n z) (lo hi : Option Int) : Sm n (cutS z lo hi) := by
  refine ⟨Nat.le_trans (cutS_length z lo hi) a.1, fun c hc => a.2 c ?_⟩
  unfold cutS at hc
  exact List.mem_of_mem_drop (List.mem_of_mem_take (by simpa using hc))
theorem Sm.mono {m n : Nat} {z : Str} (a : Sm m z) (h : m ≤ n) : Sm n z := ⟨Nat.le_trans a.1 h, a.2⟩
theorem Sm.repr {n : Nat} {z : Str} (a : Sm n z) : (reprText z).length ≤ 10 * n + 2 := by
  have := PySem.StrLaws.reprText_len z fun c hc => Nat.lt_of_lt_of_le (a.2 c hc) (by decide)
  have := a.1
  omega
theorem Sm.line {n : Nat} {z : Str} (a : Sm n z) (h : n ≤ 1000000) : z.length ≤ sizeLine := by
  have := a.1
  rw [sizeLine_eq]
  omega
/-- t[::-1]: some text, no longer, of the same signs -/
def tRevS (te : TE) : TE := fun σ H Q => te σ H fun x H1 => ∃ z n, x = .str z ∧ Sm n z ∧ n ≤ 1000000 ∧ ∀ y, Sm n y → Q (.str y) H1
theorem back_len (n : Nat) : (Builtin.Str.strSliceIndices none none (-1) n).length ≤ n := by
  unfold Builtin.Str.strSliceIndices sliceRange
  simp only [List.length_map, List.length_range]
  split
  · split <;> omega
  · split
    · have e : ((n : Int) - 1 - -1 - -1 - 1) / - -1 = (n : Int) := by
        rw [show - (-1 : Int) = 1 from rfl, Int.ediv_one]
        omega
      simp_all
    · omega
theorem pe_revS {X : Cx} {e : Expr} {te : TE} {k : Nat} {p1 p2 p3 pos : Pos} (he : PE X e te) : PE X (.Subscript e (.Slice none none (some (.UnaryOp .USub (.Constant (.int 1) k p1) p2)) p3) pos) (tRevS te) := by
  refine ⟨fun pins s σ H Q I h => ?_⟩
  refine Subscript_ (thn (he.run pins s σ H _ I h) fun v s1 ⟨x, H1, I1, r1, z, n, ex, sm, hn, q⟩ => ?_)
  subst ex
  obtain ⟨t, rfl⟩ := r1
  have step : PO X (some (.UnaryOp .USub (.Constant (.int 1) k p1) p2)) (tPart (tUn (rU fun i => .int (-i)) (tC (.int 1)))) := po_some (pe_un un_neg pe_int)
  refine wpAny_Slice (thn (po_none.run pins s1 σ H1 (fun o H2 => o = none ∧ H2 = H1) I1 ⟨rfl, rfl⟩) fun vl s2 ⟨l, H2, I2, pl, el, e2⟩ => ?_)
  subst el e2
  refine thn (po_none.run pins s2 σ H2 (fun o H3 => o = none ∧ H3 = H2) I2 ⟨rfl, rfl⟩) fun vu s3 ⟨u, H3, I3, pu, eu, e3⟩ => ?_
  subst eu e3
  refine thn (step.run pins s3 σ H3 (fun o H4 => o = some (-1) ∧ H4 = H3) I3 ⟨1, rfl, -1, rfl, rfl, rfl⟩) fun vs s4 ⟨o, H4, I4, ps, eo, e4⟩ => ?_
  subst eo e4
  have I5 : Inv X pins σ H4 { s4 with heap := s4.heap.push { cls := .type "slice", data := .fields #[vl, vu, vs] } } := I4.kept (t' := s4.toks) fun b ob q => Heap.get?_push_of_some _ q
  show wpAny (model X.prog X.w) X.A (subscriptTail e (.Slice none none (some (.UnaryOp .USub (.Constant (.int 1) k p1) p2)) p3) (.str z t) (.ref s4.heap.objs.size)) (EP X pins σ Q) X.xe { s4 with heap := s4.heap.push { cls := .type "slice", data := .fields #[vl, vu, vs] } }
  refine tail_any (ops := [.str z t, .ref s4.heap.objs.size]) (typeIs_str _ _ _) (F.slot_str_getitem.lookup) ?_ (by with_unfolding_all rfl)
  cases pl
  cases pu
  cases ps with
  | int _ t' =>
    refine wpAny_getItem_str_slice (l := none) (u := none) (st := some (-1, t')) ⟨_, Heap.get?_push_size _ rfl, rfl, rfl⟩ rfl ?_
    show Made.post (if ((-1 : Int) == 1 && (Builtin.Str.strSliceIndices none none (-1) z.length).length == z.length) = true then Made.val (.str z t)
      else Made.str ⟨((Builtin.Str.strSliceIndices none none (-1) z.length).filterMap (z.cps[·]?)).toArray⟩) _ _
    rw [if_neg (by simp)]
    have sm' : Sm n (⟨((Builtin.Str.strSliceIndices none none (-1) z.length).filterMap (z.cps[·]?)).toArray⟩ : Str) := by
      refine ⟨?_, fun c hc => ?_⟩
      · show ((Builtin.Str.strSliceIndices none none (-1) z.length).filterMap (z.cps[·]?)).toArray.size ≤ n
        rw [List.size_toArray]
        exact Nat.le_trans (List.length_filterMap_le _ _) (Nat.le_trans (back_len _) sm.1)
      · have hc' : c ∈ (Builtin.Str.strSliceIndices none none (-1) z.length).filterMap (z.cps[·]?) := by simpa using hc
        obtain ⟨i, _, hi⟩ := List.mem_filterMap.mp hc'
        exact sm.2 c (Array.mem_toList_iff.mpr (Array.mem_of_getElem? hi))
    exact ⟨sm'.line hn, .str _, H4, I5.tok _, ⟨_, rfl⟩, q _ sm'⟩
end SB

end

section
set_option Elab.async false
set_option linter.all false
set_option maxRecDepth 100000
set_option maxHeartbeats 4000000
/-! a tuple whose object is known (its methods may be called); values that a law may draw. -/
namespace SB
open PySem PySem.Spec PyProof.Rows L2
def tTupF (t : TA) : TE := fun σ H Q => t σ H fun xs H1 => xs.length ≤ sizeLine ∧ ∀ p o, H1 p = none → o.dict = none → o.cls = .type "tuple" → Q (.ref p) (upd H1 p (.frz o (.tup xs)))
section
variable {X : Cx} {es : List Expr} {t : TA} {pos : Pos}
theorem pe_tupF {x1} (h : PA X es t) : PE X (.Tuple es x1 pos) (tTupF t) := by
  refine ⟨fun pins s σ H Q I hq => ?_⟩
  refine wpAny_Tuple_spliced (thn (h.run pos pins s σ H _ I hq) fun us s1 ⟨xs, H1, I1, r, z, q⟩ => ⟨by rw [← r.length]; exact z, ?_⟩)
  have free : H1 s1.heap.objs.size = none := I1.hok.fresh (Nat.le_refl _)
  refine ⟨.ref s1.heap.objs.size, upd H1 s1.heap.objs.size (.frz _ (.tup xs)), I1.laid (t' := s1.toks) (fun b u e => Heap.get?_push_of_some _ e) (Nat.le_refl _) ⟨Heap.get?_push_size _ rfl, z, us, r, ⟨_, Heap.get?_push_size _ rfl, rfl, _, rfl⟩⟩, rfl, q _ _ free rfl rfl⟩
/-- t.index(z), t such a tuple of texts -/
def tTix (to te : TE) : TE := fun σ H Q => to σ H fun x H1 => (∃ p o u, x = .ref p ∧ H1 p = some (.frz o u) ∧ o.dict = none ∧ o.cls = .type "tuple") ∧ te σ H1 fun y H2 =>
  ∃ (p : Addr) (o : Obj) (ys : List Str) (z : Str) (j : Nat), x = .ref p ∧ y = .str z ∧ H2 p = some (.frz o (.tup (ys.map V.str))) ∧ ys[j]? = some z ∧ (∀ m, m < j → ys[m]? ≠ some z) ∧ Q (.int (j : Nat)) H2
theorem pe_tix {o e : Expr} {to te : TE} {apos cpos : Pos} (ho : PE X o to) (he : PE X e te)
    (hbase : attributeBase o "index" X.env (eval o X.env) = eval o X.env := by rfl)
    (hfew : ((backTo cpos (starEach [e] X.env)).all (fun x => !x.1) && (backToKw cpos (keywordEach [] X.env)).all (fun x => x.1.isSome)
      && decide ([e].length + ([] : List Keyword).length + (if ([] : List Keyword).isEmpty then 0 else 1) < 30)) = true := by rfl)
    (hline : (apos.endLine == cpos.line) = true := by rfl) (hs : starEach [e] X.env = (false, eval e X.env) :: starEach [] X.env := by rfl) :
    PE X (.Call (.Attribute o "index" apos) [e] [] cpos) (tTix to te) := by
  refine ⟨fun pins s σ H Q I h => ?_⟩
  refine wpAny_Call_method_late hbase hfew hline rfl (thn (ho.run pins s σ H _ I h) fun v s1 ⟨x, H1, I1, r1, ⟨p, ob, u, ex, hp, hd, hc⟩, q1⟩ => ?_)
  subst ex
  cases r1
  obtain ⟨at_, _⟩ := I1.hok p _ hp
  refine ⟨"tuple", _, PySem.F.plainAttrs_tuple, PySem.F.slot_tuple_index, PySem.F.type_tuple_index, ⟨ob, at_, hc⟩, fun a e' => by cases e'; exact ⟨ob, at_, hd⟩, ?_⟩
  have hA := (pa_cons (X := X) he pa_nil hs).run cpos pins s1 σ H1 (fun vs H2 => match vs with
    | [y] => ∃ (p' : Addr) (o' : Obj) (ys : List Str) (z : Str) (j : Nat), V.ref p = .ref p' ∧ y = .str z ∧ H2 p' = some (.frz o' (.tup (ys.map V.str))) ∧ ys[j]? = some z ∧ (∀ m, m < j → ys[m]? ≠ some z) ∧ Q (.int (j : Nat)) H2
    | _ => False) I1 q1
  rw [hs] at hA ⊢
  refine Calls.callWith_builtin rfl (Calls.evalArgs_plain ?_)
  refine thn hA fun us s2 ⟨vs, H2, I2, r2, q2⟩ => ?_
  match vs, r2, q2 with
  | [y], r2, ⟨p', o', ys, z, j, e1, e2, h1, h2, h3, q⟩ =>
    cases e1
    subst e2
    exact mt_tup_index pins s2 σ H2 (.ref p) [.str z] _ us Q I2 rfl r2 ⟨p, ys, z, j, rfl, rfl, .inl (.inr ⟨o', h1⟩), h2, h3, q⟩
end

/-- a datum whose repr is small -/
def okD (d : PyData) : Bool := d.showable && decide (d.shown.length ≤ 100000) && decide (d.depth ≤ 8) && !d.hasDict
theorem okD_all {d : PyData} (h : okD d = true) : d.showable = true ∧ d.shown.length ≤ sizeLine ∧ d.depth ≤ 8 ∧ d.hasDict = false := by
  unfold okD at h
  simp only [Bool.and_eq_true, decide_eq_true_eq, Bool.not_eq_true'] at h
  obtain ⟨⟨⟨h1, h2⟩, h3⟩, h4⟩ := h
  exact ⟨h1, by rw [sizeLine_eq]; omega, h3, h4⟩
/-- a value that a law has drawn: it is the same as itself, it has a repr, it is a text or none -/
structure GV (K : PySem.W.Frag) (H : Hp) (v : V) (d : PyData) : Prop where
  al : Alike K H 1 v v
  sh : Sh K H v d
  kd : (∃ z, v = .str z) ∨ ∃ T, TyX K H v (.type T) ∧ kitB T "str" = some false
/-- .. whatever is drawn later -/
def Drawn (b : Addr) (K : PySem.W.Frag) (H : Hp) (v : V) : Prop := ∃ d : PyData, d.showable = true ∧ d.shown.length ≤ sizeLine ∧ d.depth ≤ 8 ∧ ∀ H', Keep b H H' → GV K H' v d
theorem Drawn.keep {b : Addr} {K : PySem.W.Frag} {H H' : Hp} {v : V} (g : Drawn b K H v) (k : Keep b H H') : Drawn b K H' v :=
  let ⟨d, h1, h2, h3, h4⟩ := g
  ⟨d, h1, h2, h3, fun H2 k2 => h4 H2 (k.trans k2)⟩
/-- a value without an object -/
inductive Plain : V → Prop
  | non : Plain .non
  | bl (b : Bool) : Plain (.bl b)
  | int (i : Int) (h : i.natAbs.log2 < 1920) : Plain (.int i)
  | str (z : Str) (h : Sm 1000 z) : Plain (.str z)
theorem Plain.drawn {b : Addr} {K : PySem.W.Frag} {H : Hp} {v : V} (p : Plain v) : Drawn b K H v := by
  cases p with
  | non => exact ⟨.none, by decide, by decide, by decide, fun H' _ => ⟨.inl (.inl ⟨rfl, rfl⟩), .dp .non (by decide), .inr ⟨_, .base .non, by decide +kernel⟩⟩⟩
  | bl c => exact ⟨.bool c, by simp [PyData.showable], by cases c <;> decide, by simp [PyData.depth], fun H' _ => ⟨.inl (.inl ⟨rfl, rfl⟩), .dp (.bl c) (by simp [PyData.hasDict]), .inr ⟨_, .base (.bl c), by decide +kernel⟩⟩⟩
  | int i h => exact ⟨.int i, by simpa [PyData.showable] using h, int_text_fits h, by simp [PyData.depth], fun H' _ => ⟨.inl (.inl ⟨rfl, rfl⟩), .dp (.int i) (by simp [PyData.hasDict]), .inr ⟨_, .base (.int i), by decide +kernel⟩⟩⟩
  | str z h => exact ⟨.str z, by simp [PyData.showable], (by
      have := h.repr
      show (reprText z).length ≤ sizeLine
      rw [sizeLine_eq]
      omega), by simp [PyData.depth], fun H' _ => ⟨.inl (.inl ⟨rfl, rfl⟩), .dp (.str z) (by simp [PyData.hasDict]), .inl ⟨z, rfl⟩⟩⟩
theorem dpAll_strs {K : PySem.W.Frag} {H : Hp} : ∀ zs : List Str, DpAll K H (zs.map V.str) (zs.map PyData.str)
  | [] => .nil
  | z :: zs => .cons (.str z) (dpAll_strs zs)
theorem leaf_strs {H : Hp} : ∀ zs : List Str, Paired (Leaf H) (zs.map V.str) (zs.map V.str)
  | [] => .nil
  | z :: zs => .cons (.inl ⟨rfl, rfl⟩) (leaf_strs zs)
theorem drawn_lst {b p : Addr} {K : PySem.W.Frag} {H : Hp} {zs : List Str} (hp : H p = some (.lst (zs.map V.str))) (hb : p ≠ b) (ok : okD (.list (zs.map .str)) = true) (hl : zs.length < sizeLine) : Drawn b K H (.ref p) :=
  let ⟨h1, h2, h3, h4⟩ := okD_all ok
  ⟨_, h1, h2, h3, fun H' k => ⟨.inr (.inl ⟨p, p, _, _, rfl, rfl, SqL.of (k _ _ hp hb), SqL.of (k _ _ hp hb), by rw [List.length_map]; exact hl, leaf_strs zs⟩), .dp (.lst (SqL.of (k _ _ hp hb)) (dpAll_strs zs)) h4, .inr ⟨_, ty_list (SqL.of (k _ _ hp hb)), by decide +kernel⟩⟩⟩
theorem drawn_tup {b p : Addr} {K : PySem.W.Frag} {H : Hp} {zs : List Str} (hp : ∀ H', Keep b H H' → SqT K H' p (zs.map V.str)) (ok : okD (.tuple (zs.map .str)) = true) (hl : zs.length < sizeLine) : Drawn b K H (.ref p) :=
  let ⟨h1, h2, h3, h4⟩ := okD_all ok
  ⟨_, h1, h2, h3, fun H' k => ⟨.inr (.inr ⟨p, p, _, _, rfl, rfl, hp H' k, hp H' k, by rw [List.length_map]; exact hl, leaf_strs zs⟩), .dp (.tup (hp H' k) (dpAll_strs zs)) h4, .inr ⟨_, ty_tup (hp H' k), by decide +kernel⟩⟩⟩
theorem drawn_dct {b p : Addr} {K : PySem.W.Frag} {H : Hp} {kvs : List (Key × V)} (hp : H p = some (.dK kvs)) (hb : p ≠ b) (hf : ∀ q ∈ kvs, valV kvs q.1 = some q.2 ∧ flatB q.2 = true ∧ flatV q.2 = true)
    (h1 : (PyData.dict (kvs.map fun q => (keyD q.1, flatD q.2))).showable = true) (h2 : (PyData.dict (kvs.map fun q => (keyD q.1, flatD q.2))).shown.length ≤ sizeLine) (h3 : (PyData.dict (kvs.map fun q => (keyD q.1, flatD q.2))).depth ≤ 8) : Drawn b K H (.ref p) :=
  ⟨_, h1, h2, h3, fun H' k => ⟨.inl (.inr ⟨p, kvs, rfl, rfl, k _ _ hp hb, fun q hq => ⟨(hf q hq).1, (hf q hq).2.1⟩⟩), .dct (k _ _ hp hb) fun q hq => (hf q hq).2.2, .inr ⟨_, .base (.dK (k _ _ hp hb)), by decide +kernel⟩⟩⟩
end SB

end

section
set_option Elab.async false
set_option linter.all false
set_option maxRecDepth 100000
set_option maxHeartbeats 4000000
namespace SB
open PySem PySem.Spec PyProof.Rows L2
theorem seqL_keep {K : PySem.W.Frag} {H H' : Hp} {b p : Addr} {xs : List V} (k : Keep b H H') (n : p ≠ b) (h : SqL K H p xs) : SqL K H' p xs := by
  rcases h with (h | ⟨o, h⟩) | h
  · exact .inl (.inl (k _ _ h n))
  · exact .inl (.inr ⟨o, k _ _ h n⟩)
  · exact .inr h
theorem seqT_keep {K : PySem.W.Frag} {H H' : Hp} {b p : Addr} {xs : List V} (k : Keep b H H') (n : p ≠ b) (h : SqT K H p xs) : SqT K H' p xs := by
  rcases h with (h | ⟨o, h⟩) | h
  · exact .inl (.inl (k _ _ h n))
  · exact .inl (.inr ⟨o, k _ _ h n⟩)
  · exact .inr h
theorem of_seq {K : PySem.W.Frag} {H : Hp} {b p : Addr} {xs : List V} {Q : VK} {E : XK} (B : BagAt H b) (n : p ≠ b) (hs : SqL K H p xs ∨ SqT K H p xs) (h0 : 0 < xs.length) (h1 : xs.length < 2 ^ 62)
    (k : ∀ v H', v ∈ xs → BagAt H' b → Keep b H H' → (∀ c, H c = none → H' c = none) → Q v H') : spOf K [.ref b, .ref p] H Q E :=
  ⟨b, p, xs, rfl, B, n, hs, h0, h1, fun H' kk h => seqL_keep kk n h, fun H' kk h => seqT_keep kk n h, k⟩
theorem BagAt.new {H : Hp} {b p : Addr} {o : HO} (B : BagAt H b) (hp : H p = none) : BagAt (upd H p o) b := B.same (Same.new (Same.refl H) hp)
theorem BagAt.at {H : Hp} {b : Addr} (B : BagAt H b) : ∃ xs, H b = some (.lst xs) := let ⟨l, ns, i, g, m, c, h, _⟩ := B; ⟨_, h⟩
theorem BagAt.ne {H : Hp} {b p : Addr} (B : BagAt H b) (hp : H p = none) : p ≠ b := fun e => by
  obtain ⟨xs, h⟩ := B.at
  rw [e, h] at hp
  cases hp
/-- a table of texts -/
theorem look_at : ∀ (l : List (Str × Int)) {z : Str} {i : Int}, l.lookup z = some i → ∃ j : Nat, (l.map (·.1))[j]? = some z ∧ (l.map (·.2))[j]? = some i ∧ ∀ m : Nat, m < j → (l.map (·.1))[m]? ≠ some z
  | [], z, i, h => by cases h
  | (k, v) :: l, z, i, h => by
    by_cases e : z = k
    · subst e
      have : some v = some i := by simpa [List.lookup] using h
      cases this
      exact ⟨0, rfl, rfl, fun m hm => absurd hm (by omega)⟩
    · have h' : l.lookup z = some i := by
        have e' : (z == k) = false := by simpa using e
        simpa [List.lookup, e'] using h
      obtain ⟨j, h1, h2, h3⟩ := look_at l h'
      refine ⟨j + 1, h1, h2, fun m hm => ?_⟩
      cases m with
      | zero => exact fun q => e (Option.some.inj q).symm
      | succ m => exact h3 m (by omega)
theorem look_none : ∀ (l : List (Str × Int)) {z : Str}, l.lookup z = none → inV (.str z) ((l.map (·.1)).map V.str) = false
  | [], z, h => rfl
  | (k, v) :: l, z, h => by
    by_cases e : z = k
    · subst e
      simp [List.lookup] at h
    · have e' : (z == k) = false := by simpa using e
      have h' : l.lookup z = none := by simpa [List.lookup, e'] using h
      have ih := look_none l h'
      show (eqV (.str k) (.str z) || inV (.str z) ((l.map (·.1)).map V.str)) = false
      rw [ih]
      show ((k == z) || false) = false
      have : (k == z) = false := by simpa using fun q => e q.symm
      rw [this]
      rfl
theorem look_in : ∀ (l : List (Str × Int)) {z : Str} {i : Int}, l.lookup z = some i → inV (.str z) ((l.map (·.1)).map V.str) = true
  | [], z, i, h => by cases h
  | (k, v) :: l, z, i, h => by
    show (eqV (.str k) (.str z) || inV (.str z) ((l.map (·.1)).map V.str)) = true
    by_cases e : z = k
    · subst e
      show ((z == z) || _) = true
      simp
    · have e' : (z == k) = false := by simpa using e
      rw [look_in l (z := z) (i := i) (by simpa [List.lookup, e'] using h), Bool.or_true]
theorem look_mem : ∀ (l : List (Str × Int)) {z : Str}, z ∈ l.map (·.1) → ∃ i, l.lookup z = some i
  | [], z, h => by simp at h
  | (k, v) :: l, z, h => by
    by_cases e : z = k
    · subst e
      exact ⟨v, by simp [List.lookup]⟩
    · have e' : (z == k) = false := by simpa using e
      obtain ⟨i, hi⟩ := look_mem l (z := z) (by simpa [e] using h)
      exact ⟨i, by simpa [List.lookup, e'] using hi⟩
theorem look_val : ∀ (l : List (Str × Int)) {z : Str} {i : Int}, l.lookup z = some i → i ∈ l.map (·.2)
  | [], z, i, h => by cases h
  | (k, v) :: l, z, i, h => by
    by_cases e : z = k
    · subst e
      have : some v = some i := by simpa [List.lookup] using h
      cases this
      exact List.mem_cons_self ..
    · have e' : (z == k) = false := by simpa using e
      exact List.mem_cons_of_mem _ (look_val l (z := z) (by simpa [List.lookup, e'] using h))
def smB (z : Str) : Bool := decide (z.length ≤ 100) && z.cps.toList.all fun c => decide (c < 1114112)
theorem smB_ok {z : Str} (h : smB z = true) : Sm 100 z := by
  unfold smB at h
  simp only [Bool.and_eq_true, decide_eq_true_eq, List.all_eq_true] at h
  exact h
end SB

end

section
set_option Elab.async false
set_option linter.all false
set_option maxRecDepth 100000
set_option maxHeartbeats 4000000
/-! the bag with its list of cells named; what drawing from it promises. -/
namespace SB
open PySem PySem.Spec PyProof.Rows L2
/-- the bag at b, its cells at l -/
def BagL (H : Hp) (b l : Addr) : Prop := ∃ (ns : List Int) (i g m c : Int), H b = some (.lst [.ref l, .int i, .int g, .int m, .int c]) ∧ H l = some (.lst (ns.map V.int)) ∧ l ≠ b ∧ 0 ≤ i ∧ 0 ≤ g ∧ 0 ≤ m ∧ m < 2147483648
theorem BagL.same {H H' : Hp} {b l : Addr} (x : BagL H b l) (s : Same H H') : BagL H' b l := let ⟨ns, i, g, m, c, h1, h2, r⟩ := x; ⟨ns, i, g, m, c, s _ _ h1, s _ _ h2, r⟩
theorem BagL.new {H : Hp} {b l p : Addr} {o : HO} (B : BagL H b l) (hp : H p = none) : BagL (upd H p o) b l := B.same (Same.new (Same.refl H) hp)
theorem BagL.ne {H : Hp} {b l p : Addr} (B : BagL H b l) (hp : H p = none) : p ≠ b := fun e => by
  obtain ⟨ns, i, g, m, c, h, _⟩ := B
  rw [e, h] at hp
  cases hp
theorem BagL.nl {H : Hp} {b l p : Addr} (B : BagL H b l) (hp : H p = none) : p ≠ l := fun e => by
  obtain ⟨ns, i, g, m, c, _, h, _⟩ := B
  rw [e, h] at hp
  cases hp
/-- something that is no bag changes -/
theorem BagL.put {H : Hp} {b l p : Addr} {o : HO} (B : BagL H b l) (n1 : p ≠ b) (n2 : p ≠ l) : BagL (upd H p o) b l :=
  let ⟨ns, i, g, m, c, h1, h2, r⟩ := B
  ⟨ns, i, g, m, c, by rw [upd_ne (fun e => n1 e.symm)]; exact h1, by rw [upd_ne (fun e => n2 e.symm)]; exact h2, r⟩
def spBagL (K : PySem.W.Frag) : Sp := fun vs H Q _ => ∃ (a : Addr) (ns : List Int), vs = [.ref a] ∧ SqL K H a (ns.map V.int) ∧ ns.length ≤ 1000 ∧
  ∀ b l H', H b = none → H l = none → Same H H' → BagL H' b l → Q (.ref b) H'
def spDrawL : Sp := fun vs H Q _ => ∃ (b l : Addr) (top : Int), vs = [.ref b, .int top] ∧ BagL H b l ∧ 0 < top ∧ top.natAbs.log2 < 9000 ∧
  ∀ d H', 0 ≤ d → d < top → BagL H' b l → Keep b H H' → (∀ c, H c = none → H' c = none) → Q (.int d) H'
/-- one of the items of a list or a tuple -/
def spOfL (K : PySem.W.Frag) : Sp := fun vs H Q _ => ∃ (b l p : Addr) (xs : List V), vs = [.ref b, .ref p] ∧ BagL H b l ∧ p ≠ b ∧ (SqL K H p xs ∨ SqT K H p xs) ∧ 0 < xs.length ∧ xs.length < 2 ^ 62 ∧
  ∀ v H', v ∈ xs → BagL H' b l → Keep b H H' → (∀ c, H c = none → H' c = none) → Q v H'
theorem of_seqL {K : PySem.W.Frag} {H : Hp} {b l p : Addr} {xs : List V} {Q : VK} {E : XK} (B : BagL H b l) (n : p ≠ b) (hs : SqL K H p xs ∨ SqT K H p xs) (h0 : 0 < xs.length) (h1 : xs.length < 2 ^ 62)
    (k : ∀ v H', v ∈ xs → BagL H' b l → Keep b H H' → (∀ c, H c = none → H' c = none) → Q v H') : spOfL K [.ref b, .ref p] H Q E :=
  ⟨b, l, p, xs, rfl, B, n, hs, h0, h1, k⟩
theorem log_small {top : Int} (h0 : 0 < top) (h1 : top < 2 ^ 62) : top.natAbs.log2 < 9000 := by
  have h : top.natAbs < 2 ^ 62 := by omega
  have h2 : top.natAbs ≠ 0 := by omega
  exact Nat.lt_of_lt_of_le ((Nat.log2_lt h2).mpr h) (by decide)
end SB

end

section
set_option Elab.async false
set_option linter.all false
set_option maxRecDepth 100000
set_option maxHeartbeats 4000000
/-! key sets: small facts about lists of whole numbers. -/
namespace SB
open PySem PySem.Spec PyProof.Rows L2
theorem flat_ints (ks : List Int) : (ks.map V.int).all flatV = true := by
  induction ks with
  | nil => rfl
  | cons a r ih => rw [List.map_cons, List.all_cons, ih]; rfl
theorem inV_ints (z : Int) : ∀ ks : List Int, inV (.int z) (ks.map V.int) = decide (z ∈ ks)
  | [] => by simp [inV]
  | a :: r => by
    show (eqV (.int a) (.int z) || inV (.int z) (r.map V.int)) = decide (z ∈ a :: r)
    rw [inV_ints z r]
    show ((a == z) || decide (z ∈ r)) = decide (z ∈ a :: r)
    by_cases h : z = a
    · subst h; simp
    · have h' : (a == z) = false := by simpa using fun e => h e.symm
      rw [h', Bool.false_or]
      simp [h]
theorem mem_ints {ks : List Int} {v : V} (h : v ∈ ks.map V.int) : ∃ k, v = .int k ∧ k ∈ ks := by
  obtain ⟨k, hk, rfl⟩ := List.mem_map.mp h
  exact ⟨k, rfl, hk⟩
/-- different items within a list are no more than its items -/
theorem nodup_le : ∀ (l1 l2 : List Int), l1.Nodup → (∀ x ∈ l1, x ∈ l2) → l1.length ≤ l2.length
  | [], _, _, _ => Nat.zero_le _
  | x :: l1, l2, hn, h => by
    have hx : x ∈ l2 := h x List.mem_cons_self
    have hn' := List.nodup_cons.mp hn
    have ih := nodup_le l1 (l2.erase x) hn'.2 fun y hy => by
      have ne : y ≠ x := fun e => hn'.1 (e ▸ hy)
      exact (List.mem_erase_of_ne ne).mpr (h y (List.mem_cons_of_mem _ hy))
    rw [List.length_erase_of_mem hx] at ih
    have : 0 < l2.length := List.length_pos_of_mem hx
    show l1.length + 1 ≤ l2.length
    omega
theorem mod_inj {w d : Int} (hw : 0 < w) {i j : Nat} (hj : (j : Int) < w) (hij : i ≤ j) (h : (d + (j : Int)) % w = (d + (i : Int)) % w) : i = j := by
  have h1 := Int.emod_eq_emod_iff_emod_sub_eq_zero.mp h
  have e : d + (j : Int) - (d + (i : Int)) = ((j - i : Nat) : Int) := by omega
  rw [e] at h1
  rw [Int.emod_eq_of_lt (by omega) (by omega)] at h1
  omega
/-- so many places in a row, round about -/
theorem mod_list {w d low : Int} (hw : 0 < w) : ∀ n : Nat, (n : Int) ≤ w → (((List.range n).map fun j : Nat => low + (d + (j : Int)) % w)).Nodup
  | 0, _ => by simp
  | n + 1, h => by
    rw [List.range_succ, List.map_append]
    refine List.nodup_append.mpr ⟨mod_list hw n (by omega), by simp, fun a ha b hb e => ?_⟩
    obtain ⟨j, hj, rfl⟩ := List.mem_map.mp ha
    have hj' : j < n := List.mem_range.mp hj
    simp only [List.map_cons, List.map_nil, List.mem_singleton] at hb
    subst hb
    have := mod_inj (w := w) (d := d) hw (i := j) (j := n) (by omega) (by omega) (by omega)
    omega
/-- a key set -/
structure KSet (ks : List Int) : Prop where
  up : ks.Pairwise (· < ·)
  lo : ∀ k ∈ ks, 0 ≤ k
  hi : ∀ k ∈ ks, k ≤ 999
theorem kset_sort {fs ks : List Int} (hp : ks.Perm fs) (hs : ks.Pairwise (· ≤ ·)) (hn : fs.Nodup) (h0 : ∀ k ∈ fs, 0 ≤ k) (h1 : ∀ k ∈ fs, k ≤ 999) : KSet ks where
  up := by
    have hn' : ks.Nodup := hp.symm.nodup hn
    exact (hs.and hn').imp fun ⟨a, b⟩ => by omega
  lo k h := h0 k (hp.mem_iff.mp h)
  hi k h := h1 k (hp.mem_iff.mp h)
end SB

end

section
set_option Elab.async false
set_option linter.all false
set_option maxRecDepth 100000
set_option maxHeartbeats 4000000
/-! what a text may be asked about any value: whether it is a number, a key, a key set. -/
namespace SB
open PySem PySem.Spec PyProof.Rows L2
/-- a whole number that is no bool, or something else -/
inductive NV (K : PySem.W.Frag) (H : Hp) : V → Option Int → Prop
  | int (i : Int) : NV K H (.int i) (some i)
  | no {v : V} (t : Value) (b1 b2 : Bool) (ty : TyX K H v t) (h1 : PySem.W.kitOne K t (.type "int") = some b1) (h2 : PySem.W.kitOne K t (.type "bool") = some b2) (h : (b1 && !b2) = false) : NV K H v none
theorem NV.same {K : PySem.W.Frag} {H H' : Hp} {v : V} {o : Option Int} (s : ∀ t, TyX K H v t → TyX K H' v t) (n : NV K H v o) : NV K H' v o := by
  cases n with
  | int i => exact .int i
  | no t b1 b2 ty h1 h2 h => exact .no t b1 b2 (s t ty) h1 h2 h
theorem tyX_sm {K : PySem.W.Frag} {H H' : Hp} {x : V} {t : Value} (s : Same H H') (h : TyX K H x t) : TyX K H' x t := by
  cases h with
  | base h =>
    refine .base ?_
    cases h with
    | non => exact .non
    | bl b => exact .bl b
    | int i => exact .int i
    | str z => exact .str z
    | flt z => exact .flt z
    | lst e => exact .lst (s _ _ e)
    | frz e => exact .frz (s _ _ e)
    | tup e => exact .tup (s _ _ e)
    | dK e => exact .dK (s _ _ e)
    | dT e => exact .dT (s _ _ e)
    | ins e cl ha hn ht hm => exact .ins (s _ _ e) cl ha hn ht hm
  | byt b => exact .byt b
  | set e => exact .set (s _ _ e)
  | kList e c => exact .kList e c
  | kTuple e c => exact .kTuple e c
  | kDict e c => exact .kDict e c
  | fTuple e => exact .fTuple (s _ _ e)
  | fDict e => exact .fDict (s _ _ e)
theorem NV.sm {K : PySem.W.Frag} {H H' : Hp} {v : V} {o : Option Int} (s : Same H H') (n : NV K H v o) : NV K H' v o := n.same fun _ => tyX_sm s
def keyB : Option Int → Bool
  | some i => decide (0 ≤ i) && decide (i ≤ 999)
  | none => false
/-- pairs of neighbours that rise -/
def upL : List (Option Int) → List Bool
  | some a :: some b :: r => decide (a < b) :: upL (some b :: r)
  | _ :: b :: r => true :: upL (b :: r)
  | _ => []
def setB (os : List (Option Int)) : Bool := os.all keyB && (upL os).all id
theorem upL_len : ∀ os : List (Option Int), (upL os).length = os.length - 1
  | [] => rfl
  | [a] => by cases a <;> rfl
  | some a :: some b :: r => by
    show (upL (some b :: r)).length + 1 = _
    rw [upL_len (some b :: r)]; rfl
  | some a :: none :: r => by
    show (upL (none :: r)).length + 1 = _
    rw [upL_len (none :: r)]; rfl
  | none :: b :: r => by
    show (upL (b :: r)).length + 1 = _
    rw [upL_len (b :: r)]; rfl
theorem upL_at : ∀ {ks : List Int} {i : Nat} {a b : Int}, ks[i]? = some a → ks[i + 1]? = some b → (upL (ks.map some))[i]? = some (decide (a < b))
  | x :: y :: r, 0, a, b, h1, h2 => by
    have e1 : x = a := by simpa using h1
    have e2 : y = b := by simpa using h2
    subst e1 e2
    rfl
  | x :: y :: r, i + 1, a, b, h1, h2 => by
    show (upL ((y :: r).map some))[i]? = _
    exact upL_at (ks := y :: r) (by simpa using h1) (by simpa using h2)
  | [x], 0, a, b, h1, h2 => by simp at h2
  | [x], i + 1, a, b, h1, h2 => by simp at h1
  | [], i, a, b, h1, h2 => by simp at h1
theorem setB_ks {ks : List Int} (h : KSet ks) : setB (ks.map some) = true := by
  unfold setB
  rw [Bool.and_eq_true]
  refine ⟨?_, ?_⟩
  · rw [List.all_eq_true]
    intro o ho
    obtain ⟨k, hk, rfl⟩ := List.mem_map.mp ho
    have a := h.lo k hk
    have b := h.hi k hk
    simp [keyB, a, b]
  · have hu := h.up
    clear h
    induction ks with
    | nil => rfl
    | cons a r ih =>
      cases r with
      | nil => rfl
      | cons b r =>
        have hp := List.pairwise_cons.mp hu
        show (decide (a < b) && (upL ((b :: r).map some)).all id) = true
        rw [ih hp.2, decide_eq_true (hp.1 b List.mem_cons_self)]
        rfl
/-- all keys: whole numbers, all of them -/
theorem keys_all {K : PySem.W.Frag} {H : Hp} : ∀ {xs : List V} {os : List (Option Int)}, Paired (NV K H) xs os → os.all keyB = true → ∃ ks : List Int, xs = ks.map V.int ∧ os = ks.map some
  | _, _, .nil, _ => ⟨[], rfl, rfl⟩
  | _, _, .cons (a := x) (b := o) a t, h => by
    rw [List.all_cons, Bool.and_eq_true] at h
    obtain ⟨ks, e1, e2⟩ := keys_all t h.2
    cases a with
    | int i => exact ⟨i :: ks, by rw [e1]; rfl, by rw [e2]; rfl⟩
    | no => cases h.1
/-- a tuple, or not; whether it is a key set -/
def SV (K : PySem.W.Frag) (H : Hp) (v : V) (r : Bool) : Prop := (∃ t, TyX K H v t ∧ PySem.W.kitOne K t (.type "tuple") = some false ∧ r = false) ∨
  ∃ a xs os, v = .ref a ∧ SqT K H a xs ∧ xs.length ≤ 2000 ∧ Paired (NV K H) xs os ∧ r = setB os
theorem SV.sm {K : PySem.W.Frag} {H H' : Hp} {v : V} {r : Bool} (s : Same H H') (n : SV K H v r) : SV K H' v r := by
  rcases n with ⟨t, h1, h2, h3⟩ | ⟨a, xs, os, h1, h2, hz, h3, h4⟩
  · exact .inl ⟨t, tyX_sm s h1, h2, h3⟩
  · exact .inr ⟨a, xs, os, h1, sqT_same s h2, hz, paired_imp (fun _ _ q => q.sm s) h3, h4⟩
def spNum (K : PySem.W.Frag) : Sp := fun vs H Q _ => ∃ v o, vs = [v] ∧ NV K H v o ∧ Q (.bl o.isSome) H
def spKey (K : PySem.W.Frag) : Sp := fun vs H Q _ => ∃ v o, vs = [v] ∧ NV K H v o ∧ Q (.bl (keyB o)) H
def spSet (K : PySem.W.Frag) : Sp := fun vs H Q _ => ∃ v r, vs = [v] ∧ SV K H v r ∧ ∀ H', Same H H' → Q (.bl r) H'
/-- a tuple, or not; whether it is a lot -/
def LV (K : PySem.W.Frag) (H : Hp) (v : V) (r : Bool) : Prop := (∃ t, TyX K H v t ∧ PySem.W.kitOne K t (.type "tuple") = some false ∧ r = false) ∨
  ∃ a xs os, v = .ref a ∧ SqT K H a xs ∧ xs.length ≤ 2000 ∧ Paired (NV K H) xs os ∧ r = (setB os && decide (0 < xs.length))
theorem LV.sm {K : PySem.W.Frag} {H H' : Hp} {v : V} {r : Bool} (s : Same H H') (n : LV K H v r) : LV K H' v r := by
  rcases n with ⟨t, h1, h2, h3⟩ | ⟨a, xs, os, h1, h2, hz, h3, h4⟩
  · exact .inl ⟨t, tyX_sm s h1, h2, h3⟩
  · exact .inr ⟨a, xs, os, h1, sqT_same s h2, hz, paired_imp (fun _ _ q => q.sm s) h3, h4⟩
def spLot (K : PySem.W.Frag) : Sp := fun vs H Q _ => ∃ v r, vs = [v] ∧ LV K H v r ∧ ∀ H', Same H H' → Q (.bl r) H'
/-- whether a value lives -/
def liveB (ks : List Int) : Option Int → Bool
  | some i => keyB (some i) && decide (i ∈ ks)
  | none => false
def spLive (K : PySem.W.Frag) : Sp := fun vs H Q _ => ∃ p ks v o, vs = [.ref p, v] ∧ SqT K H p (ks.map V.int) ∧ NV K H v o ∧ Q (.bl (liveB ks o)) H
theorem liveB_key {ks : List Int} (h : KSet ks) (i : Int) : liveB ks (some i) = decide (i ∈ ks) := by
  unfold liveB keyB
  by_cases m : i ∈ ks
  · have a := h.lo i m
    have b := h.hi i m
    simp [m, a, b]
  · simp [m]
section
variable {X : Cx} {st : Stmt} {sts : List Stmt} {e : Expr}
/-- what is never reached needs no reading -/
theorem ps_dead : PS X st (fun _ _ _ => False) := ⟨fun _ _ _ _ _ _ h => h.elim⟩
theorem pss_dead : PSs X sts (fun _ _ _ => False) := ⟨fun _ _ _ _ _ _ h => h.elim⟩
theorem pe_dead : PE X e (fun _ _ _ => False) := ⟨fun _ _ _ _ _ _ h => h.elim⟩
end
end SB

end

section
set_option Elab.async false
set_option linter.all false
set_option maxRecDepth 100000
set_option maxHeartbeats 4000000
/-! picking from a tuple or list of whole numbers; fields of exceptions. -/
namespace SB
open PySem PySem.Spec PyProof.Rows L2
def fs1 (nm f : Str) (ws : List V) : List (Str × V) := [(f, ws.getD 0 .non), ("code", .str nm)]
def fs2 (nm f g : Str) (ws : List V) : List (Str × V) := [(g, ws.getD 1 .non), (f, ws.getD 0 .non), ("code", .str nm)]
theorem filter_take {f : Int → Bool} {ks : List Int} {i : Nat} {k : Int} (h : ks[i]? = some k) : (ks.take (i + 1)).filter f = (ks.take i).filter f ++ (if f k then [k] else []) := by
  rw [List.take_add_one, h, List.filter_append]
  congr 1
  show [k].filter f = _
  cases e : f k <;> simp [e]
theorem ints_at {ks : List Int} {i : Nat} {x : V} (h : (ks.map V.int)[i]? = some x) : ∃ k, x = .int k ∧ ks[i]? = some k := by
  rw [List.getElem?_map] at h
  cases e : ks[i]? with
  | none => rw [e] at h; cases h
  | some k => rw [e] at h; exact ⟨k, (Option.some.inj h).symm, rfl⟩
section
variable {K : PySem.W.Frag} {a : Addr} {ks : List Int} {g : TG} {tt : TT} {te : TE} {vs : List Nat} {σ : L2.St} {H1 : Hp} {D : Addr} {Qd : Hp → Prop}
theorem filt_tup (f : Int → Bool) (hs : SqT K H1 a (ks.map V.int)) (hD : H1 D = none) (hz : ks.length ≤ 2000)
    (step : ∀ (k : Int) (H' : Hp) (R : V → Hp → Prop) (S : Hp → Prop), k ∈ ks → Same H1 H' → (f k = true → R (.int k) H') → (f k = false → S H') →
      g (.int k) (wipe σ vs) H' fun σ2 H2 => wipe σ2 vs = wipe σ vs ∧ tt σ2 H2 fun b H3 => if b = true then te σ2 H3 R else S H3)
    (hd : ∀ H', Same H1 H' → H' D = some (.lst ((ks.filter f).map V.int)) → Qd H') :
    ∃ W : Nat → Nat → Hp → Prop, (∃ m, W 0 m (upd H1 D (.lst []))) ∧ ∀ i m H, W i m H →
      ((Itt K a).stop i H ∧ Qd H) ∨ ((Itt K a).go i H ∧ ∃ Nx : Hp → Prop, (∀ H', Nx H' → ∃ m', m' < m ∧ W (i + 1) m' H') ∧ ∀ x H', (Itt K a).yld i H x H' → g x (wipe σ vs) H' fun σ2 H2 => wipe σ2 vs = wipe σ vs ∧ tt σ2 H2 fun b H3 =>
        if b = true then te σ2 H3 fun y H4 => ∃ acc, H4 D = some (.lst acc) ∧ acc.length < sizeLine ∧ Nx (upd H4 D (.lst (acc ++ [y]))) else Nx H3) := by
  refine lc_tup (K := K) (a := a) (xs := ks.map V.int) (fun i H' => Same H1 H' ∧ H' D = some (.lst (((ks.take i).filter f).map V.int))) ⟨Same.new (Same.refl H1) hD, upd_same⟩ (fun i H' _ p => sqT_same p.1 hs) (fun i x H' hx p => ?_) (fun H' p => ?_)
  · obtain ⟨k, rfl, hk⟩ := ints_at hx
    obtain ⟨s1, hd1⟩ := p
    refine step k H' _ _ (List.mem_of_getElem? hk) s1 (fun e => ?_) (fun e => ?_)
    · refine ⟨_, hd1, ?_, (fun c o h => ?_), ?_⟩
      · have : ((ks.take i).filter f).length ≤ ks.length := Nat.le_trans (List.length_filter_le _ _) (by rw [List.length_take]; omega)
        rw [List.length_map, sizeLine_eq]; omega
      · rw [upd_ne (ne_of_none h hD)]
        exact s1 c o h
      · rw [upd_same, filter_take hk, e, List.map_append]; rfl
    · refine ⟨s1, ?_⟩
      rw [filter_take hk, e]
      simpa using hd1
  · obtain ⟨s1, hd1⟩ := p
    rw [List.take_of_length_le (by rw [List.length_map]; omega)] at hd1
    exact hd H' s1 hd1
theorem filt_list (f : Int → Bool) (hs : SqL K H1 a (ks.map V.int)) (hD : H1 D = none) (hz : ks.length ≤ 2000)
    (step : ∀ (k : Int) (H' : Hp) (R : V → Hp → Prop) (S : Hp → Prop), k ∈ ks → Same H1 H' → (f k = true → R (.int k) H') → (f k = false → S H') →
      g (.int k) (wipe σ vs) H' fun σ2 H2 => wipe σ2 vs = wipe σ vs ∧ tt σ2 H2 fun b H3 => if b = true then te σ2 H3 R else S H3)
    (hd : ∀ H', Same H1 H' → H' D = some (.lst ((ks.filter f).map V.int)) → Qd H') :
    ∃ W : Nat → Nat → Hp → Prop, (∃ m, W 0 m (upd H1 D (.lst []))) ∧ ∀ i m H, W i m H →
      ((Itl K a).stop i H ∧ Qd H) ∨ ((Itl K a).go i H ∧ ∃ Nx : Hp → Prop, (∀ H', Nx H' → ∃ m', m' < m ∧ W (i + 1) m' H') ∧ ∀ x H', (Itl K a).yld i H x H' → g x (wipe σ vs) H' fun σ2 H2 => wipe σ2 vs = wipe σ vs ∧ tt σ2 H2 fun b H3 =>
        if b = true then te σ2 H3 fun y H4 => ∃ acc, H4 D = some (.lst acc) ∧ acc.length < sizeLine ∧ Nx (upd H4 D (.lst (acc ++ [y]))) else Nx H3) := by
  refine lc_list (K := K) (a := a) (xs := ks.map V.int) (fun i H' => Same H1 H' ∧ H' D = some (.lst (((ks.take i).filter f).map V.int))) ⟨Same.new (Same.refl H1) hD, upd_same⟩ (fun i H' _ p => p.1.seq hs) (fun i x H' hx p => ?_) (fun H' p => ?_)
  · obtain ⟨k, rfl, hk⟩ := ints_at hx
    obtain ⟨s1, hd1⟩ := p
    refine step k H' _ _ (List.mem_of_getElem? hk) s1 (fun e => ?_) (fun e => ?_)
    · refine ⟨_, hd1, ?_, (fun c o h => ?_), ?_⟩
      · have : ((ks.take i).filter f).length ≤ ks.length := Nat.le_trans (List.length_filter_le _ _) (by rw [List.length_take]; omega)
        rw [List.length_map, sizeLine_eq]; omega
      · rw [upd_ne (ne_of_none h hD)]
        exact s1 c o h
      · rw [upd_same, filter_take hk, e, List.map_append]; rfl
    · refine ⟨s1, ?_⟩
      rw [filter_take hk, e]
      simpa using hd1
  · obtain ⟨s1, hd1⟩ := p
    rw [List.take_of_length_le (by rw [List.length_map]; omega)] at hd1
    exact hd H' s1 hd1
end
theorem find_at {f : Int → Bool} : ∀ {l : List Int} {i : Nat} {x : Int}, (∀ z ∈ l.take i, f z = false) → l[i]? = some x → f x = true → l.find? f = some x
  | [], i, x, _, h, _ => by simp at h
  | a :: l, 0, x, _, h, e => by
    have : a = x := by simpa using h
    subst this
    rw [List.find?_cons_of_pos e]
  | a :: l, i + 1, x, hp, h, e => by
    have ha : f a = false := hp a (by simp)
    rw [List.find?_cons_of_neg (by rw [ha]; simp)]
    exact find_at (i := i) (fun z hz => hp z (by simp [hz])) (by simpa using h) e
theorem find_no {f : Int → Bool} {l : List Int} (h : ∀ z ∈ l, f z = false) : l.find? f = none := by
  rw [List.find?_eq_none]
  intro z hz
  rw [h z hz]
  simp
/-- the greatest below, the least above -/
def lowV (ks : List Int) (k : Int) : V := match (ks.filter fun z => decide (z < k)).getLast? with
  | some z => .int z
  | none => .non
def highV (ks : List Int) (k : Int) : V := match (ks.filter fun z => decide (z > k)).head? with
  | some z => .int z
  | none => .non
theorem low_cases (ks : List Int) (k : Int) : ((ks.filter fun z => decide (z < k)) = [] ∧ lowV ks k = .non) ∨ ∃ B z, (ks.filter fun z => decide (z < k)) = B ++ [z] ∧ lowV ks k = .int z := by
  unfold lowV
  rcases List.eq_nil_or_concat (ks.filter fun z => decide (z < k)) with h | ⟨B, z, h⟩
  · exact .inl ⟨h, by rw [h]; rfl⟩
  · exact .inr ⟨B, z, by simpa using h, by rw [h]; simp⟩
theorem high_cases (ks : List Int) (k : Int) : ((ks.filter fun z => decide (z > k)) = [] ∧ highV ks k = .non) ∨ ∃ z B, (ks.filter fun z => decide (z > k)) = z :: B ∧ highV ks k = .int z := by
  unfold highV
  cases h : (ks.filter fun z => decide (z > k)) with
  | nil => exact .inl ⟨rfl, rfl⟩
  | cons z B => exact .inr ⟨z, B, rfl, rfl⟩
end SB

end

section
set_option Elab.async false
set_option linter.all false
set_option maxRecDepth 100000
set_option maxHeartbeats 4000000
namespace SB
open PySem PySem.Spec PyProof.Rows L2
theorem dpAll_ints {K : PySem.W.Frag} {H : Hp} : ∀ zs : List Int, DpAll K H (zs.map V.int) (zs.map PyData.int)
  | [] => .nil
  | z :: zs => .cons (.int z) (dpAll_ints zs)
theorem cut_last (B : List V) (z : V) : cutV (B ++ [z]) (some (-1)) none = [z] := by
  unfold cutV
  have e : HT.sIx (B ++ [z]).length 0 (some (-1)) = B.length := by
    show (if (-1 : Int) < 0 then ((-1 : Int) + (((B ++ [z]).length : Nat) : Int)).toNat else min (-1 : Int).toNat (B ++ [z]).length) = _
    rw [if_pos (by decide), List.length_append]
    show ((-1 : Int) + ((B.length + 1 : Nat) : Int)).toNat = _
    omega
  rw [e, HT.sIx_none, List.length_append, List.drop_append_of_le_length (Nat.le_refl _), List.drop_length]
  show List.take (B.length + 1 - B.length) ([] ++ [z]) = [z]
  rw [show B.length + 1 - B.length = 1 by omega]
  rfl
theorem cut_last0 : cutV [] (some (-1)) none = [] := rfl
theorem cut_first (z : V) (B : List V) : cutV (z :: B) none (some 1) = [z] := by
  unfold cutV
  rw [HT.sIx_none, show HT.sIx (z :: B).length (z :: B).length (some 1) = min 1 (z :: B).length from HT.sIx_nat _ _ 1, List.drop_zero, List.length_cons, show min 1 (B.length + 1) - 0 = 1 by omega]
  rfl
theorem cut_first0 : cutV [] none (some 1) = [] := rfl
def lowL (ks : List Int) (k : Int) : List Int := match (ks.filter fun z => decide (z < k)).getLast? with
  | some z => [z]
  | none => []
def highL (ks : List Int) (k : Int) : List Int := match (ks.filter fun z => decide (z > k)).head? with
  | some z => [z]
  | none => []
theorem low_cut (ks : List Int) (k : Int) : cutV ((ks.filter fun z => decide (z < k)).map V.int) (some (-1)) none = (lowL ks k).map V.int := by
  unfold lowL
  rcases List.eq_nil_or_concat (ks.filter fun z => decide (z < k)) with h | ⟨B, z, h⟩
  · rw [h]; rfl
  · have h' : (ks.filter fun z => decide (z < k)) = B ++ [z] := by simpa using h
    rw [h', List.map_append, show [z].map V.int = [V.int z] from rfl, cut_last]
    simp
theorem high_cut (ks : List Int) (k : Int) : cutV ((ks.filter fun z => decide (z > k)).map V.int) none (some 1) = (highL ks k).map V.int := by
  unfold highL
  cases h : (ks.filter fun z => decide (z > k)) with
  | nil => rfl
  | cons z B => rw [List.map_cons, cut_first]; rfl
theorem lowL_len (ks : List Int) (k : Int) : (lowL ks k).length ≤ 1 := by
  unfold lowL; split <;> simp
theorem highL_len (ks : List Int) (k : Int) : (highL ks k).length ≤ 1 := by
  unfold highL; split <;> simp
theorem lowL_mem {ks : List Int} {k z : Int} (h : z ∈ lowL ks k) : z ∈ ks := by
  unfold lowL at h
  split at h
  · rename_i y e
    have : z = y := by simpa using h
    subst this
    exact (List.mem_filter.mp (List.mem_of_getLast? e)).1
  · cases h
theorem highL_mem {ks : List Int} {k z : Int} (h : z ∈ highL ks k) : z ∈ ks := by
  unfold highL at h
  split at h
  · rename_i y e
    have : z = y := by simpa using h
    subst this
    exact (List.mem_filter.mp (List.mem_of_head? e)).1
  · cases h
end SB

end

section
set_option Elab.async false
set_option linter.all false
set_option maxRecDepth 100000
set_option maxHeartbeats 4000000
/-! t[::-1] of a tuple. -/
namespace SB
open PySem PySem.Spec PyProof.Rows L2
theorem fm_congr {α β : Type} {f g : α → Option β} : ∀ {l : List α}, (∀ x ∈ l, f x = g x) → l.filterMap f = l.filterMap g
  | [], _ => rfl
  | a :: l, h => by
    rw [List.filterMap_cons, List.filterMap_cons, h a List.mem_cons_self, fm_congr fun x hx => h x (List.mem_cons_of_mem _ hx)]
theorem back_pick (xs : Array Value) : ((List.range xs.size).filterMap fun (m : Nat) => xs[(((xs.size : Int) - 1) + (m : Int) * (-1)).toNat]?).toArray = xs.toList.reverse.toArray := by
  have e := PySem.W.krv_all xs.toList.reverse.toArray
  rw [List.size_toArray, List.length_reverse, Array.length_toList, List.toList_toArray] at e
  refine congrArg List.toArray (Eq.trans (fm_congr fun m hm => ?_) e)
  have hm' : m < xs.size := List.mem_range.mp hm
  have i : (((xs.size : Int) - 1) + (m : Int) * (-1)).toNat = xs.size - 1 - m := by omega
  rw [i]
  have h2 : (xs.toList.reverse.toArray)[m]? = xs.toList[xs.size - 1 - m]? := by
    rw [List.getElem?_toArray, List.getElem?_reverse (by rw [Array.length_toList]; exact hm'), Array.length_toList]
  rw [h2, Array.getElem?_toList]
section
variable {prog : Program} {w : World} {A : Around} {E : Value → Shared → Prop} {s : Shared}
theorem sliceApplied_rev {sl : Addr} {t : Tok} {n : Nat} {Q : Int × Int × Nat → Shared → Prop} (hs : s.heap.IsSliceOf sl .none .none (.int (-1) t))
    (h : Q (((n : Int) - 1), -1, n) s) : wpAny (model prog w) A (Builtin.Slice.sliceApplied (.ref sl) (pure (n : Int))) Q E s := by
  obtain ⟨os, hos, hcs, hds⟩ := id hs
  unfold Builtin.Slice.sliceApplied Builtin.Slice.sliceFields
  refine wpAny_bind (wpAny_bind (wpAny_field hos hds (x := .none) rfl (wpAny_bind (wpAny_field hos hds (x := .none) rfl (wpAny_bind (wpAny_field hos hds (x := .int (-1) t) rfl (wpAny_pure ?_)))))))
  refine wpAny_bind (HT.slicePart_ (.int (-1) t) ?_)
  show wpAny _ _ (if ((-1 : Int) == 0) = true then _ else _) _ _ s
  rw [if_neg (by decide)]
  refine wpAny_bind (HT.slicePart_ .none (wpAny_bind (HT.slicePart_ .none (wpAny_bind (wpAny_pure ?_)))))
  have e : Builtin.Slice.sliceAdjust none none (-1) (n : Int) = (((n : Int) - 1), -1) := by
    unfold Builtin.Slice.sliceAdjust
    rfl
  show wpAny _ _ (match Builtin.Slice.sliceAdjust none none (-1) (n : Int) with | (lo, hi) => pure (lo, (-1 : Int), Builtin.Slice.slicePlaces lo hi (-1))) _ _ s
  rw [e]
  show wpAny _ _ (pure (((n : Int) - 1), (-1 : Int), Builtin.Slice.slicePlaces ((n : Int) - 1) (-1) (-1))) _ _ s
  have e2 : Builtin.Slice.slicePlaces ((n : Int) - 1) (-1) (-1) = n := by
    unfold Builtin.Slice.slicePlaces
    have h1 : ¬ ((-1 : Int) > 0) := by decide
    simp only [h1, if_false]
    rw [show (- -1 : Int) = 1 by decide]
    simp only [Int.ediv_one]
    split <;> omega
  rw [e2]
  exact wpAny_pure h
theorem getItem_tuple_rev {t sl : Addr} {items : Array Value} {tk : Tok} {Q : Value → Shared → Prop} (ht : IsTup s.heap t items) (hs : s.heap.IsSliceOf sl .none .none (.int (-1) tk))
    (h : Q (.ref s.heap.objs.size) { s with heap := s.heap.push { cls := .type "tuple", data := .seq items.toList.reverse.toArray } })
    (hsz : items.size ≤ sizeLine) : wpAny (model prog w) A (getItem (.ref t) (.ref sl)) Q E s := by
  have htake : sizeOk (.seq items.toList.reverse.toArray) := by
    show items.toList.reverse.toArray.size ≤ sizeLine
    rw [List.size_toArray, List.length_reverse, Array.length_toList]
    exact hsz
  obtain ⟨os, hos, hcs, hds⟩ := id hs
  have hTs : s.TypeIs (.ref sl) "slice" := ⟨os, hos, hcs⟩
  unfold getItem
  try with_reducible refine wpAny_holding ?_
  first | refine wpAny_bind (wpAny_pure ?_) | skip
  refine wpAny_bind (wpAny_sequenceKey ht.typeIs (by decide) ?_)
  refine wpAny_bind (wpAny_callSpecial?_slot (name := Str.ofString "__getitem__") ht.typeIs PyProof.Rows.slot_tuple_getitem
    (wpAny_call_entry PyProof.Rows.slot_tuple_getitem ht.typeIs entry_tuple_getitem ?_ (args_tuple_getitem _ _)))
  show wpAny _ _ (Builtin.Tuple.tupleItemsOf (.ref t) >>= _) _ _ s
  refine wpAny_bind (tupleItemsOf_ ht ?_)
  refine wpAny_bind (wpAny_typeOf hTs ?_)
  rw [if_pos (by decide)]
  refine wpAny_bind (sliceApplied_rev hs ?_)
  have hno : ¬ ((((items.size : Int) - 1) == 0 && (-1 : Int) == 1 && items.size == items.size) = true) := by
    intro q
    rw [Bool.and_eq_true, Bool.and_eq_true] at q
    exact absurd q.1.2 (by decide)
  show wpAny _ _ (if (((items.size : Int) - 1) == 0 && (-1 : Int) == 1 && items.size == items.size) = true then _ else _) _ _ s
  rw [if_neg hno, back_pick]
  first
    | exact wpAny_bind (m := Builtin.Tuple.tupleExact _) (wpAny_newObj_type (wpAny_pure ⟨_, rfl, wpAny_pure h⟩) htake)
    | exact wpAny_bind (m := Builtin.Tuple.tupleExact _) (wpAny_newObj_type (wpAny_bind (wpAny_pure (wpAny_pure ⟨_, rfl, wpAny_pure h⟩))) htake)
    | exact wpAny_bind (wpAny_bind (m := Builtin.Tuple.tupleExact _) (wpAny_newObj_type (wpAny_pure (wpAny_pure ⟨_, rfl, wpAny_pure h⟩)) htake))
    | exact wpAny_bind (wpAny_bind (m := Builtin.Tuple.tupleExact _) (wpAny_newObj_type (wpAny_pure ⟨_, rfl, wpAny_pure h⟩) htake))
end
def tRevT (K : PySem.W.Frag) (te : TE) : TE := fun σ H Q => te σ H fun x H1 => ∃ a xs, x = .ref a ∧ SqT K H1 a xs ∧ ∀ p, H1 p = none → Q (.ref p) (upd H1 p (.tup xs.reverse))
theorem pe_revT {X : Cx} {e : Expr} {te : TE} {k : Nat} {p1 p2 p3 pos : Pos} (he : PE X e te) : PE X (.Subscript e (.Slice none none (some (.UnaryOp .USub (.Constant (.int 1) k p1) p2)) p3) pos) (tRevT X.K te) := by
  refine ⟨fun pins s σ H Q I h => ?_⟩
  refine Subscript_ (thn (he.run pins s σ H _ I h) fun v s1 ⟨x, H1, I1, r1, q1⟩ => ?_)
  obtain ⟨a, xs, ex, hx, q⟩ := q1
  subst ex
  cases r1
  have hst : PO X (some (.UnaryOp .USub (.Constant (.int 1) k p1) p2)) (tPart (tUn (rU fun i => .int (-i)) (tC (.int 1)))) := po_some (pe_un un_neg pe_int)
  refine wpAny_Slice (thn (po_none.run pins s1 σ H1 (fun o H2 => o = none ∧ H2 = H1) I1 ⟨rfl, rfl⟩) fun vl s2 ⟨l, H2, I2, pl, el, e2⟩ => ?_)
  subst el e2
  refine thn (po_none.run pins s2 σ H2 (fun o H3 => o = none ∧ H3 = H2) I2 ⟨rfl, rfl⟩) fun vu s3 ⟨u, H3, I3, pu, eu, e3⟩ => ?_
  subst eu e3
  refine thn (hst.run pins s3 σ H3 (fun o H4 => o = some (-1) ∧ H4 = H3) I3 ⟨1, rfl, -1, rfl, rfl, rfl⟩) fun vs s4 ⟨o, H4, I4, ps, eo, e4⟩ => ?_
  subst eo e4
  have I5 : Inv X pins σ H4 { s4 with heap := s4.heap.push { cls := .type "slice", data := .fields #[vl, vu, vs] } } := I4.kept (t' := s4.toks) fun b ob q => Heap.get?_push_of_some _ q
  obtain ⟨its, r, ht, hz⟩ := I5.tuple hx
  have hlen := r.length
  cases pl
  cases pu
  cases ps with
  | int _ t' =>
    show wpAny (model X.prog X.w) X.A (subscriptTail e (.Slice none none (some (.UnaryOp .USub (.Constant (.int 1) k p1) p2)) p3) (.ref a) (.ref s4.heap.objs.size)) (EP X pins σ Q) X.xe { s4 with heap := s4.heap.push { cls := .type "slice", data := .fields #[.none, .none, .int (-1) t'] } }
    refine tail_any (ops := [.ref a, .ref s4.heap.objs.size]) ht.typeIs (PyProof.Rows.slot_tuple_getitem.lookup) ?_ (by with_unfolding_all rfl)
    refine getItem_tuple_rev ht (Heap.IsSliceOf.new _ .none .none (.int (-1) t')) ?_ (by rw [List.size_toArray]; omega)
    refine ⟨.ref _, _, I5.laid (t' := s4.toks) (o := .tup xs.reverse) (fun b ob q => Heap.get?_push_of_some _ q) (Nat.le_refl _) ?_, rfl, q _ (I5.hok.fresh (Nat.le_refl _))⟩
    exact ⟨by rw [List.length_reverse]; exact hz, _, r.reverse, IsTup.new _ _⟩
end SB

end

section
set_option Elab.async false
set_option linter.all false
set_option maxRecDepth 100000
set_option maxHeartbeats 8000000
/-! sorted(set(xs)), xs a list of whole numbers. -/
namespace SB
open PySem PySem.Spec PyProof.Rows L2
abbrev emS (w : World) : Obj := { cls := .type "set", dict := none, data := .set #[] 0 (.fresh 0 0 (!w.params.followText "set-order")) }
section
variable {P : Program} {w : World} {A : Around} {E : Value → Shared → Prop} {s : Shared}
theorem set_of_listI {l : Addr} {its : Array Value} (ks : List Int) {Q : Value → Shared → Prop} (nh : A.handled = none) (lst : s.heap.IsList l its) (iA : IntsAre its.toList ks) (room : ks.length + 1 < scanBound)
    (fin : ∀ (h' : Heap) (tk c : Nat), SetR w h' s.heap.objs.size (fun j => decide (j ∈ ks)) c → c ≤ ks.length → (∀ b o, s.heap.get? b = some o → h'.get? b = some o) → Q (.ref s.heap.objs.size) { s with heap := h', toks := tk }) :
    wpAny (model P w) A (call (.type "set") [.ref l]) Q E s := by
  have size : its.size = ks.length := (Array.length_toList (xs := its)).symm.trans (IntsAre.length iA)
  obtain ⟨c0, t0, mro0⟩ := F.called_set.mro
  have made0 := F.called_set.made
  have sub0 := F.called_set.sub
  refine wpAny_call (codeAny_of_tree (show wpAny _ _ (callAny (.type "set") _) _ _ _ from ?_))
  refine wpAny_pure ⟨Code.quiet_builtin _ (by decide +kernel), codeAny_builtin F.entry_type_call ?_⟩
  rw [Around.under_plain (weight_type_call_type "set" [.ref l] []) rfl]
  have not0 := F.called_set.notType
  have can0 := F.called_set.canCreate
  have one0 := F.typeCall_set_1 (.ref l)
  repeat (any_goals (first | assumption | wp_step))
  refine codeAny_mono (code_set_led1 (.ref l) (E := E) (Q₁ := fun obj s1 => obj = .ref s.heap.objs.size ∧ s1 = { s with heap := s.heap.push (emS w) }) ⟨rfl, rfl⟩) fun r s1 hr => ?_
  cases r with
  | error e => exact hr
  | ok fl =>
    cases fl with
    | ret obj =>
      obtain ⟨rfl, rfl⟩ := hr
      have atS : (s.heap.push (emS w)).get? s.heap.objs.size = some (emS w) := Heap.get?_push_size _ rfl
      have tyS : Shared.TypeIs { s with heap := s.heap.push (emS w) } (.ref s.heap.objs.size) "set" := ⟨_, atS, rfl⟩
      have look0 := F.called_set.init.lookup
      have bind0 := F.called_set.init.bind (.ref s.heap.objs.size)
      repeat (any_goals (first | assumption | wp_step))
      refine codeAny_mono (codeAny_call_builtin (R := wants (fun r s2 => r = .none ∧ ∃ h' tk c, s2 = { s with heap := h', toks := tk } ∧ SetR w h' s.heap.objs.size (fun j => decide (j ∈ ks)) c ∧ c ≤ ks.length ∧
          (∀ b o, s.heap.get? b = some o → h'.get? b = some o)) E) F.called_set.init.plain F.entry_set_init (check_set_init_1 tyS ?_)) fun r2 s2 hr2 => ?_
      · obtain ⟨ol, hol, hcl, nl, hdl⟩ := lst
        obtain ⟨oc, odd, oda, osl⟩ := ol
        simp only at hcl hdl
        subst hcl hdl
        have hol2 : (s.heap.push (emS w)).get? l = some { cls := .type "list", dict := odd, data := .seq its nl, slots := osl } := Heap.get?_push_of_some _ hol
        have sls := F.sub_list_set
        have slf := F.sub_list_frozenset
        have nd : (Value.type "list" == Value.type "dict") = false := by decide
        have lst1 : (s.heap.push (emS w)).IsList l its := ⟨_, hol2, rfl, nl, rfl⟩
        unfold Builtin.«set.__init__» noKeywords Builtin.Frozenset.updateFrom
        generalize itE : pyIter = IT
        wp_walk
        subst itE
        refine wpAny_pyIter_list lst1 (wpAny_bind (wpAny_runValue ?_))
        have lt0 : l < s.heap.objs.size := Heap.lt_size hol
        have nh3 : A.in1.in1.in1.handled = none := by simp [nh]
        have apart : l ≠ (s.heap.push (emS w)).objs.size := by
          rw [Heap.size_push]
          exact Nat.ne_of_lt (Nat.lt_succ_of_lt lt0)
        have out : s.heap.objs.size ∉ [(s.heap.push (emS w)).objs.size, l] := by
          rw [Heap.size_push]
          simp only [List.mem_cons, List.not_mem_nil, or_false, not_or]
          exact ⟨Nat.ne_of_lt (Nat.lt_succ_self _), Nat.ne_of_gt lt0⟩
        have vals : ∀ (i : Nat) (v : Value), its[i]? = some v → ∃ k t, ks[i]? = some k ∧ v = .int k t := fun i v hv => by
          have hi : i < ks.length := by
            rw [← size]
            exact (Array.getElem?_eq_some_iff.mp hv).1
          obtain ⟨t, e⟩ := IntsAre.int_at iA i v (by rw [Array.getElem?_toList]; exact hv)
          refine ⟨ks[i], t, List.getElem?_eq_getElem hi, ?_⟩
          rw [e, List.getD_eq_getElem?_getD, List.getElem?_eq_getElem hi]
          rfl
        refine set_update_ints ((Walks.list nh3 _ l apart its).toS) s.heap.objs.size out ks size room vals (its.size - 0) 0 _ (by omega) (Nat.zero_le _) ⟨⟨_, Heap.get?_push_size _ rfl, rfl, rfl⟩, (lst1.push _)⟩ ?fresh ?rest
        case fresh => exact ⟨0, Nat.le_refl 0, setR_new_at (Heap.get?_push_of_some _ atS)⟩
        case rest =>
          intro s3 c3 mv hc3 R3
          obtain ⟨h3, g3, d3, tk3, os3⟩ := s3
          have eg : g3 = s.gens := mv.gens
          have ed : d3 = s.drawn := mv.drawn
          have eo : os3 = s.os := mv.os
          subst eg ed eo
          show wpAny _ _ _ _ _ _
          refine wpAny_pure (show wpAny _ _ (ret Value.none) _ _ _ from ?_)
          rw [size] at hc3
          refine wpAny_pure ⟨rfl, h3, tk3, c3, rfl, R3, hc3, fun b o e => ?_⟩
          have b0 : b < s.heap.objs.size := Heap.lt_size e
          have b2 : b ≠ (s.heap.push (emS w)).objs.size := by
            rw [Heap.size_push]
            exact Nat.ne_of_lt (Nat.lt_succ_of_lt b0)
          refine mv.heap b o ?_ (Heap.get?_push_of_some _ (Heap.get?_push_of_some _ e))
          simp only [List.mem_cons, List.not_mem_nil, or_false, not_or]
          exact ⟨Nat.ne_of_lt b0, b2⟩
      · cases r2 with
        | error e => exact hr2
        | ok f2 =>
          cases f2 with
          | ret r =>
            obtain ⟨rfl, h2, tk2, c2, rfl, R2, hc2, kk2⟩ := hr2
            repeat (any_goals (first | assumption | wp_step))
            exact fin h2 tk2 c2 R2 hc2 kk2
          | next => exact hr2.elim
          | brk => exact hr2.elim
          | cont => exact hr2.elim
    | next => exact hr.elim
    | brk => exact hr.elim
    | cont => exact hr.elim
end
def rSetI (K : PySem.W.Frag) (w : World) : List V → Hp → VK → Prop := fun xs H Q => ∃ (l : Addr) (ks : List Int), xs = [.ref l] ∧ SqL K H l (ks.map V.int) ∧ ks.length ≤ 60 ∧
  ∀ p c, H p = none → c ≤ ks.length → Q (.ref p) (upd H p (SetO w p (fun j => decide (j ∈ ks)) c))
theorem cr_setI {X : Cx} (hc : X.calm = true) : CallR X (.type "set") (rSetI X.K X.w) := by
  intro pins s σ H xs us Q I r h
  obtain ⟨l, ks, rfl, hs, hz, q⟩ := h
  obtain ⟨its, rv, hl, _⟩ := I.list hs
  rw [Vals.ref1 r]
  refine set_of_listI ks (I.ok.hd hc) hl.isList (by simpa using rv.ints) (by unfold scanBound; omega) fun h' tk c R hcn k => ?_
  have hlt : s.heap.objs.size ≤ s.heap.objs.size := Nat.le_refl _
  exact ⟨.ref _, upd H s.heap.objs.size (SetO X.w s.heap.objs.size (fun j => decide (j ∈ ks)) c), I.laid (t' := tk) k hlt (setO_new R), rfl, q _ _ (I.hok.fresh hlt) hcn⟩
end SB

end

section
set_option Elab.async false
set_option linter.all false
set_option maxRecDepth 100000
set_option maxHeartbeats 4000000
namespace K04
open PySem L2 SB
def top (i : Nat) : Stmt := PySem.Challenge.pw_shapebetween_k04_rows_fitted.main.body.getD i (.Pass ⟨0, 0, 0, 0⟩)
abbrev s_wall : Stmt := top 0
abbrev N_wall : List Str := ["k"]
theorem sc_wall : FnScope ["k"] ["k"] (defScope s_wall) := ⟨rfl, rfl, rfl, by decide +kernel, rfl, by decide +kernel, by decide +kernel⟩
-- wall: k:0
abbrev s_InvalidLot_init : Stmt := inClass (top 4) 0
abbrev N_InvalidLot_init : List Str := ["self", "value"]
theorem sc_InvalidLot_init : FnScope ["self", "value"] ["self", "value"] (defScope s_InvalidLot_init) := ⟨rfl, rfl, rfl, by decide +kernel, rfl, by decide +kernel, by decide +kernel⟩
-- InvalidLot_init: self:0 value:1
abbrev s_InvalidMark_init : Stmt := inClass (top 5) 0
abbrev N_InvalidMark_init : List Str := ["self", "value"]
theorem sc_InvalidMark_init : FnScope ["self", "value"] ["self", "value"] (defScope s_InvalidMark_init) := ⟨rfl, rfl, rfl, by decide +kernel, rfl, by decide +kernel, by decide +kernel⟩
-- InvalidMark_init: self:0 value:1
abbrev s_InvalidRow_init : Stmt := inClass (top 6) 0
abbrev N_InvalidRow_init : List Str := ["self", "at"]
theorem sc_InvalidRow_init : FnScope ["self", "at"] ["self", "at"] (defScope s_InvalidRow_init) := ⟨rfl, rfl, rfl, by decide +kernel, rfl, by decide +kernel, by decide +kernel⟩
-- InvalidRow_init: self:0 at:1
abbrev s_InvalidText_init : Stmt := inClass (top 7) 0
abbrev N_InvalidText_init : List Str := ["self", "at"]
theorem sc_InvalidText_init : FnScope ["self", "at"] ["self", "at"] (defScope s_InvalidText_init) := ⟨rfl, rfl, rfl, by decide +kernel, rfl, by decide +kernel, by decide +kernel⟩
-- InvalidText_init: self:0 at:1
abbrev s_AlreadyLiving_init : Stmt := inClass (top 8) 0
abbrev N_AlreadyLiving_init : List Str := ["self", "key"]
theorem sc_AlreadyLiving_init : FnScope ["self", "key"] ["self", "key"] (defScope s_AlreadyLiving_init) := ⟨rfl, rfl, rfl, by decide +kernel, rfl, by decide +kernel, by decide +kernel⟩
-- AlreadyLiving_init: self:0 key:1
abbrev s_NeighbourMissed_init : Stmt := inClass (top 9) 0
abbrev N_NeighbourMissed_init : List Str := ["self", "key", "neighbour"]
theorem sc_NeighbourMissed_init : FnScope ["self", "key", "neighbour"] ["self", "key", "neighbour"] (defScope s_NeighbourMissed_init) := ⟨rfl, rfl, rfl, by decide +kernel, rfl, by decide +kernel, by decide +kernel⟩
-- NeighbourMissed_init: self:0 key:1 neighbour:2
abbrev s_TooMany_init : Stmt := inClass (top 10) 0
abbrev N_TooMany_init : List Str := ["self", "what", "count"]
theorem sc_TooMany_init : FnScope ["self", "what", "count"] ["self", "what", "count"] (defScope s_TooMany_init) := ⟨rfl, rfl, rfl, by decide +kernel, rfl, by decide +kernel, by decide +kernel⟩
-- TooMany_init: self:0 what:1 count:2
abbrev s_UnknownKey_init : Stmt := inClass (top 11) 0
abbrev N_UnknownKey_init : List Str := ["self", "key"]
theorem sc_UnknownKey_init : FnScope ["self", "key"] ["self", "key"] (defScope s_UnknownKey_init) := ⟨rfl, rfl, rfl, by decide +kernel, rfl, by decide +kernel, by decide +kernel⟩
-- UnknownKey_init: self:0 key:1
abbrev s_UnknownName_init : Stmt := inClass (top 12) 0
abbrev N_UnknownName_init : List Str := ["self", "name"]
theorem sc_UnknownName_init : FnScope ["self", "name"] ["self", "name"] (defScope s_UnknownName_init) := ⟨rfl, rfl, rfl, by decide +kernel, rfl, by decide +kernel, by decide +kernel⟩
-- UnknownName_init: self:0 name:1
abbrev s_limit_of : Stmt := top 15
abbrev N_limit_of : List Str := ["what"]
theorem sc_limit_of : FnScope ["what"] ["what"] (defScope s_limit_of) := ⟨rfl, rfl, rfl, by decide +kernel, rfl, by decide +kernel, by decide +kernel⟩
-- limit_of: what:0
abbrev s_check_limit : Stmt := top 16
abbrev N_check_limit : List Str := ["what", "count"]
theorem sc_check_limit : FnScope ["what", "count"] ["what", "count"] (defScope s_check_limit) := ⟨rfl, rfl, rfl, by decide +kernel, rfl, by decide +kernel, by decide +kernel⟩
-- check_limit: what:0 count:1
abbrev s_is_number : Stmt := top 17
abbrev N_is_number : List Str := ["value"]
theorem sc_is_number : FnScope ["value"] ["value"] (defScope s_is_number) := ⟨rfl, rfl, rfl, by decide +kernel, rfl, by decide +kernel, by decide +kernel⟩
-- is_number: value:0
abbrev s_is_key : Stmt := top 21
abbrev N_is_key : List Str := ["value"]
theorem sc_is_key : FnScope ["value"] ["value"] (defScope s_is_key) := ⟨rfl, rfl, rfl, by decide +kernel, rfl, by decide +kernel, by decide +kernel⟩
-- is_key: value:0
abbrev s_is_key_set : Stmt := top 22
abbrev N_is_key_set : List Str := ["value", "at", "key"]
theorem sc_is_key_set : FnScope ["value", "at", "key"] ["value"] (defScope s_is_key_set) := ⟨rfl, rfl, rfl, by decide +kernel, rfl, by decide +kernel, by decide +kernel⟩
-- is_key_set: value:0(cell) at:1 key:2
abbrev s_is_lot : Stmt := top 23
abbrev N_is_lot : List Str := ["value"]
theorem sc_is_lot : FnScope ["value"] ["value"] (defScope s_is_lot) := ⟨rfl, rfl, rfl, by decide +kernel, rfl, by decide +kernel, by decide +kernel⟩
-- is_lot: value:0
abbrev s_lives_in : Stmt := top 24
abbrev N_lives_in : List Str := ["living", "value"]
theorem sc_lives_in : FnScope ["living", "value"] ["living", "value"] (defScope s_lives_in) := ⟨rfl, rfl, rfl, by decide +kernel, rfl, by decide +kernel, by decide +kernel⟩
-- lives_in: living:0 value:1
abbrev s_check_lives : Stmt := top 25
abbrev N_check_lives : List Str := ["living", "value"]
theorem sc_check_lives : FnScope ["living", "value"] ["living", "value"] (defScope s_check_lives) := ⟨rfl, rfl, rfl, by decide +kernel, rfl, by decide +kernel, by decide +kernel⟩
-- check_lives: living:0 value:1
abbrev s_check_all_live : Stmt := top 26
abbrev N_check_all_live : List Str := ["living", "lot", "key"]
theorem sc_check_all_live : FnScope ["living", "lot", "key"] ["living", "lot"] (defScope s_check_all_live) := ⟨rfl, rfl, rfl, by decide +kernel, rfl, by decide +kernel, by decide +kernel⟩
-- check_all_live: living:0 lot:1 key:2
abbrev s_neighbours_of : Stmt := top 27
abbrev N_neighbours_of : List Str := ["living", "key", "lesser", "greater", "other"]
theorem sc_neighbours_of : FnScope ["living", "key", "lesser", "greater", "other"] ["living", "key"] (defScope s_neighbours_of) := ⟨rfl, rfl, rfl, by decide +kernel, rfl, by decide +kernel, by decide +kernel⟩
-- neighbours_of: living:0 key:1(cell) lesser:2 greater:3 other:4
abbrev s_key_of_word : Stmt := top 28
abbrev N_key_of_word : List Str := ["word", "sign"]
theorem sc_key_of_word : FnScope ["word", "sign"] ["word"] (defScope s_key_of_word) := ⟨rfl, rfl, rfl, by decide +kernel, rfl, by decide +kernel, by decide +kernel⟩
-- key_of_word: word:0 sign:1
abbrev s_Row_init : Stmt := inClass (top 30) 0
abbrev N_Row_init : List Str := ["self", "lot", "coming", "going"]
theorem sc_Row_init : FnScope ["self", "lot", "coming", "going"] ["self", "lot", "coming", "going"] (defScope s_Row_init) := ⟨rfl, rfl, rfl, by decide +kernel, rfl, by decide +kernel, by decide +kernel⟩
-- Row_init: self:0 lot:1 coming:2 going:3
abbrev s_Row_lot_before : Stmt := inClass (top 30) 1
abbrev N_Row_lot_before : List Str := ["self", "key"]
theorem sc_Row_lot_before : FnScope ["self", "key"] ["self"] (defScope s_Row_lot_before) := ⟨rfl, rfl, rfl, by decide +kernel, rfl, by decide +kernel, by decide +kernel⟩
-- Row_lot_before: self:0(cell) key:1
abbrev s_Row_lot_after : Stmt := inClass (top 30) 2
abbrev N_Row_lot_after : List Str := ["self"]
theorem sc_Row_lot_after : FnScope ["self"] ["self"] (defScope s_Row_lot_after) := ⟨rfl, rfl, rfl, by decide +kernel, rfl, by decide +kernel, by decide +kernel⟩
-- Row_lot_after: self:0
abbrev s_Row_backward : Stmt := inClass (top 30) 3
abbrev N_Row_backward : List Str := ["self"]
theorem sc_Row_backward : FnScope ["self"] ["self"] (defScope s_Row_backward) := ⟨rfl, rfl, rfl, by decide +kernel, rfl, by decide +kernel, by decide +kernel⟩
-- Row_backward: self:0
abbrev s_Row_text : Stmt := inClass (top 30) 4
abbrev N_Row_text : List Str := ["self", "key"]
theorem sc_Row_text : FnScope ["self", "key"] ["self"] (defScope s_Row_text) := ⟨rfl, rfl, rfl, by decide +kernel, rfl, by decide +kernel, by decide +kernel⟩
-- Row_text: self:0(cell) key:1
abbrev s_Row_read : Stmt := inClass (top 30) 5
abbrev N_Row_read : List Str := ["text", "lot", "marks", "word", "sign", "key"]
theorem sc_Row_read : FnScope ["text", "lot", "marks", "word", "sign", "key"] ["text"] (defScope s_Row_read) := ⟨rfl, rfl, rfl, by decide +kernel, rfl, by decide +kernel, by decide +kernel⟩
-- Row_read: text:0 lot:1 marks:2 word:3 sign:4 key:5
abbrev s_Row_sign : Stmt := inClass (top 30) 6
abbrev N_Row_sign : List Str := ["self", "key"]
theorem sc_Row_sign : FnScope ["self", "key"] ["self", "key"] (defScope s_Row_sign) := ⟨rfl, rfl, rfl, by decide +kernel, rfl, by decide +kernel, by decide +kernel⟩
-- Row_sign: self:0 key:1
abbrev s_Row_str : Stmt := inClass (top 30) 7
abbrev N_Row_str : List Str := ["self"]
theorem sc_Row_str : FnScope ["self"] ["self"] (defScope s_Row_str) := ⟨rfl, rfl, rfl, by decide +kernel, rfl, by decide +kernel, by decide +kernel⟩
-- Row_str: self:0
abbrev s_Row_repr : Stmt := inClass (top 30) 8
abbrev N_Row_repr : List Str := ["self"]
theorem sc_Row_repr : FnScope ["self"] ["self"] (defScope s_Row_repr) := ⟨rfl, rfl, rfl, by decide +kernel, rfl, by decide +kernel, by decide +kernel⟩
-- Row_repr: self:0
abbrev s_Row_iter : Stmt := inClass (top 30) 9
abbrev N_Row_iter : List Str := ["self"]
theorem sc_Row_iter : FnScope ["self"] ["self"] (defScope s_Row_iter) := ⟨rfl, rfl, rfl, by decide +kernel, rfl, by decide +kernel, by decide +kernel⟩
-- Row_iter: self:0
abbrev s_Row_contains : Stmt := inClass (top 30) 10
abbrev N_Row_contains : List Str := ["self", "key"]
theorem sc_Row_contains : FnScope ["self", "key"] ["self", "key"] (defScope s_Row_contains) := ⟨rfl, rfl, rfl, by decide +kernel, rfl, by decide +kernel, by decide +kernel⟩
-- Row_contains: self:0 key:1
abbrev s_Row_len : Stmt := inClass (top 30) 11
abbrev N_Row_len : List Str := ["self"]
theorem sc_Row_len : FnScope ["self"] ["self"] (defScope s_Row_len) := ⟨rfl, rfl, rfl, by decide +kernel, rfl, by decide +kernel, by decide +kernel⟩
-- Row_len: self:0
abbrev s_Row_eq : Stmt := inClass (top 30) 12
abbrev N_Row_eq : List Str := ["self", "other"]
theorem sc_Row_eq : FnScope ["self", "other"] ["self", "other"] (defScope s_Row_eq) := ⟨rfl, rfl, rfl, by decide +kernel, rfl, by decide +kernel, by decide +kernel⟩
-- Row_eq: self:0 other:1
abbrev s_split_sign : Stmt := top 31
abbrev N_split_sign : List Str := ["word"]
theorem sc_split_sign : FnScope ["word"] ["word"] (defScope s_split_sign) := ⟨rfl, rfl, rfl, by decide +kernel, rfl, by decide +kernel, by decide +kernel⟩
-- split_sign: word:0
abbrev s_as_row : Stmt := top 32
abbrev N_as_row : List Str := ["value"]
theorem sc_as_row : FnScope ["value"] ["value"] (defScope s_as_row) := ⟨rfl, rfl, rfl, by decide +kernel, rfl, by decide +kernel, by decide +kernel⟩
-- as_row: value:0
abbrev s_check_fits : Stmt := top 33
abbrev N_check_fits : List Str := ["living", "row", "taken"]
theorem sc_check_fits : FnScope ["living", "row", "taken"] ["living", "row"] (defScope s_check_fits) := ⟨rfl, rfl, rfl, by decide +kernel, rfl, by decide +kernel, by decide +kernel⟩
-- check_fits: living:0 row:1 taken:2
abbrev s_check_neighbours : Stmt := top 34
abbrev N_check_neighbours : List Str := ["living", "row", "key", "neighbour"]
theorem sc_check_neighbours : FnScope ["living", "row", "key", "neighbour"] ["living", "row", "key"] (defScope s_check_neighbours) := ⟨rfl, rfl, rfl, by decide +kernel, rfl, by decide +kernel, by decide +kernel⟩
-- check_neighbours: living:0 row:1 key:2 neighbour:3
abbrev s_living_behind : Stmt := top 35
abbrev N_living_behind : List Str := ["living", "row", "taken", "staying", "key"]
theorem sc_living_behind : FnScope ["living", "row", "taken", "staying", "key"] ["living", "row"] (defScope s_living_behind) := ⟨rfl, rfl, rfl, by decide +kernel, rfl, by decide +kernel, by decide +kernel⟩
-- living_behind: living:0 row:1 taken:2(cell) staying:3 key:4
abbrev s_l_bag : Stmt := top 37
abbrev N_l_bag : List Str := ["_law_script", "_law_mixed", "_law_cell"]
theorem sc_l_bag : FnScope ["_law_script", "_law_mixed", "_law_cell"] ["_law_script"] (defScope s_l_bag) := ⟨rfl, rfl, rfl, by decide +kernel, rfl, by decide +kernel, by decide +kernel⟩
-- l_bag: _law_script:0 _law_mixed:1 _law_cell:2
abbrev s_l_draw : Stmt := top 38
abbrev N_l_draw : List Str := ["_law_bag_here", "_law_top", "_law_cell", "_law_digit", "_law_seed"]
theorem sc_l_draw : FnScope ["_law_bag_here", "_law_top", "_law_cell", "_law_digit", "_law_seed"] ["_law_bag_here", "_law_top"] (defScope s_l_draw) := ⟨rfl, rfl, rfl, by decide +kernel, rfl, by decide +kernel, by decide +kernel⟩
-- l_draw: _law_bag_here:0 _law_top:1 _law_cell:2 _law_digit:3 _law_seed:4
abbrev s_l_of : Stmt := top 39
abbrev N_l_of : List Str := ["_law_bag_here", "_law_some"]
theorem sc_l_of : FnScope ["_law_bag_here", "_law_some"] ["_law_bag_here", "_law_some"] (defScope s_l_of) := ⟨rfl, rfl, rfl, by decide +kernel, rfl, by decide +kernel, by decide +kernel⟩
-- l_of: _law_bag_here:0 _law_some:1
abbrev s_l_part : Stmt := top 40
abbrev N_l_part : List Str := ["_law_bag_here", "_law_some", "_law_found", "_law_item"]
theorem sc_l_part : FnScope ["_law_bag_here", "_law_some", "_law_found", "_law_item"] ["_law_bag_here", "_law_some"] (defScope s_l_part) := ⟨rfl, rfl, rfl, by decide +kernel, rfl, by decide +kernel, by decide +kernel⟩
-- l_part: _law_bag_here:0 _law_some:1 _law_found:2 _law_item:3
abbrev s_l_same : Stmt := top 41
abbrev N_l_same : List Str := ["_law_found", "_law_due", "_law_p", "_law_q"]
theorem sc_l_same : FnScope ["_law_found", "_law_due", "_law_p", "_law_q"] ["_law_found", "_law_due"] (defScope s_l_same) := ⟨rfl, rfl, rfl, by decide +kernel, rfl, by decide +kernel, by decide +kernel⟩
-- l_same: _law_found:0 _law_due:1 _law_p:2 _law_q:3
abbrev s_l_keys : Stmt := top 42
abbrev N_l_keys : List Str := ["_law_bag_here", "_law_many", "_law_wide", "_law_low", "_law_found", "_law_n", "_law_d", "_law_turn"]
theorem sc_l_keys : FnScope ["_law_bag_here", "_law_many", "_law_wide", "_law_low", "_law_found", "_law_n", "_law_d", "_law_turn"] ["_law_bag_here", "_law_many"] (defScope s_l_keys) := ⟨rfl, rfl, rfl, by decide +kernel, rfl, by decide +kernel, by decide +kernel⟩
-- l_keys: _law_bag_here:0 _law_many:1 _law_wide:2 _law_low:3 _law_found:4 _law_n:5 _law_d:6 _law_turn:7
abbrev s_l_stranger : Stmt := top 43
abbrev N_l_stranger : List Str := ["_law_bag_here", "_law_ks", "_law_found", "_law_turn"]
theorem sc_l_stranger : FnScope ["_law_bag_here", "_law_ks", "_law_found", "_law_turn"] ["_law_bag_here", "_law_ks"] (defScope s_l_stranger) := ⟨rfl, rfl, rfl, by decide +kernel, rfl, by decide +kernel, by decide +kernel⟩
-- l_stranger: _law_bag_here:0 _law_ks:1 _law_found:2 _law_turn:3
abbrev s_l_is_key : Stmt := top 44
abbrev N_l_is_key : List Str := ["_law_v"]
theorem sc_l_is_key : FnScope ["_law_v"] ["_law_v"] (defScope s_l_is_key) := ⟨rfl, rfl, rfl, by decide +kernel, rfl, by decide +kernel, by decide +kernel⟩
-- l_is_key: _law_v:0
abbrev s_l_is_set : Stmt := top 45
abbrev N_l_is_set : List Str := ["_law_v", "_law_n", "_law_p"]
theorem sc_l_is_set : FnScope ["_law_v", "_law_n", "_law_p"] ["_law_v"] (defScope s_l_is_set) := ⟨rfl, rfl, rfl, by decide +kernel, rfl, by decide +kernel, by decide +kernel⟩
-- l_is_set: _law_v:0(cell) _law_n:1 _law_p:2
abbrev s_l_odd_set : Stmt := top 46
abbrev N_l_odd_set : List Str := ["_law_bag_here", "_law_ks", "_law_more", "_law_fresh", "_law_menu", "_law_found"]
theorem sc_l_odd_set : FnScope ["_law_bag_here", "_law_ks", "_law_more", "_law_fresh", "_law_menu", "_law_found"] ["_law_bag_here", "_law_ks", "_law_more"] (defScope s_l_odd_set) := ⟨rfl, rfl, rfl, by decide +kernel, rfl, by decide +kernel, by decide +kernel⟩
-- l_odd_set: _law_bag_here:0 _law_ks:1 _law_more:2 _law_fresh:3 _law_menu:4 _law_found:5
abbrev s_l_fits : Stmt := top 47
abbrev N_l_fits : List Str := ["_law_ks", "_law_v", "_law_lot_y", "_law_up", "_law_down", "_law_strange", "_law_mark", "_law_near", "_law_k"]
theorem sc_l_fits : FnScope ["_law_ks", "_law_v", "_law_lot_y", "_law_up", "_law_down", "_law_strange", "_law_mark", "_law_near", "_law_k"] ["_law_ks", "_law_v"] (defScope s_l_fits) := ⟨rfl, rfl, rfl, by decide +kernel, rfl, by decide +kernel, by decide +kernel⟩
-- l_fits: _law_ks:0(cell) _law_v:1 _law_lot_y:2 _law_up:3(cell) _law_down:4(cell) _law_strange:5 _law_mark:6(cell) _law_near:7 _law_k:8
abbrev s_l_fitted : Stmt := top 48
abbrev N_l_fitted : List Str := ["_law_way", "_law_ks", "_law_v", "e"]
theorem sc_l_fitted : FnScope ["_law_way", "_law_ks", "_law_v", "e"] ["_law_way", "_law_ks", "_law_v"] (defScope s_l_fitted) := ⟨rfl, rfl, rfl, by decide +kernel, rfl, by decide +kernel, by decide +kernel⟩
-- l_fitted: _law_way:0 _law_ks:1 _law_v:2 e:3
abbrev s_l_some_row : Stmt := top 49
abbrev N_l_some_row : List Str := ["_law_bag_here", "_law_ks", "_law_way", "_law_some", "_law_mark", "_law_near", "_law_lost", "_law_n", "_law_found", "_law_k"]
theorem sc_l_some_row : FnScope ["_law_bag_here", "_law_ks", "_law_way", "_law_some", "_law_mark", "_law_near", "_law_lost", "_law_n", "_law_found", "_law_k"] ["_law_bag_here", "_law_ks"] (defScope s_l_some_row) := ⟨rfl, rfl, rfl, by decide +kernel, rfl, by decide +kernel, by decide +kernel⟩
-- l_some_row: _law_bag_here:0 _law_ks:1 _law_way:2 _law_some:3 _law_mark:4(cell) _law_near:5(cell) _law_lost:6 _law_n:7 _law_found:8 _law_k:9
abbrev s_law : Stmt := top 50
abbrev N_law : List Str := ["_law_script", "_law_bag_here", "_law_turn", "_law_ks", "_law_v", "_law_due", "_law_nothing", "_law_made", "_law_told", "_law_back", "_law_bare", "_law_odd", "_law_way"]
theorem sc_law : FnScope ["_law_script", "_law_bag_here", "_law_turn", "_law_ks", "_law_v", "_law_due", "_law_nothing", "_law_made", "_law_told", "_law_back", "_law_bare", "_law_odd", "_law_way"] ["_law_script"] (defScope s_law) := ⟨rfl, rfl, rfl, by decide +kernel, rfl, by decide +kernel, by decide +kernel⟩
-- law: _law_script:0 _law_bag_here:1 _law_turn:2 _law_ks:3(cell) _law_v:4 _law_due:5 _law_nothing:6 _law_made:7(cell) _law_told:8 _law_back:9 _law_bare:10 _law_odd:11(cell) _law_way:12
section
variable {P : Program} {w : World} {K : PySem.W.Frag} {mg : Str → Option Value} {base : Heap}
theorem ok_bag {f : Addr} {fd : FuncData} (F : Fun K "_law_bag" "_law_bag" s_l_bag f fd) (gInt : mg "int" = none) (gLst : mg "list" = none) : FnOk P w K mg base CX0 1 f fd ["_law_script"] (spBagL K) := by
  refine F.ok sc_l_bag (fun vs H Q E h => ?_) (fun cdv A outer s H vs Q E hr h => ?_)
  · obtain ⟨a, ns, rfl, _⟩ := h
    rfl
  · obtain ⟨a, ns, rfl, hS, hlen, k⟩ := h
    refine ⟨_, pss_cons (ps_set (i := 1) sc_l_bag.nd rfl (Or.inl rfl) pe_int)
      (pss_cut (ps_for PassesOwn.never rfl (pi_list (pe_slice sl_list (pv 0) po_none (po_some pe_int))) (pg_name (i := 2) sc_l_bag.nd rfl (Or.inl rfl))
        (pss_one (ps_set (i := 1) sc_l_bag.nd rfl (Or.inl rfl) (pe_op op_mod (pe_callTy call_int1 (by rfl) gInt (by decide +kernel) (pa_cons (pe_op op_add (pe_op op_add (pe_op op_mul (pv 1) pe_int)
          (pe_op op_mul (pe_op op_mod (pe_callTy call_int1 (by rfl) gInt (by decide +kernel) (pa_cons (pv 2) pa_nil)) pe_int) pe_int)) pe_int) pa_nil)) pe_int))))
      (pss_one (ps_ret (pe_lst (pa_cons (pe_callTy call_list_of (by rfl) gLst (by decide +kernel) (pa_cons (pe_slice sl_list (pv 0) po_none (po_some pe_int)) pa_nil))
        (pa_cons pe_int (pa_cons pe_int (pa_cons (pv 1) (pa_cons pe_int pa_nil))))))))), ?_⟩
    have cut63 : cutV (ns.map V.int) none (some 63) = (ns.take 63).map V.int := by
      have e : HT.sIx (ns.map V.int).length (ns.map V.int).length (some 63) = min 63 (ns.map V.int).length := HT.sIx_nat _ _ 63
      unfold cutV
      rw [HT.sIx_none, e, Nat.sub_zero, List.drop_zero, List.map_take, ← List.take_eq_take_min]
    refine ⟨fun σ H' => ∃ (m : Int) (z : Option V), σ = [some (.ref a), some (.int m), z] ∧ Same H H' ∧ 0 ≤ m ∧ m < 2147483648, ?_, ?_⟩
    · refine ⟨_, rfl, _, rfl, a, _, rfl, hS, fun p hp => ?_⟩
      rw [cut63]
      have s1 : Same H (upd H p (.lst ((ns.take 63).map V.int))) := Same.new (Same.refl H) hp
      refine ⟨p, rfl, ⟨_, SqL.of upd_same⟩, for_list (K := K) (a := p) (xs := (ns.take 63).map V.int) (fun i σ H' => ∃ (m : Int) (z : Option V), σ = [some (.ref a), some (.int m), z] ∧ Same (upd H p (.lst ((ns.take 63).map V.int))) H' ∧ 0 ≤ m ∧ m < 2147483648)
        ⟨12039, none, rfl, Same.refl _, by decide, by decide⟩ (fun i σ H' _ ⟨m, z, _, s2, _⟩ => s2.seq (SqL.of upd_same)) ?_ ?_⟩
      · rintro i x σ H' hi ⟨m, z, rfl, s2, h0, h1⟩
        obtain ⟨n, rfl⟩ : ∃ n : Int, x = .int n := by
          rw [List.getElem?_map] at hi
          cases e : (ns.take 63)[i]? with
          | none => rw [e] at hi; cases hi
          | some n => rw [e] at hi; exact ⟨n, (Option.some.inj hi).symm⟩
        refine ⟨_, rfl, _, _, rfl, rfl, Or.inr ⟨by decide, by decide⟩, ?_⟩
        refine ⟨_, rfl, .inl ⟨_, rfl, _, _, rfl, rfl, (by show (0 : Int) < 1000639; decide), _, _, rfl, rfl, Or.inr ⟨by decide, by decide⟩, _, _, rfl, rfl, _, _, rfl, rfl, .inl ⟨_, rfl, _, _, rfl, rfl, (by show (0 : Int) < 2147483579; decide), ?_⟩⟩⟩
        refine ⟨_, _, rfl, s2, Int.emod_nonneg _ (by decide), ?_⟩
        have := Int.emod_lt_of_pos (m * 48271 + n % 1000639 * 883 + 59) (show (0 : Int) < 2147483579 by decide)
        omega
      · rintro σ H' ⟨m, z, rfl, s2, h0, h1⟩
        exact ⟨m, z, rfl, s1.trans s2, h0, h1⟩
    · rintro σ H' ⟨m, z, rfl, s2, h0, h1⟩
      refine ⟨_, rfl, _, rfl, a, _, rfl, s2.seq hS, fun p hp => ?_⟩
      rw [cut63]
      refine ⟨p, _, rfl, .inl (SqL.of upd_same), fun l hl => ?_⟩
      refine ⟨_, rfl, (by show 5 ≤ sizeLine; decide), fun b hb => ?_⟩
      have sp := Same.new s2 (o := .lst ((ns.take 63).map V.int)) hp
      have sl := Same.new sp (o := .lst ((ns.take 63).map V.int)) hl
      have nlb : l ≠ b := ne_of_none upd_same hb
      refine k b l _ (sl.free hb) (sp.free hl) (Same.new sl hb) ⟨ns.take 63, 0, 0, m, 0, upd_same, ?_, nlb, by decide, by decide, h0, h1⟩
      rw [upd_ne nlb, upd_same]
theorem ok_draw {f : Addr} {fd : FuncData} (F : Fun K "_law_draw" "_law_draw" s_l_draw f fd) (gInt : mg "int" = none) (gLen : mg "len" = none) (gAbs : mg "abs" = none) : FnOk P w K mg base CX0 1 f fd ["_law_bag_here", "_law_top"] spDrawL := by
  refine F.ok sc_l_draw (fun vs H Q E h => ?_) (fun cdv A outer s H vs Q E hr h => ?_)
  · obtain ⟨a, l, top, rfl, _⟩ := h
    rfl
  · obtain ⟨b, l, top, rfl, B, t0, t1, k⟩ := h
    have nd := sc_l_draw.nd
    refine ⟨_, pss_cons (ps_asg (pe_op op_add (pe_ix ix_list (pv 0) pe_int (fun _ _ => rfl)) pe_int) (pg_sub (pv 0) pe_int set_list))
      (pss_cut (ps_if (PW.pt (pw_and (pt_cmpR op_eq (pe_ix ix_list (pv 0) pe_int (fun _ _ => rfl)) pe_int (nomark _))
          (pw_and1 (pt_cmpR op_lt (pe_ix ix_list (pv 0) pe_int (fun _ _ => rfl)) (pe_callB call_len_seq (by rfl) gLen PySem.boot_len (pa_cons (pe_ix ix_list (pv 0) pe_int (fun _ _ => rfl)) pa_nil)) (nomark _)))))
        (pss_cons (ps_set (i := 2) nd rfl (Or.inl rfl) (pe_callTy call_int1 (by rfl) gInt (by decide +kernel) (pa_cons (pe_ix ix_list (pe_ix ix_list (pv 0) pe_int (fun _ _ => rfl)) (pe_ix ix_list (pv 0) pe_int (fun _ _ => rfl)) (fun _ _ => rfl)) pa_nil)))
        (pss_cons (ps_asg (pe_op op_add (pe_ix ix_list (pv 0) pe_int (fun _ _ => rfl)) pe_int) (pg_sub (pv 0) pe_int set_list))
        (pss_one (ps_if (pt_cmpR op_ge (pe_callB call_abs (by rfl) gAbs (by decide +kernel) (pa_cons (pv 2) pa_nil)) (pe_op op_pow pe_int pe_int) (nomark _))
          (pss_one (ps_asg (pe_callB call_abs (by rfl) gAbs (by decide +kernel) (pa_cons (pv 2) pa_nil)) (pg_sub (pv 0) pe_int set_list)))
          (pss_one (ps_asg (pe_op op_mod (pe_callTy call_int1 (by rfl) gInt (by decide +kernel) (pa_cons (pe_op op_add (pe_op op_add (pe_op op_mul (pe_ix ix_list (pv 0) pe_int (fun _ _ => rfl)) pe_int)
            (pe_op op_mul (pe_op op_mod (pe_callTy call_int1 (by rfl) gInt (by decide +kernel) (pa_cons (pv 2) pa_nil)) pe_int) pe_int)) pe_int) pa_nil)) pe_int) (pg_sub (pv 0) pe_int set_list)))))))
        pss_nil)
      (pss_cons (ps_if (pt_cmpR op_gt (pe_ix ix_list (pv 0) pe_int (fun _ _ => rfl)) pe_int (nomark _))
        (pss_cons (ps_set (i := 3) nd rfl (Or.inl rfl) (pe_op op_mod (pe_callTy call_int1 (by rfl) gInt (by decide +kernel) (pa_cons (pe_ix ix_list (pv 0) pe_int (fun _ _ => rfl)) pa_nil)) (pv 1)))
        (pss_cons (ps_asg (pe_op op_fdivW (pe_ix ix_list (pv 0) pe_int (fun _ _ => rfl)) (pv 1)) (pg_sub (pv 0) pe_int set_list))
        (pss_one (ps_ret (pv 3))))) pss_nil)
      (pss_cons (ps_set (i := 4) nd rfl (Or.inl rfl) (pe_callTy call_int1 (by rfl) gInt (by decide +kernel) (pa_cons (pe_ix ix_list (pv 0) pe_int (fun _ _ => rfl)) pa_nil)))
      (pss_cons (ps_asg (pe_op op_mod (pe_callTy call_int1 (by rfl) gInt (by decide +kernel) (pa_cons (pe_op op_add (pe_op op_add (pe_op op_add (pe_op op_pow (pv 4) pe_int) (pe_op op_mul (pv 4) pe_int))
            (pe_op op_mul (pe_ix ix_list (pv 0) pe_int (fun _ _ => rfl)) pe_int)) pe_int) pa_nil)) pe_int) (pg_sub (pv 0) pe_int set_list))
      (pss_one (ps_ret (pe_op op_mod (pe_callTy call_int1 (by rfl) gInt (by decide +kernel) (pa_cons (pe_op op_add (pe_op op_fdiv (pe_ix ix_list (pv 0) pe_int (fun _ _ => rfl)) pe_int)
            (pe_op op_mul (pe_op op_mod (pe_callTy call_int1 (by rfl) gInt (by decide +kernel) (pa_cons (pe_ix ix_list (pv 0) pe_int (fun _ _ => rfl)) pa_nil)) pe_int) pe_int)) pa_nil)) (pv 1)))))))), ?_⟩
    obtain ⟨ns, i, g, m, c, hb, hl, nlb, i0, g0, m0, m1⟩ := B
    refine ⟨_, rfl, b, _, _, _, rfl, rfl, SqL.of hb, rfl, _, _, rfl, rfl, _, rfl, b, _, _, _, rfl, rfl, hb, rfl, ?_⟩
    -- the first draws of a cell
    have hl1 : ∀ o, upd H b o l = some (.lst (ns.map V.int)) := fun o => by rw [upd_ne nlb]; exact hl
    have up2 : ∀ (H' : Hp) (o : HO), Keep b H H' → (∀ c, H c = none → H' c = none) → Keep b H (upd H' b o) ∧ (∀ c, H c = none → upd H' b o c = none) := fun H' o kk fr =>
      ⟨kk.upd, fun c hc => by rw [upd_ne (fun e => by rw [e, hb] at hc; cases hc)]; exact fr c hc⟩
    obtain ⟨kk0, fr0⟩ := up2 H (HO.lst [.ref l, .int i, .int g, .int m, .int (c + 1)]) (Keep.refl b H) (fun c hc => hc)
    refine ⟨fun σ H' => ∃ (i g m : Int) (z : Option V), σ = [some (.ref b), some (.int top), z, none, none] ∧ H' b = some (.lst [.ref l, .int i, .int g, .int m, .int (c + 1)]) ∧ 0 ≤ i ∧ 0 ≤ g ∧ 0 ≤ m ∧ m < 2147483648 ∧ Keep b H H' ∧ (∀ c, H c = none → H' c = none), ?_, ?_⟩
    · refine ⟨_, rfl, b, _, _, _, rfl, rfl, SqL.of upd_same, rfl, rfl, _, rfl, ?_⟩
      refine ite2 (fun hg => ?_) (fun hg => ?_)
      · refine ⟨_, rfl, b, _, _, _, rfl, rfl, SqL.of upd_same, rfl, _, rfl, b, _, _, _, rfl, rfl, SqL.of upd_same, rfl, _, _, rfl, .inl (SqL.of (hl1 _)), _, _, rfl, rfl, _, rfl, ?_⟩
        refine ite2 (fun hi => ?_) (fun hi => ?_)
        · have hi' : i < ((ns.map V.int).length : Int) := of_decide_eq_true hi
          rw [List.length_map] at hi'
          obtain ⟨n, hn⟩ : ∃ n, ns[i.toNat]? = some n := ⟨ns[i.toNat]'(by omega), List.getElem?_eq_getElem (by omega)⟩
          have hat : atI (ns.map V.int) i = some (.int n) := at_of (j := i.toNat) (by omega) (by rw [List.getElem?_map, hn]; rfl)
          refine ⟨_, rfl, b, _, _, _, rfl, rfl, SqL.of upd_same, rfl, _, rfl, b, _, _, _, rfl, rfl, SqL.of upd_same, rfl, l, _, _, _, rfl, rfl, SqL.of (hl1 _), hat, .inl ⟨_, rfl, ?_⟩⟩
          refine ⟨_, rfl, b, _, _, _, rfl, rfl, SqL.of upd_same, rfl, _, _, rfl, rfl, _, rfl, b, _, _, _, rfl, rfl, upd_same, rfl, ?_⟩
          obtain ⟨kk1, fr1⟩ := up2 _ (HO.lst [.ref l, .int (i + 1), .int g, .int m, .int (c + 1)]) kk0 fr0
          refine ⟨_, rfl, _, rfl, _, _, rfl, rfl, ⟨by decide, by decide, by decide⟩, _, _, rfl, rfl, _, rfl, ?_⟩
          refine ite2 (fun hbig => ?_) (fun hbig => ?_)
          · refine ⟨_, rfl, _, rfl, _, rfl, b, _, _, _, rfl, rfl, upd_same, rfl, ?_⟩
            obtain ⟨kk2, fr2⟩ := up2 _ (HO.lst [.ref l, .int (i + 1), .int (if n < 0 then -n else n), .int m, .int (c + 1)]) kk1 fr1
            refine ⟨i + 1, if n < 0 then -n else n, m, _, rfl, upd_same, by omega, ?_, m0, m1, kk2, fr2⟩
            split <;> omega
          · refine ⟨_, rfl, b, _, _, _, rfl, rfl, SqL.of upd_same, rfl, _, _, rfl, rfl, Or.inr ⟨by decide, by decide⟩, _, rfl, .inl ⟨_, rfl, _, _, rfl, rfl, (by show (0 : Int) < 1000639; decide), _, _, rfl, rfl, Or.inr ⟨by decide, by decide⟩,
              _, _, rfl, rfl, _, _, rfl, rfl, .inl ⟨_, rfl, _, _, rfl, rfl, (by show (0 : Int) < 2147483587; decide), _, rfl, b, _, _, _, rfl, rfl, upd_same, rfl, ?_⟩⟩⟩
            obtain ⟨kk2, fr2⟩ := up2 _ (HO.lst [.ref l, .int (i + 1), .int g, .int ((m * 43889 + n % 1000639 * 773 + 31) % 2147483587), .int (c + 1)]) kk1 fr1
            have e1 := Int.emod_nonneg (m * 43889 + n % 1000639 * 773 + 31) (show (2147483587 : Int) ≠ 0 by decide)
            have e2 := Int.emod_lt_of_pos (m * 43889 + n % 1000639 * 773 + 31) (show (0 : Int) < 2147483587 by decide)
            exact ⟨i + 1, g, _, _, rfl, upd_same, by omega, g0, e1, by omega, kk2, fr2⟩
        · exact ⟨i, g, m, _, rfl, upd_same, i0, g0, m0, m1, kk0, fr0⟩
      · refine iteF ?_
        exact ⟨i, g, m, _, rfl, upd_same, i0, g0, m0, m1, kk0, fr0⟩
    · rintro σ H1 ⟨i, g, m, z, rfl, hb1, i0, g0, m0, m1, kk, fr⟩
      have hl2 : H1 l = some (.lst (ns.map V.int)) := kk _ _ hl nlb
      refine ⟨_, rfl, b, _, _, _, rfl, rfl, SqL.of hb1, rfl, _, _, rfl, rfl, _, rfl, ?_⟩
      refine ite2 (fun hg => ?_) (fun hg => ?_)
      · refine ⟨_, rfl, b, _, _, _, rfl, rfl, SqL.of hb1, rfl, .inl ⟨_, rfl, _, rfl, _, _, rfl, rfl, t0, ?_⟩⟩
        refine ⟨_, rfl, b, _, _, _, rfl, rfl, SqL.of hb1, rfl, _, rfl, _, _, rfl, rfl, ⟨t0, t1⟩, _, rfl, b, _, _, _, rfl, rfl, hb1, rfl, ?_⟩
        refine ⟨_, rfl, ?_⟩
        obtain ⟨kk2, fr2⟩ := up2 _ (HO.lst [.ref l, .int i, .int (g / top), .int m, .int (c + 1)]) kk fr
        refine k (g % top) _ (Int.emod_nonneg _ (by omega)) (Int.emod_lt_of_pos _ t0) ⟨ns, i, g / top, m, c + 1, upd_same, by rw [upd_ne nlb]; exact hl2, nlb, i0, Int.ediv_nonneg g0 (by omega), m0, m1⟩ kk2 fr2
      · refine ⟨_, rfl, b, _, _, _, rfl, rfl, SqL.of hb1, rfl, .inl ⟨_, rfl, ?_⟩⟩
        refine ⟨_, rfl, _, _, rfl, rfl, ⟨by decide, by decide, by omega⟩, _, rfl, _, _, rfl, rfl, Or.inr ⟨by decide, by decide⟩, _, _, rfl, rfl, _, rfl, b, _, _, _, rfl, rfl, SqL.of hb1, rfl, _, _, rfl, rfl, Or.inr ⟨by decide, by decide⟩,
          _, _, rfl, rfl, _, _, rfl, rfl, .inl ⟨_, rfl, _, _, rfl, rfl, (by show (0 : Int) < 2147483549; decide), _, rfl, b, _, _, _, rfl, rfl, hb1, rfl, ?_⟩⟩
        have e1 := Int.emod_nonneg (m ^ (3 : Int).toNat + m * 47111 + (c + 1) * 110323 + 60089) (show (2147483549 : Int) ≠ 0 by decide)
        have e2 := Int.emod_lt_of_pos (m ^ (3 : Int).toNat + m * 47111 + (c + 1) * 110323 + 60089) (show (0 : Int) < 2147483549 by decide)
        obtain ⟨kk2, fr2⟩ := up2 _ (HO.lst [.ref l, .int i, .int g, .int ((m ^ (3 : Int).toNat + m * 47111 + (c + 1) * 110323 + 60089) % 2147483549), .int (c + 1)]) kk fr
        refine ⟨_, rfl, b, _, _, _, rfl, rfl, SqL.of upd_same, rfl, _, _, rfl, rfl, ⟨by decide, by decide⟩, _, rfl, b, _, _, _, rfl, rfl, SqL.of upd_same, rfl, .inl ⟨_, rfl, _, _, rfl, rfl, (by show (0 : Int) < 8017; decide), _, _, rfl, rfl, Or.inr ⟨by decide, by decide⟩,
          _, _, rfl, rfl, .inl ⟨_, rfl, _, rfl, _, _, rfl, rfl, t0, ?_⟩⟩⟩
        refine k _ _ (Int.emod_nonneg _ (by omega)) (Int.emod_lt_of_pos _ t0) ⟨ns, i, g, _, c + 1, ?_, by rw [upd_ne nlb]; exact hl2, nlb, i0, g0, e1, by omega⟩ kk2 fr2
        exact upd_same
theorem log2_small {n : Nat} (h : n < 2 ^ 62) : n.log2 < 9000 := by
  by_cases h0 : n = 0
  · subst h0; decide
  · exact Nat.lt_of_lt_of_le ((Nat.log2_lt h0).mpr h) (by decide)
theorem ok_of {f fD : Addr} {fd fdD : FuncData} (F : Fun K "_law_of" "_law_of" s_l_of f fd) (gLen : mg "len" = none) (gD : mg "_law_draw" = some (.ref fD)) (FD : FnOk P w K mg base CX0 1 fD fdD ["_law_bag_here", "_law_top"] spDrawL)
    (kD : PySem.W.keepIn K (.ref fD) = true) (bD : Binds K fdD ["_law_bag_here", "_law_top"] []) : FnOk P w K mg base CX0 2 f fd ["_law_bag_here", "_law_some"] (spOfL K) := by
  refine F.ok sc_l_of (fun vs H Q E h => ?_) (fun cdv A outer s H vs Q E hr h => ?_)
  · obtain ⟨a, l, p, xs, rfl, _⟩ := h
    rfl
  · obtain ⟨b, l, p, xs, rfl, B, npb, hs, h0, h1, k⟩ := h
    refine ⟨_, pss_one (ps_ret (pe_ix ix_seq (pv 1) (pe_call FD hr (by rfl) gD kD bD .nil pass0 (pa_cons (pv 0) (pa_cons (pe_callB call_len_seq (by rfl) gLen PySem.boot_len (pa_cons (pv 1) pa_nil)) pa_nil))) (fun _ _ => rfl))), ?_⟩
    refine ⟨_, rfl, _, rfl, _, rfl, p, xs, rfl, hs, b, l, (xs.length : Int), rfl, B, by omega, ?_, fun d H' d0 d1 B' kk fr => ?_⟩
    · rw [Int.natAbs_natCast]
      exact log2_small h1
    · obtain ⟨v, hv⟩ : ∃ v, xs[d.toNat]? = some v := ⟨xs[d.toNat]'(by omega), List.getElem?_eq_getElem (by omega)⟩
      have hat : atI xs d = some v := at_of (j := d.toNat) (by omega) hv
      have hq : Q v H' := k v H' (List.mem_of_getElem? hv) B' kk fr
      rcases hs with hs | hs
      · exact .inl ⟨p, xs, d, v, rfl, rfl, seqL_keep kk npb hs, hat, hq⟩
      · exact .inr (.inl ⟨p, xs, d, v, rfl, rfl, seqT_keep kk npb hs, hat, hq⟩)
end
end K04

end

section
set_option Elab.async false
set_option linter.all false
set_option maxRecDepth 100000
set_option maxHeartbeats 4000000
namespace K04
open PySem L2 SB
/-- a drawn part of a tuple's items -/
def spPart (K : PySem.W.Frag) : Sp := fun vs H Q _ => ∃ (b l p : Addr) (xs : List V), vs = [.ref b, .ref p] ∧ BagL H b l ∧ p ≠ b ∧ SqT K H p xs ∧ xs.length ≤ 1000 ∧
  ∀ D ys H', List.Sublist ys xs → H D = none → H' D = some (.lst ys) → BagL H' b l → Keep b H H' → Q (.ref D) H'
section
variable {P : Program} {w : World} {K : PySem.W.Frag} {mg : Str → Option Value} {base : Heap}
theorem ok_part {f fD : Addr} {fd fdD : FuncData} (F : Fun K "_law_part" "_law_part" s_l_part f fd) (gD : mg "_law_draw" = some (.ref fD)) (FD : FnOk P w K mg base CX0 1 fD fdD ["_law_bag_here", "_law_top"] spDrawL)
    (kD : PySem.W.keepIn K (.ref fD) = true) (bD : Binds K fdD ["_law_bag_here", "_law_top"] []) : FnOk P w K mg base CX0 2 f fd ["_law_bag_here", "_law_some"] (spPart K) := by
  refine F.ok sc_l_part (fun vs H Q E h => ?_) (fun cdv A outer s H vs Q E hr h => ?_)
  · obtain ⟨b, l, p, xs, rfl, _⟩ := h
    rfl
  · obtain ⟨b, l, p, xs, rfl, B, npb, hs, hl, k⟩ := h
    have nd := sc_l_part.nd
    refine ⟨_, pss_cons (ps_set (i := 2) nd rfl (Or.inl rfl) (pe_lst pa_nil))
      (pss_cons (ps_for PassesOwn.never rfl (pi_tup (pv 1)) (pg_name (i := 3) nd rfl (Or.inl rfl))
        (pss_one (ps_if (pt_cmpR op_eq (pe_call FD hr (by rfl) gD kD bD .nil pass0 (pa_cons (pv 0) (pa_cons pe_int pa_nil))) pe_int (nomark _))
          (pss_one (ps_expr (pe_bm PySem.F.plainAttrs_list PySem.F.slot_list_append PySem.F.type_list_append mt_append (pv 2) (pa_cons (pv 3) pa_nil)))) pss_nil)))
      (pss_one (ps_ret (pv 2)))), ?_⟩
    refine ⟨(by decide), fun D hD => ?_⟩
    have n0 := B.ne hD
    have n1 := B.nl hD
    refine ⟨_, rfl, p, rfl, ⟨_, seqT_keep (Keep.new (Keep.refl b H) hD) npb hs⟩, for_tup (K := K) (a := p) (xs := xs) (fun i σ H' => ∃ ys z, σ = [some (.ref b), some (.ref p), some (.ref D), z] ∧ List.Sublist ys (xs.take i) ∧ H' D = some (.lst ys) ∧ BagL H' b l ∧ Keep b H H')
      ⟨[], none, rfl, by simp, upd_same, B.new hD, Keep.new (Keep.refl b H) hD⟩ (fun i σ H' _ ⟨ys, z, _, _, _, _, kk⟩ => seqT_keep kk npb hs) ?_ ?_⟩
    · rintro i x σ H' hi ⟨ys, z, rfl, sb, hy, B', kk⟩
      have hil : i < xs.length := (List.getElem?_eq_some_iff.mp hi).1
      have tk : xs.take (i + 1) = xs.take i ++ [x] := by rw [List.take_add_one, hi]; rfl
      refine ⟨_, rfl, b, l, _, rfl, B', by decide, by decide, fun d H1 d0 d1 B1 k1 fr => ?_⟩
      have hy1 := k1 _ _ hy n0
      refine ⟨rfl, _, rfl, ite2 (fun h => ?_) (fun h => ?_)⟩
      · refine ⟨_, rfl, .inl ⟨rfl, _, SqL.of hy1⟩, _, rfl, D, _, _, rfl, rfl, hy1, ?_, ?_⟩
        · have := sb.length_le
          rw [List.length_take] at this
          rw [sizeLine_eq]; omega
        · refine ⟨ys ++ [x], _, rfl, by rw [tk]; exact sb.append (List.Sublist.refl _), upd_same, B1.put n0 n1, fun c o e n => ?_⟩
          rw [upd_ne (ne_of_none e hD)]
          exact k1 _ _ (kk _ _ e n) n
      · exact ⟨ys, _, rfl, by rw [tk]; exact sb.trans (List.sublist_append_left _ _), hy1, B1, kk.trans k1⟩
    · rintro σ H' ⟨ys, z, rfl, sb, hy, B', kk⟩
      rw [List.take_length] at sb
      exact ⟨_, rfl, k D ys H' sb hD hy B' kk⟩
end
end K04

end

section
set_option Elab.async false
set_option linter.all false
set_option maxRecDepth 100000
set_option maxHeartbeats 4000000
namespace K04
open PySem L2 SB
/-- a key that may be strange to a key set -/
def spStr (K : PySem.W.Frag) : Sp := fun vs H Q _ => ∃ (b l p : Addr) (ks : List Int), vs = [.ref b, .ref p] ∧ BagL H b l ∧ p ≠ b ∧ SqT K H p (ks.map V.int) ∧ ks.length ≤ 1000 ∧ (∀ k ∈ ks, 0 ≤ k ∧ k ≤ 999) ∧
  ∀ (k : Int) H', 0 ≤ k → k ≤ 999 → BagL H' b l → Keep b H H' → Q (.int k) H'
/-- a key set of so many keys -/
def spKeys (K : PySem.W.Frag) : Sp := fun vs H Q _ => ∃ (b l : Addr) (n : Nat), vs = [.ref b, .int n] ∧ BagL H b l ∧ n ≤ 60 ∧
  ∀ p ks H', KSet ks → ks.length = n → H p = none → H' p = some (.tup (ks.map V.int)) → BagL H' b l → Keep b H H' → Q (.ref p) H'
section
variable {P : Program} {w : World} {K : PySem.W.Frag} {mg : Str → Option Value} {base : Heap}
theorem ok_stranger {f fD fO : Addr} {fd fdD fdO : FuncData} (F : Fun K "_law_stranger" "_law_stranger" s_l_stranger f fd) (gInt : mg "int" = none) (gLen : mg "len" = none) (gLst : mg "list" = none) (gRng : mg "range" = none)
    (gD : mg "_law_draw" = some (.ref fD)) (FD : FnOk P w K mg base CX0 1 fD fdD ["_law_bag_here", "_law_top"] spDrawL) (kD : PySem.W.keepIn K (.ref fD) = true) (bD : Binds K fdD ["_law_bag_here", "_law_top"] [])
    (gO : mg "_law_of" = some (.ref fO)) (FO : FnOk P w K mg base CX0 2 fO fdO ["_law_bag_here", "_law_some"] (spOfL K)) (kO : PySem.W.keepIn K (.ref fO) = true) (bO : Binds K fdO ["_law_bag_here", "_law_some"] []) :
    FnOk P w K mg base CX0 3 f fd ["_law_bag_here", "_law_ks"] (spStr K) := by
  refine F.ok sc_l_stranger (fun vs H Q E h => ?_) (fun cdv A outer s H vs Q E hr h => ?_)
  · obtain ⟨b, l, p, xs, rfl, _⟩ := h
    rfl
  · obtain ⟨b, l, p, ks, rfl, B, npb, hs, hl, hk, k⟩ := h
    have nd := sc_l_stranger.nd
    refine ⟨_, pss_cons (ps_set (i := 2) nd rfl (Or.inl rfl) (pe_call FO (hr.mono (by decide)) (by rfl) gO kO bO .nil pass0 (pa_cons (pv 0) (pa_cons (pe_op op_cat (pe_callTy call_list_of (by rfl) gLst (by decide +kernel) (pa_cons (pv 1) pa_nil))
        (pe_lst (pa_cons pe_int (pa_cons pe_int (pa_cons (pe_call FD (hr.mono (by decide)) (by rfl) gD kD bD .nil pass0 (pa_cons (pv 0) (pa_cons pe_int pa_nil))) pa_nil))))) pa_nil))))
      (pss_cons (ps_for PassesOwn.never rfl (pi_range1 (by rfl) gRng (pa_cons (pe_op op_add (pe_callB call_len_seq (by rfl) gLen PySem.boot_len (pa_cons (pv 1) pa_nil)) pe_int) pa_nil)) (pg_name (i := 3) nd rfl (Or.inl rfl))
        (pss_cons (ps_if (pt_cmpR op_notIn_seq (pv 2) (pv 1) (by rfl)) (pss_one ps_break) pss_nil)
        (pss_one (ps_set (i := 2) nd rfl (Or.inl rfl) (pe_op op_mod (pe_callTy call_int1 (by rfl) gInt (by decide +kernel) (pa_cons (pe_op op_add (pv 2) pe_int) pa_nil)) pe_int)))))
      (pss_one (ps_ret (pv 2)))), ?_⟩
    refine ⟨_, rfl, _, rfl, p, _, rfl, .inr hs, fun q1 hq1 => ?_⟩
    have n1 := B.ne hq1
    refine ⟨_, rfl, b, l, _, rfl, B.new hq1, by decide, by decide, fun d H1 d0 d1 B1 k1 _ => ?_⟩
    refine ⟨(by show 3 ≤ sizeLine; decide), fun q2 hq2 => ?_⟩
    have e1 : upd H1 q2 (.lst [.int 0, .int 999, .int d]) q1 = some (.lst (ks.map V.int)) := by
      have := k1 _ _ (upd_same (H := H) (a := q1) (o := .lst (ks.map V.int))) n1
      rw [upd_ne (ne_of_none this hq2)]
      exact this
    have K2 : Keep b H (upd H1 q2 (.lst [.int 0, .int 999, .int d])) := ((Keep.new (Keep.refl b H) hq1).trans k1).new hq2
    refine ⟨q1, q2, _, _, rfl, rfl, e1, upd_same, (by rw [List.length_map, sizeLine_eq]; show ks.length + 3 ≤ _; omega), fun q3 hq3 => ?_⟩
    have B3 := (B1.new (o := .lst [.int 0, .int 999, .int d]) hq2).new (o := .lst (ks.map V.int ++ [.int 0, .int 999, .int d])) hq3
    have K3 := K2.new (o := .lst (ks.map V.int ++ [.int 0, .int 999, .int d])) hq3
    refine of_seqL (E := E0) B3 ((B1.new hq2).ne hq3) (.inl (SqL.of upd_same)) (by rw [List.length_append]; show 0 < _ + 3; omega) (by rw [List.length_append, List.length_map]; show _ + 3 < _; omega) fun v H4 hv B4 k4 _ => ?_
    have K4 := K3.trans k4
    obtain ⟨k0, rfl, a0, a1⟩ : ∃ k0 : Int, v = .int k0 ∧ 0 ≤ k0 ∧ k0 ≤ 999 := by
      rcases List.mem_append.mp hv with hv | hv
      · obtain ⟨z, rfl, hz⟩ := mem_ints hv
        exact ⟨z, rfl, hk z hz⟩
      · simp only [List.mem_cons, List.not_mem_nil, or_false] at hv
        rcases hv with rfl | rfl | rfl
        · exact ⟨0, rfl, by decide, by decide⟩
        · exact ⟨999, rfl, by decide, by decide⟩
        · exact ⟨d, rfl, d0, by omega⟩
    have hs4 : ∀ {H' : Hp}, Keep b H H' → SqT K H' p (ks.map V.int) := fun kk => seqT_keep kk npb hs
    refine ⟨_, rfl, p, _, rfl, .inr (hs4 K4), _, _, rfl, rfl, _, rfl, (by rw [List.length_map]; omega), (by rw [List.length_map]; omega), ?_⟩
    refine for_range (n := ((((ks.map V.int).length : Nat) : Int) + 1).toNat) (fun i σ H' => ∃ k1 z, σ = [some (.ref b), some (.ref p), some (.int k1), z] ∧ 0 ≤ k1 ∧ k1 ≤ 999 ∧ BagL H' b l ∧ Keep b H H')
      ⟨k0, none, rfl, a0, a1, B4, K4⟩ ?_ ?_
    · rintro i σ H' hi ⟨k1, z, rfl, c0, c1, B', kk⟩
      refine ⟨_, rfl, _, rfl, p, _, rfl, .inr (hs4 kk), rfl, flat_ints ks, _, rfl, ite2 (fun h => ?_) (fun h => ?_)⟩
      · exact ⟨_, rfl, k k1 H' c0 c1 B' kk⟩
      · refine ⟨_, rfl, _, _, rfl, rfl, .inl ⟨_, rfl, _, _, rfl, rfl, (by show (0 : Int) < 1000; decide), ?_⟩⟩
        refine ⟨_, _, rfl, Int.emod_nonneg _ (by decide), ?_, B', kk⟩
        have := Int.emod_lt_of_pos (k1 + 1) (show (0 : Int) < 1000 by decide)
        omega
    · rintro σ H' ⟨k1, z, rfl, c0, c1, B', kk⟩
      exact ⟨_, rfl, k k1 H' c0 c1 B' kk⟩
theorem ok_keys {f fD fO : Addr} {fd fdD fdO : FuncData} (F : Fun K "_law_keys" "_law_keys" s_l_keys f fd) (gInt : mg "int" = none) (gMax : mg "max" = none) (gTup : mg "tuple" = none) (gSrt : mg "sorted" = none) (gRng : mg "range" = none)
    (gD : mg "_law_draw" = some (.ref fD)) (FD : FnOk P w K mg base CX0 1 fD fdD ["_law_bag_here", "_law_top"] spDrawL) (kD : PySem.W.keepIn K (.ref fD) = true) (bD : Binds K fdD ["_law_bag_here", "_law_top"] [])
    (gO : mg "_law_of" = some (.ref fO)) (FO : FnOk P w K mg base CX0 2 fO fdO ["_law_bag_here", "_law_some"] (spOfL K)) (kO : PySem.W.keepIn K (.ref fO) = true) (bO : Binds K fdO ["_law_bag_here", "_law_some"] []) :
    FnOk P w K mg base CX0 3 f fd ["_law_bag_here", "_law_many"] (spKeys K) := by
  refine F.ok sc_l_keys (fun vs H Q E h => ?_) (fun cdv A outer s H vs Q E hr h => ?_)
  · obtain ⟨b, l, n, rfl, _⟩ := h
    rfl
  · obtain ⟨b, l, n, rfl, B, hn, k⟩ := h
    have nd := sc_l_keys.nd
    have hr2 : Room 2 _ := hr.mono (by decide)
    have hr1 : Room 1 _ := hr.mono (by decide)
    refine ⟨_, pss_cut (ps_set (i := 2) nd rfl (Or.inl rfl) (pe_callB (call_max2 rfl) (by rfl) gMax (by decide +kernel) (pa_cons pe_int (pa_cons (pe_call FO hr2 (by rfl) gO kO bO .nil pass0 (pa_cons (pv 0) (pa_cons (pe_lst (pa_cons (pv 1) (pa_cons (pe_op op_add (pv 1) pe_int) (pa_cons (pe_op op_add (pv 1) pe_int) (pa_cons pe_int (pa_cons pe_int pa_nil)))))) pa_nil))) pa_nil))))
      (pss_cut (ps_set (i := 3) nd rfl (Or.inl rfl) (pe_call FO hr2 (by rfl) gO kO bO .nil pass0 (pa_cons (pv 0) (pa_cons (pe_lst (pa_cons pe_int (pa_cons (pe_op op_sub pe_int (pv 2)) (pa_cons (pe_call FD hr1 (by rfl) gD kD bD .nil pass0 (pa_cons (pv 0) (pa_cons (pe_op op_sub pe_int (pv 2)) pa_nil))) pa_nil)))) pa_nil))))
      (pss_cons (ps_set (i := 4) nd rfl (Or.inl rfl) (pe_lst pa_nil))
      (pss_cons (ps_for PassesOwn.never rfl (pi_range1 (by rfl) gRng (pa_cons (pv 1) pa_nil)) (pg_name (i := 5) nd rfl (Or.inl rfl))
        (pss_cons (ps_set (i := 6) nd rfl (Or.inl rfl) (pe_call FD hr1 (by rfl) gD kD bD .nil pass0 (pa_cons (pv 0) (pa_cons (pv 2) pa_nil))))
        (pss_cut (ps_for PassesOwn.never rfl (pi_range1 (by rfl) gRng (pa_cons (pv 1) pa_nil)) (pg_name (i := 7) nd rfl (Or.inl rfl))
          (pss_cons (ps_if (pt_cmpR op_notIn_seq (pe_op op_add (pv 3) (pv 6)) (pv 4) (by rfl)) (pss_one ps_break) pss_nil)
          (pss_one (ps_set (i := 6) nd rfl (Or.inl rfl) (pe_op op_mod (pe_callTy call_int1 (by rfl) gInt (by decide +kernel) (pa_cons (pe_op op_add (pv 6) pe_int) pa_nil)) (pv 2))))))
        (pss_one (ps_expr (pe_bm PySem.F.plainAttrs_list PySem.F.slot_list_append PySem.F.type_list_append mt_append (pv 4) (pa_cons (pe_op op_add (pv 3) (pv 6)) pa_nil)))))))
      (pss_one (ps_ret (pe_callTy call_tuple_of (by rfl) gTup (by decide +kernel) (pa_cons (pe_callB cr_sorted (by rfl) gSrt (by decide +kernel) (pa_cons (pv 4) pa_nil)) pa_nil))))))), ?_⟩
    refine ⟨fun σ H' => ∃ wd : Int, σ = [some (.ref b), some (.int n), some (.int wd), none, none, none, none, none] ∧ 1 ≤ wd ∧ wd ≤ 1000 ∧ (n : Int) ≤ wd ∧ BagL H' b l ∧ Keep b H H', ?_, ?_⟩
    · refine ⟨_, rfl, _, rfl, _, rfl, _, _, rfl, rfl, _, rfl, _, _, rfl, rfl, (by show 5 ≤ sizeLine; decide), fun q1 hq1 => ?_⟩
      refine of_seqL (E := E0) (B.new hq1) (B.ne hq1) (.inl (SqL.of upd_same)) (by show 0 < 5; decide) (by show 5 < 2 ^ 62; decide) fun v H1 hv B1 k1 _ => ?_
      obtain ⟨z, rfl, z0, z1⟩ : ∃ z : Int, v = .int z ∧ (n : Int) ≤ z ∧ z ≤ 1000 := by
        simp only [List.mem_cons, List.not_mem_nil, or_false] at hv
        rcases hv with rfl | rfl | rfl | rfl | rfl
        · exact ⟨_, rfl, by omega, by omega⟩
        · exact ⟨_, rfl, by omega, by omega⟩
        · exact ⟨_, rfl, by omega, by omega⟩
        · exact ⟨_, rfl, by omega, by omega⟩
        · exact ⟨_, rfl, by omega, by omega⟩
      refine ⟨_, _, rfl, _, rfl, ?_, ?_, ?_, B1, (Keep.new (Keep.refl b H) hq1).trans k1⟩ <;> (split <;> omega)
    · rintro σ H1 ⟨wd, rfl, w1, w2, w3, B1, K1⟩
      refine ⟨fun σ H' => ∃ lo : Int, σ = [some (.ref b), some (.int n), some (.int wd), some (.int lo), none, none, none, none] ∧ 0 ≤ lo ∧ lo + wd ≤ 1000 ∧ BagL H' b l ∧ Keep b H H', ?_, ?_⟩
      · refine ⟨_, rfl, _, rfl, _, _, rfl, rfl, _, rfl, _, rfl, _, _, rfl, rfl, b, l, _, rfl, B1, by omega, log_small (by omega) (by omega), fun d H2 d0 d1 B2 k2 _ => ?_⟩
        refine ⟨(by show 3 ≤ sizeLine; decide), fun q1 hq1 => ?_⟩
        refine of_seqL (E := E0) (B2.new hq1) (B2.ne hq1) (.inl (SqL.of upd_same)) (by show 0 < 3; decide) (by show 3 < 2 ^ 62; decide) fun v H3 hv B3 k3 _ => ?_
        obtain ⟨z, rfl, z0, z1⟩ : ∃ z : Int, v = .int z ∧ 0 ≤ z ∧ z + wd ≤ 1000 := by
          simp only [List.mem_cons, List.not_mem_nil, or_false] at hv
          rcases hv with rfl | rfl | rfl
          · exact ⟨_, rfl, by omega, by omega⟩
          · exact ⟨_, rfl, by omega, by omega⟩
          · exact ⟨_, rfl, by omega, by omega⟩
        exact ⟨z, rfl, z0, z1, B3, ((K1.trans k2).new hq1).trans k3⟩
      · rintro σ H2 ⟨lo, rfl, l0, l1, B2, K2⟩
        have wn : ∀ {x y : Int}, x % wd < wd := fun {x y} => Int.emod_lt_of_pos x (by omega)
        refine ⟨(by decide), fun D hD => ?_⟩
        have nb := B2.ne hD
        have nl := B2.nl hD
        have hDH : H D = none := by
          cases e : H D with
          | none => rfl
          | some o => rw [K2 _ _ e nb] at hD; cases hD
        refine ⟨_, rfl, _, rfl, by omega, by omega, ?_⟩
        refine for_range (n := n) (fun i σ H' => ∃ (fs : List Int) (z5 z6 z7 : Option V), σ = [some (.ref b), some (.int n), some (.int wd), some (.int lo), some (.ref D), z5, z6, z7] ∧ fs.length = i ∧ fs.Nodup ∧ (∀ x ∈ fs, lo ≤ x ∧ x < lo + wd) ∧ H' D = some (.lst (fs.map V.int)) ∧ BagL H' b l ∧ Keep b H H')
          ⟨[], none, none, none, rfl, rfl, List.nodup_nil, (fun x hx => by cases hx), upd_same, B2.new hD, K2.new hD⟩ ?_ ?_
        · rintro i σ H' hi ⟨fs, z5, z6, z7, rfl, hfl, hfn, hfr, hf, B', kk⟩
          refine ⟨_, rfl, _, rfl, b, l, _, rfl, B', by omega, log_small (by omega) (by omega), fun d0 H3 e0 e1 B3 k3 _ => ?_⟩
          have hf3 := k3 _ _ hf nb
          refine ⟨fun σ H' => H' = H3 ∧ ∃ (d : Int) (z7 : Option V), σ = [some (.ref b), some (.int n), some (.int wd), some (.int lo), some (.ref D), some (.int (0 + i)), some (.int d), z7] ∧ 0 ≤ d ∧ d < wd ∧ lo + d ∉ fs, ?_, ?_⟩
          · refine ⟨_, rfl, _, rfl, by omega, by omega, ?_⟩
            have z0 : (d0 + ((0 : Nat) : Int)) % wd = d0 := by
              rw [Int.emod_eq_of_lt] <;> simp <;> omega
            refine for_range (n := n) (fun t σ H' => H' = H3 ∧ ∃ z7 : Option V, σ = [some (.ref b), some (.int n), some (.int wd), some (.int lo), some (.ref D), some (.int (0 + i)), some (.int ((d0 + (t : Int)) % wd)), z7] ∧ ∀ j : Nat, j < t → lo + (d0 + (j : Int)) % wd ∈ fs)
              ⟨rfl, _, by rw [z0]; rfl, fun j hj => absurd hj (by omega)⟩ ?_ ?_
            · rintro t σ H' ht ⟨rfl, z7, rfl, hin⟩
              refine ⟨_, rfl, _, rfl, _, _, rfl, rfl, _, rfl, D, _, rfl, .inl (SqL.of hf3), rfl, flat_ints fs, _, rfl, ?_⟩
              have e : (if true = true then !inV (V.int (lo + (d0 + (t : Int)) % wd)) (fs.map V.int) else inV (V.int (lo + (d0 + (t : Int)) % wd)) (fs.map V.int)) = !decide (lo + (d0 + (t : Int)) % wd ∈ fs) := by
                rw [if_pos rfl, inV_ints]
              rw [e]
              by_cases hm : lo + (d0 + (t : Int)) % wd ∈ fs
              · rw [decide_eq_true hm]
                refine iteF ?_
                refine ⟨_, rfl, _, _, rfl, rfl, .inl ⟨_, rfl, _, rfl, _, _, rfl, rfl, by omega, ?_⟩⟩
                have en : ((d0 + (t : Int)) % wd + 1) % wd = (d0 + ((t + 1 : Nat) : Int)) % wd := by
                  rw [Int.emod_add_emod, show d0 + (t : Int) + 1 = d0 + ((t + 1 : Nat) : Int) by omega]
                refine ⟨rfl, some (.int (0 + (t : Int))), by rw [← en]; rfl, fun j hj => ?_⟩
                by_cases hjt : j = t
                · subst hjt; exact hm
                · exact hin j (by omega)
              · rw [decide_eq_false hm]
                refine iteT ?_
                exact ⟨rfl, _, _, rfl, Int.emod_nonneg _ (by omega), wn (y := 0), hm⟩
            · rintro σ H' ⟨rfl, z7, rfl, hin⟩
              exfalso
              have := nodup_le _ fs (mod_list (w := wd) (d := d0) (low := lo) (by omega) n w3) fun x hx => by
                obtain ⟨j, hj, rfl⟩ := List.mem_map.mp hx
                exact hin j (List.mem_range.mp hj)
              rw [List.length_map, List.length_range] at this
              omega
          · rintro σ H' ⟨rfl, d, z7, rfl, f0, f1, hm⟩
            refine ⟨_, rfl, .inl ⟨rfl, _, SqL.of hf3⟩, _, rfl, _, rfl, _, _, rfl, rfl, D, _, _, rfl, rfl, hf3, ?_, ?_⟩
            · rw [List.length_map, hfl, sizeLine_eq]; omega
            · refine ⟨fs ++ [lo + d], _, _, _, rfl, by rw [List.length_append, hfl]; rfl, ?_, ?_, ?_, B3.put nb nl, ?_⟩
              · refine List.nodup_append.mpr ⟨hfn, by simp, fun a ha b' hb' e => ?_⟩
                simp only [List.mem_singleton] at hb'
                exact hm (by rw [← hb', ← e]; exact ha)
              · intro x hx
                rcases List.mem_append.mp hx with hx | hx
                · exact hfr x hx
                · simp only [List.mem_singleton] at hx
                  omega
              · rw [upd_same, List.map_append]; rfl
              · intro c o e nc
                rw [upd_ne (ne_of_none e hDH)]
                exact k3 _ _ (kk _ _ e nc) nc
        · rintro σ H' ⟨fs, z5, z6, z7, rfl, hfl, hfn, hfr, hf, B', kk⟩
          refine ⟨_, rfl, D, fs, rfl, SqL.of hf, by omega, fun ks q hp hs hq => ?_⟩
          refine ⟨q, _, rfl, .inl ⟨SqL.of upd_same, fun t ht => ?_⟩⟩
          have htH : H t = none := by
            cases e : H t with
            | none => rfl
            | some o =>
              have tb : t ≠ b := fun z => by
                subst z
                exact (B'.new (o := .lst (ks.map V.int)) hq).ne ht rfl
              rw [upd_ne (ne_of_none (kk _ _ e tb) hq), kk _ _ e tb] at ht
              cases ht
          refine k t ks _ (kset_sort hp hs hfn (fun k hk => ?_) (fun k hk => ?_)) (by rw [hp.length_eq, hfl]) htH upd_same ((B'.new hq).new ht) ((kk.new hq).new ht)
          · have := hfr k hk; omega
          · have := hfr k hk; omega
end
end K04

end

section
set_option Elab.async false
set_option linter.all false
set_option maxRecDepth 100000
set_option maxHeartbeats 4000000
namespace K04
open PySem L2 SB
section
variable {P : Program} {w : World} {K : PySem.W.Frag} {mg : Str → Option Value} {base : Heap}
theorem ok_num {f : Addr} {fd : FuncData} (F : Fun K "is_number" "is_number" s_is_number f fd) (gIsi : mg "isinstance" = none) (gInt : mg "int" = none) (gBool : mg "bool" = none) : FnOk P w K mg base CX0 1 f fd ["value"] (spNum K) := by
  refine F.ok sc_is_number (fun vs H Q E h => ?_) (fun cdv A outer s H vs Q E hr h => ?_)
  · obtain ⟨v, o, rfl, _⟩ := h
    rfl
  · obtain ⟨v, o, rfl, nv, k⟩ := h
    refine ⟨_, pss_one (ps_ret (pe_and (pe_callB call_isi (by rfl) gIsi (by decide +kernel) (pa_cons (pv 0) (pa_cons (pe_bltn (v := .ty "int") (by rfl) gInt (by decide +kernel) rfl) pa_nil)))
      (pe_one (pe_not (pe_callB call_isi (by rfl) gIsi (by decide +kernel) (pa_cons (pv 0) (pa_cons (pe_bltn (v := .ty "bool") (by rfl) gBool (by decide +kernel) rfl) pa_nil))))))), ?_⟩
    cases nv with
    | int i =>
      refine rd_is (b := true) (i := 0) rfl (.base (.int i)) (by decide +kernel) ⟨_, rfl, iteT ?_⟩
      exact rd_is (b := false) (i := 0) rfl (.base (.int i)) (by decide +kernel) ⟨_, rfl, k⟩
    | no t b1 b2 ty h1 h2 h =>
      refine ⟨v, rfl, v, .ty "int", _, _, b1, rfl, .ty "int", ty, h1, b1, rfl, ?_⟩
      cases b1 with
      | false => exact iteF k
      | true =>
        refine iteT ⟨v, rfl, v, .ty "bool", _, _, b2, rfl, .ty "bool", ty, h2, b2, rfl, ?_⟩
        cases b2 with
        | false => cases h
        | true => exact k
theorem ok_key {f fN : Addr} {fd fdN : FuncData} {t : Tok} (F : Fun K "is_key" "is_key" s_is_key f fd) (gG : mg "GREATEST_KEY" = some (.int 999 t)) (gN : mg "is_number" = some (.ref fN)) (FN : FnOk P w K mg base CX0 1 fN fdN ["value"] (spNum K))
    (kN : PySem.W.keepIn K (.ref fN) = true) (bN : Binds K fdN ["value"] []) : FnOk P w K mg base CX0 2 f fd ["value"] (spKey K) := by
  refine F.ok sc_is_key (fun vs H Q E h => ?_) (fun cdv A outer s H vs Q E hr h => ?_)
  · obtain ⟨v, o, rfl, _⟩ := h
    rfl
  · obtain ⟨v, o, rfl, nv, k⟩ := h
    refine ⟨_, pss_one (ps_ret (pe_and (pe_call FN hr (by rfl) gN kN bN .nil pass0 (pa_cons (pv 0) pa_nil))
      (pe_one (pe_chain op_le op_le pe_int (pv 0) (pe_glob (v := .int 999) (by rfl) gG ⟨_, rfl⟩))))), ?_⟩
    refine ⟨_, rfl, v, o, rfl, nv, _, rfl, ?_⟩
    cases nv with
    | no t b1 b2 ty h1 h2 h => exact iteF k
    | int i =>
      refine iteT ⟨_, rfl, _, _, rfl, rfl, _, rfl, ite2 (fun h => ?_) (fun h => ?_)⟩
      · refine ⟨_, _, rfl, rfl, ?_⟩
        have e : keyB (some i) = decide (i ≤ 999) := by
          show (decide (0 ≤ i) && decide (i ≤ 999)) = _
          rw [show decide (0 ≤ i) = true from h]; rfl
        rw [e] at k
        exact k
      · have e : keyB (some i) = false := by
          show (decide (0 ≤ i) && decide (i ≤ 999)) = _
          rw [show decide (0 ≤ i) = false from Bool.eq_false_iff.mpr h]; rfl
        rw [e] at k
        exact k
theorem ok_lkey {f : Addr} {fd : FuncData} (F : Fun K "_law_is_key" "_law_is_key" s_l_is_key f fd) (gIsi : mg "isinstance" = none) (gInt : mg "int" = none) (gBool : mg "bool" = none) : FnOk P w K mg base CX0 1 f fd ["_law_v"] (spKey K) := by
  refine F.ok sc_l_is_key (fun vs H Q E h => ?_) (fun cdv A outer s H vs Q E hr h => ?_)
  · obtain ⟨v, o, rfl, _⟩ := h
    rfl
  · obtain ⟨v, o, rfl, nv, k⟩ := h
    refine ⟨_, pss_one (ps_ret (pe_and (pe_callB call_isi (by rfl) gIsi (by decide +kernel) (pa_cons (pv 0) (pa_cons (pe_bltn (v := .ty "int") (by rfl) gInt (by decide +kernel) rfl) pa_nil)))
      (pe_and (pe_not (pe_callB call_isi (by rfl) gIsi (by decide +kernel) (pa_cons (pv 0) (pa_cons (pe_bltn (v := .ty "bool") (by rfl) gBool (by decide +kernel) rfl) pa_nil))))
      (pe_one (pe_chain op_le op_le pe_int (pv 0) pe_int))))), ?_⟩
    cases nv with
    | int i =>
      refine rd_is (b := true) (i := 0) rfl (.base (.int i)) (by decide +kernel) ⟨_, rfl, iteT ?_⟩
      refine rd_is (b := false) (i := 0) rfl (.base (.int i)) (by decide +kernel) ⟨_, rfl, _, rfl, iteT ?_⟩
      refine ⟨_, rfl, _, _, rfl, rfl, _, rfl, ite2 (fun h => ?_) (fun h => ?_)⟩
      · refine ⟨_, _, rfl, rfl, ?_⟩
        have e : keyB (some i) = decide (i ≤ 999) := by
          show (decide (0 ≤ i) && decide (i ≤ 999)) = _
          rw [show decide (0 ≤ i) = true from h]; rfl
        rw [e] at k
        exact k
      · have e : keyB (some i) = false := by
          show (decide (0 ≤ i) && decide (i ≤ 999)) = _
          rw [show decide (0 ≤ i) = false from Bool.eq_false_iff.mpr h]; rfl
        rw [e] at k
        exact k
    | no t b1 b2 ty h1 h2 h =>
      refine ⟨v, rfl, v, .ty "int", _, _, b1, rfl, .ty "int", ty, h1, b1, rfl, ?_⟩
      cases b1 with
      | false => exact iteF k
      | true =>
        refine iteT ⟨v, rfl, v, .ty "bool", _, _, b2, rfl, .ty "bool", ty, h2, b2, rfl, ?_⟩
        cases b2 with
        | false => cases h
        | true => exact ⟨_, rfl, iteF k⟩
end
end K04

end

section
set_option Elab.async false
set_option linter.all false
set_option maxRecDepth 100000
set_option maxHeartbeats 4000000
namespace K04
open PySem L2 SB
theorem all_map {os : List (Option Int)} : ((os.map keyB).all id) = os.all keyB := by
  rw [List.all_map]; rfl
section
variable {P : Program} {w : World} {K : PySem.W.Frag} {mg : Str → Option Value} {base : Heap}
structure TSet (mg : Str → Option Value) : Prop where
  isi : mg "isinstance" = none
  tup : mg "tuple" = none
  all : mg "all" = none
  len : mg "len" = none
  rng : mg "range" = none
theorem ok_set {f fK : Addr} {fd fdK : FuncData} (F : Fun K "is_key_set" "is_key_set" s_is_key_set f fd) (T : TSet mg) (gK : mg "is_key" = some (.ref fK)) (FK : FnOk P w K mg base CX0 2 fK fdK ["value"] (spKey K))
    (kK : PySem.W.keepIn K (.ref fK) = true) (bK : Binds K fdK ["value"] []) : FnOk P w K mg base CX0 3 f fd ["value"] (spSet K) := by
  refine F.ok sc_is_key_set (fun vs H Q E h => ?_) (fun cdv A outer s H vs Q E hr h => ?_)
  · obtain ⟨v, r, rfl, _⟩ := h
    rfl
  · obtain ⟨v, r, rfl, sv, k⟩ := h
    have nd := sc_is_key_set.nd
    refine ⟨_, pss_cons (ps_if (pt_not (pt_val (pe_callB call_isi (by rfl) T.isi (by decide +kernel) (pa_cons (pv 0) (pa_cons (pe_bltn (v := .ty "tuple") (by rfl) T.tup (by decide +kernel) rfl) pa_nil))))) (pss_one (ps_ret pe_bl)) pss_nil)
      (pss_cons (ps_if (pt_not (pt_val (pe_callB (cr_all rfl) (by rfl) T.all (by decide +kernel) (pa_cons (pe_lc (own := [("key", 2)]) (g := gName 2) (tt := tYes) (te := tCall (spKey K) [] E0 (tCons (tVar 2) tNil)) rfl nd (pi_tup (pv 0)) (blkOk_by (N := N_is_key_set) (sc := defScope s_is_key_set) (by decide +kernel))
          (fun _ _ _ _ _ => pg_name (i := 2) nd rfl (Or.inl rfl)) (fun _ _ _ _ _ => pts_nil) (fun _ _ _ _ _ => pe_call FK hr (by rfl) gK kK bK .nil pass0 (pa_cons (pv 2) pa_nil))) pa_nil)))) (pss_one (ps_ret pe_bl)) pss_nil)
      (pss_one (ps_ret (pe_callB (cr_all rfl) (by rfl) T.all (by decide +kernel) (pa_cons (pe_lc (own := [("at", 1)]) (g := gName 1) (tt := tYes)
          (te := tOp (rI0 fun i j => .bl (decide (i < j))) (tOp (rIxT K) (tVar 0) (tOp (rI0 fun i j => .int (i - j)) (tVar 1) (tC (.int 1)))) (tOp (rIxT K) (tVar 0) (tVar 1))) rfl nd
          (pi_range2 (by rfl) T.rng (pa_cons pe_int (pa_cons (pe_callB call_len_seq (by rfl) T.len PySem.boot_len (pa_cons (pv 0) pa_nil)) pa_nil))) (blkOk_by (N := N_is_key_set) (sc := defScope s_is_key_set) (by decide +kernel))
          (fun _ _ _ _ _ => pg_name (i := 1) nd rfl (Or.inl rfl)) (fun _ _ _ _ _ => pts_nil) (fun _ _ _ _ _ => pe_cmpR op_lt (pe_ix ix_tup (pv 0) (pe_op op_sub (pv 1) pe_int) (fun _ _ => rfl)) (pe_ix ix_tup (pv 0) (pv 1) (fun _ _ => rfl)) (nomark _))) pa_nil))))), ?_⟩
    rcases sv with ⟨t, ty, hk, rfl⟩ | ⟨a, xs, os, rfl, hs, hz, hp, rfl⟩
    · exact ⟨v, rfl, v, .ty "tuple", _, _, false, rfl, .ty "tuple", ty, hk, _, rfl, iteT (k H (Same.refl H))⟩
    · have hlen := paired_len hp
      refine ⟨_, rfl, _, .ty "tuple", _, _, true, rfl, .ty "tuple", ty_tup hs, kit_ty (by decide +kernel), _, rfl, iteF ?_⟩
      refine ⟨_, rfl, a, rfl, ⟨_, hs⟩, fun D hD => lc_tup (K := K) (a := a) (xs := xs) (fun i H' => Same H H' ∧ H' D = some (.lst (((os.take i).map keyB).map V.bl))) ⟨Same.new (Same.refl H) hD, upd_same⟩ (fun i H' _ p => sqT_same p.1 hs) (fun i x H' hx p => ?_) (fun H1 p => ?_)⟩
      · obtain ⟨s1, hd⟩ := p
        have hi : i < os.length := by rw [← hlen]; exact (List.getElem?_eq_some_iff.mp hx).1
        have ho : os[i]? = some os[i] := List.getElem?_eq_getElem hi
        refine ⟨rfl, _, rfl, x, os[i], rfl, (paired_at hp hx ho).sm s1, _, hd, ?_, (fun c o e => ?_), ?_⟩
        · rw [List.length_map, List.length_map, List.length_take, sizeLine_eq]; omega
        · have := s1 c o e
          rw [upd_ne (ne_of_none e hD)]
          exact this
        · rw [upd_same, List.take_add_one, ho, List.map_append, List.map_append]
          rfl
      · obtain ⟨s1, hd⟩ := p
        rw [List.take_of_length_le (by omega)] at hd
        refine ⟨D, os.map keyB, rfl, SqL.of hd, _, rfl, ?_⟩
        rw [all_map]
        cases hall : os.all keyB with
        | false =>
          refine iteT ?_
          have e : setB os = false := by unfold setB; rw [hall]; rfl
          rw [e] at k
          exact k H1 s1
        | true =>
          refine iteF ?_
          obtain ⟨ks, rfl, rfl⟩ := keys_all hp hall
          have hs1 := sqT_same s1 hs
          refine ⟨_, rfl, a, _, rfl, .inr hs1, 1, _, rfl, ⟨by decide, by decide, by rw [List.length_map] at hz ⊢; omega, by rw [List.length_map] at hz ⊢; omega⟩, fun D2 hD2 => ?_⟩
          have hN : (((ks.map V.int).length : Int) - 1).toNat = ks.length - 1 := by rw [List.length_map]; omega
          rw [hN]
          refine lc_range (lo := 1) (n := ks.length - 1) (fun i H' => Same H1 H' ∧ H' D2 = some (.lst (((upL (ks.map some)).take i).map V.bl))) ⟨Same.new (Same.refl H1) hD2, upd_same⟩ (fun i H' hi p => ?_) (fun H2 p => ?_)
          · obtain ⟨s2, hd2⟩ := p
            have ha : ks[i]? = some ks[i] := List.getElem?_eq_getElem (by omega)
            have hb : ks[i + 1]? = some ks[i + 1] := List.getElem?_eq_getElem (by omega)
            have hs2 := sqT_same s2 hs1
            have u := upL_at ha hb
            refine ⟨rfl, ?_⟩
            refine ⟨_, rfl, _, rfl, _, _, rfl, rfl, a, _, _, _, rfl, rfl, hs2, at_of (j := i) (by omega) (by rw [List.getElem?_map, ha]; rfl), ?_⟩
            refine ⟨_, rfl, _, rfl, a, _, _, _, rfl, rfl, hs2, at_of (j := i + 1) (by omega) (by rw [List.getElem?_map, hb]; rfl), _, _, rfl, rfl, ?_⟩
            refine ⟨_, hd2, ?_, (fun c o e => ?_), ?_⟩
            · rw [List.length_map, List.length_take, sizeLine_eq]
              rw [List.length_map] at hz
              omega
            · rw [upd_ne (ne_of_none e hD2)]
              exact s2 c o e
            · rw [upd_same, List.take_add_one, u, List.map_append]
              rfl
          · obtain ⟨s2, hd2⟩ := p
            have hl2 : (upL (ks.map some)).length = ks.length - 1 := by rw [upL_len, List.length_map]
            rw [List.take_of_length_le (by omega)] at hd2
            refine ⟨D2, upL (ks.map some), rfl, SqL.of hd2, ?_⟩
            have e : setB (ks.map some) = (upL (ks.map some)).all id := by unfold setB; rw [hall]; rfl
            rw [e] at k
            exact k H2 (s1.trans s2)
theorem ok_lset {f fK : Addr} {fd fdK : FuncData} (F : Fun K "_law_is_set" "_law_is_set" s_l_is_set f fd) (T : TSet mg) (gK : mg "_law_is_key" = some (.ref fK)) (FK : FnOk P w K mg base CX0 1 fK fdK ["_law_v"] (spKey K))
    (kK : PySem.W.keepIn K (.ref fK) = true) (bK : Binds K fdK ["_law_v"] []) : FnOk P w K mg base CX0 2 f fd ["_law_v"] (spSet K) := by
  refine F.ok sc_l_is_set (fun vs H Q E h => ?_) (fun cdv A outer s H vs Q E hr h => ?_)
  · obtain ⟨v, r, rfl, _⟩ := h
    rfl
  · obtain ⟨v, r, rfl, sv, k⟩ := h
    have nd := sc_l_is_set.nd
    refine ⟨_, pss_cons (ps_if (PW.pt (pw_or (pt_not (pt_val (pe_callB call_isi (by rfl) T.isi (by decide +kernel) (pa_cons (pv 0) (pa_cons (pe_bltn (v := .ty "tuple") (by rfl) T.tup (by decide +kernel) rfl) pa_nil)))))
      (pw_or1 (pt_not (pt_val (pe_callB (cr_all rfl) (by rfl) T.all (by decide +kernel) (pa_cons (pe_lc (own := [("_law_p", 2)]) (g := gName 2) (tt := tYes) (te := tCall (spKey K) [] E0 (tCons (tVar 2) tNil)) rfl nd (pi_tup (pv 0)) (blkOk_by (N := N_l_is_set) (sc := defScope s_l_is_set) (by decide +kernel))
          (fun _ _ _ _ _ => pg_name (i := 2) nd rfl (Or.inl rfl)) (fun _ _ _ _ _ => pts_nil) (fun _ _ _ _ _ => pe_call FK hr (by rfl) gK kK bK .nil pass0 (pa_cons (pv 2) pa_nil))) pa_nil))))))) (pss_one (ps_ret pe_bl)) pss_nil)
      (pss_one (ps_ret (pe_callB (cr_all rfl) (by rfl) T.all (by decide +kernel) (pa_cons (pe_lc (own := [("_law_n", 1)]) (g := gName 1) (tt := tYes)
          (te := tOp (rI0 fun i j => .bl (decide (i < j))) (tOp (rIxT K) (tVar 0) (tVar 1)) (tOp (rIxT K) (tVar 0) (tOp (rI0 fun i j => .int (i + j)) (tVar 1) (tC (.int 1))))) rfl nd
          (pi_range1 (by rfl) T.rng (pa_cons (pe_op op_sub (pe_callB call_len_seq (by rfl) T.len PySem.boot_len (pa_cons (pv 0) pa_nil)) pe_int) pa_nil)) (blkOk_by (N := N_l_is_set) (sc := defScope s_l_is_set) (by decide +kernel))
          (fun _ _ _ _ _ => pg_name (i := 1) nd rfl (Or.inl rfl)) (fun _ _ _ _ _ => pts_nil) (fun _ _ _ _ _ => pe_cmpR op_lt (pe_ix ix_tup (pv 0) (pv 1) (fun _ _ => rfl)) (pe_ix ix_tup (pv 0) (pe_op op_add (pv 1) pe_int) (fun _ _ => rfl)) (nomark _))) pa_nil)))), ?_⟩
    rcases sv with ⟨t, ty, hk, rfl⟩ | ⟨a, xs, os, rfl, hs, hz, hp, rfl⟩
    · exact ⟨v, rfl, v, .ty "tuple", _, _, false, rfl, .ty "tuple", ty, hk, _, rfl, iteT (iteT (k H (Same.refl H)))⟩
    · have hlen := paired_len hp
      refine ⟨_, rfl, _, .ty "tuple", _, _, true, rfl, .ty "tuple", ty_tup hs, kit_ty (by decide +kernel), _, rfl, iteF ?_⟩
      refine ⟨_, rfl, a, rfl, ⟨_, hs⟩, fun D hD => lc_tup (K := K) (a := a) (xs := xs) (fun i H' => Same H H' ∧ H' D = some (.lst (((os.take i).map keyB).map V.bl))) ⟨Same.new (Same.refl H) hD, upd_same⟩ (fun i H' _ p => sqT_same p.1 hs) (fun i x H' hx p => ?_) (fun H1 p => ?_)⟩
      · obtain ⟨s1, hd⟩ := p
        have hi : i < os.length := by rw [← hlen]; exact (List.getElem?_eq_some_iff.mp hx).1
        have ho : os[i]? = some os[i] := List.getElem?_eq_getElem hi
        refine ⟨rfl, _, rfl, x, os[i], rfl, (paired_at hp hx ho).sm s1, _, hd, ?_, (fun c o e => ?_), ?_⟩
        · rw [List.length_map, List.length_map, List.length_take, sizeLine_eq]; omega
        · have := s1 c o e
          rw [upd_ne (ne_of_none e hD)]
          exact this
        · rw [upd_same, List.take_add_one, ho, List.map_append, List.map_append]
          rfl
      · obtain ⟨s1, hd⟩ := p
        rw [List.take_of_length_le (by omega)] at hd
        refine ⟨D, os.map keyB, rfl, SqL.of hd, _, rfl, ?_⟩
        rw [all_map]
        cases hall : os.all keyB with
        | false =>
          refine iteT ?_
          have e : setB os = false := by unfold setB; rw [hall]; rfl
          rw [e] at k
          exact k H1 s1
        | true =>
          refine iteF ?_
          obtain ⟨ks, rfl, rfl⟩ := keys_all hp hall
          have hs1 := sqT_same s1 hs
          refine ⟨_, rfl, a, _, rfl, .inr hs1, _, _, rfl, rfl, _, rfl, by omega, by rw [List.length_map] at hz ⊢; omega, fun D2 hD2 => ?_⟩
          have hN : (((ks.map V.int).length : Int) - 1).toNat = ks.length - 1 := by rw [List.length_map]; omega
          rw [hN]
          refine lc_range (lo := 0) (n := ks.length - 1) (fun i H' => Same H1 H' ∧ H' D2 = some (.lst (((upL (ks.map some)).take i).map V.bl))) ⟨Same.new (Same.refl H1) hD2, upd_same⟩ (fun i H' hi p => ?_) (fun H2 p => ?_)
          · obtain ⟨s2, hd2⟩ := p
            have ha : ks[i]? = some ks[i] := List.getElem?_eq_getElem (by omega)
            have hb : ks[i + 1]? = some ks[i + 1] := List.getElem?_eq_getElem (by omega)
            have hs2 := sqT_same s2 hs1
            have u := upL_at ha hb
            refine ⟨rfl, ?_⟩
            refine ⟨_, rfl, _, rfl, a, _, _, _, rfl, rfl, hs2, at_of (j := i) (by omega) (by rw [List.getElem?_map, ha]; rfl), ?_⟩
            refine ⟨_, rfl, _, rfl, _, _, rfl, rfl, a, _, _, _, rfl, rfl, hs2, at_of (j := i + 1) (by omega) (by rw [List.getElem?_map, hb]; rfl), _, _, rfl, rfl, ?_⟩
            refine ⟨_, hd2, ?_, (fun c o e => ?_), ?_⟩
            · rw [List.length_map, List.length_take, sizeLine_eq]
              rw [List.length_map] at hz
              omega
            · rw [upd_ne (ne_of_none e hD2)]
              exact s2 c o e
            · rw [upd_same, List.take_add_one, u, List.map_append]
              rfl
          · obtain ⟨s2, hd2⟩ := p
            have hl2 : (upL (ks.map some)).length = ks.length - 1 := by rw [upL_len, List.length_map]
            rw [List.take_of_length_le (by omega)] at hd2
            refine ⟨D2, upL (ks.map some), rfl, SqL.of hd2, ?_⟩
            have e : setB (ks.map some) = (upL (ks.map some)).all id := by unfold setB; rw [hall]; rfl
            rw [e] at k
            exact k H2 (s1.trans s2)
theorem ok_lot {f fS : Addr} {fd fdS : FuncData} (F : Fun K "is_lot" "is_lot" s_is_lot f fd) (gLen : mg "len" = none) (gS : mg "is_key_set" = some (.ref fS)) (FS : FnOk P w K mg base CX0 3 fS fdS ["value"] (spSet K))
    (kS : PySem.W.keepIn K (.ref fS) = true) (bS : Binds K fdS ["value"] []) : FnOk P w K mg base CX0 4 f fd ["value"] (spLot K) := by
  refine F.ok sc_is_lot (fun vs H Q E h => ?_) (fun cdv A outer s H vs Q E hr h => ?_)
  · obtain ⟨v, r, rfl, _⟩ := h
    rfl
  · obtain ⟨v, r, rfl, lv, k⟩ := h
    refine ⟨_, pss_one (ps_ret (pe_and (pe_call FS hr (by rfl) gS kS bS .nil pass0 (pa_cons (pv 0) pa_nil)) (pe_one (pe_cmpR op_gt (pe_callB call_len_seq (by rfl) gLen PySem.boot_len (pa_cons (pv 0) pa_nil)) pe_int (nomark _))))), ?_⟩
    rcases lv with ⟨t, ty, hk, rfl⟩ | ⟨a, xs, os, rfl, hs, hz, hp, rfl⟩
    · exact ⟨v, rfl, v, false, rfl, .inl ⟨t, ty, hk, rfl⟩, fun H' s' => ⟨_, rfl, iteF (k H' s')⟩⟩
    · refine ⟨_, rfl, _, setB os, rfl, .inr ⟨a, xs, os, rfl, hs, hz, hp, rfl⟩, fun H' s' => ⟨_, rfl, ?_⟩⟩
      cases e : setB os with
      | false =>
        rw [e] at k
        exact iteF (k H' s')
      | true =>
        rw [e] at k
        refine iteT ⟨_, rfl, a, _, rfl, .inr (sqT_same s' hs), _, _, rfl, rfl, ?_⟩
        have e2 : decide ((0 : Int) < ((xs.length : Nat) : Int)) = (true && decide (0 < xs.length)) := by
          by_cases h0 : 0 < xs.length
          · have : (0 : Int) < ((xs.length : Nat) : Int) := by omega
            simp [h0]
          · have : ¬ (0 : Int) < ((xs.length : Nat) : Int) := by omega
            simp [h0]
        have k' := k H' s'
        rw [← e2] at k'
        exact k'
theorem ok_lives {f fK : Addr} {fd fdK : FuncData} (F : Fun K "lives_in" "lives_in" s_lives_in f fd) (gK : mg "is_key" = some (.ref fK)) (FK : FnOk P w K mg base CX0 2 fK fdK ["value"] (spKey K))
    (kK : PySem.W.keepIn K (.ref fK) = true) (bK : Binds K fdK ["value"] []) : FnOk P w K mg base CX0 3 f fd ["living", "value"] (spLive K) := by
  refine F.ok sc_lives_in (fun vs H Q E h => ?_) (fun cdv A outer s H vs Q E hr h => ?_)
  · obtain ⟨p, ks, v, o, rfl, _⟩ := h
    rfl
  · obtain ⟨p, ks, v, o, rfl, hs, nv, k⟩ := h
    refine ⟨_, pss_one (ps_ret (pe_and (pe_call FK hr (by rfl) gK kK bK .nil pass0 (pa_cons (pv 1) pa_nil)) (pe_one (pe_cmpR op_in_seq (pv 1) (pv 0) (by rfl))))), ?_⟩
    refine ⟨_, rfl, v, o, rfl, nv, _, rfl, ?_⟩
    cases nv with
    | no t b1 b2 ty h1 h2 h => exact iteF k
    | int i =>
      cases e : keyB (some i) with
      | false =>
        have k : Q (.bl (keyB (some i) && decide (i ∈ ks))) H := k
        rw [e] at k
        exact iteF k
      | true =>
        have k : Q (.bl (keyB (some i) && decide (i ∈ ks))) H := k
        rw [e] at k
        refine iteT ⟨_, rfl, _, rfl, p, _, rfl, .inr hs, rfl, flat_ints ks, ?_⟩
        rw [if_neg (by decide), inV_ints]
        exact k
end
end K04

end

section
set_option Elab.async false
set_option linter.all false
set_option maxRecDepth 100000
set_option maxHeartbeats 4000000
namespace K04
open PySem L2 SB
abbrev bmLE : List Value := [.type "LookupError", .type "Exception", .type "BaseException", .type "object"]
abbrev bmVE : List Value := [.type "ValueError", .type "Exception", .type "BaseException", .type "object"]
structure Lim12 (K : PySem.W.Frag) (w : World) (mg : Str → Option Value) (L : Addr) : Prop where
  g : mg "LIMITS" = some (.ref L)
  d : ∃ es n, KDict K w L es n
  look : ∃ t, PySem.W.nsIn K L "keys" = some (some (.int 12 t))
def spLim12 : Sp := fun vs H Q _ => vs = [.str "keys"] ∧ Q (.int 12) H
def spChk12 (CT : Addr) : Sp := fun vs H Q E => ∃ c, vs = [.str "keys", .int c] ∧ (c ≤ 12 → Q .non H) ∧ (12 < c → ∀ d, H d = none → E (.ref CT) (some d) (upd H d (.xd (fs2 "TooMany" "what" "count" [.str "keys", .int c]))))
def spCk (K : PySem.W.Frag) (CU : Addr) : Sp := fun vs H Q E => ∃ p ks v o, vs = [.ref p, v] ∧ SqT K H p (ks.map V.int) ∧ NV K H v o ∧ (liveB ks o = true → Q .non H) ∧ (liveB ks o = false → ∀ d, H d = none → E (.ref CU) (some d) (upd H d (.xd (fs1 "UnknownKey" "key" [v]))))
def strange (ks ls : List Int) : Option Int := ls.find? fun z => !liveB ks (some z)
def spCkAll (K : PySem.W.Frag) (CU : Addr) : Sp := fun vs H Q E => ∃ p q ks ls, vs = [.ref p, .ref q] ∧ SqT K H p (ks.map V.int) ∧ SqT K H q (ls.map V.int) ∧ (strange ks ls = none → Q .non H) ∧
  ∀ z, strange ks ls = some z → ∀ d, H d = none → E (.ref CU) (some d) (upd H d (.xd (fs1 "UnknownKey" "key" [.int z])))
def spNear (K : PySem.W.Frag) : Sp := fun vs H Q _ => ∃ p ks k, vs = [.ref p, .int k] ∧ SqT K H p (ks.map V.int) ∧ ks.length ≤ 1000 ∧ ∀ t H', H t = none → Same H H' → H' t = some (.tup [lowV ks k, highV ks k]) → Q (.ref t) H'
section
variable {P : Program} {w : World} {K : PySem.W.Frag} {mg : Str → Option Value} {base : Heap}
theorem ok_lim {f L : Addr} {fd : FuncData} (F : Fun K "limit_of" "limit_of" s_limit_of f fd) (gI : mg "isinstance" = none) (gS : mg "str" = none) (L0 : Lim12 K w mg L) : FnOk P w K mg base CX0 1 f fd ["what"] spLim12 := by
  obtain ⟨es, n, D⟩ := L0.d
  obtain ⟨t, e2⟩ := L0.look
  refine F.ok sc_limit_of (fun vs H Q E h => ?_) (fun cdv A outer s H vs Q E hr h => ?_)
  · obtain ⟨rfl, _⟩ := h
    rfl
  · obtain ⟨rfl, q⟩ := h
    refine ⟨_, pss_cons (ps_if (PW.pt (pw_or (pt_not (pt_val (pe_callB call_isi (by rfl) gI (by decide +kernel) (pa_cons (pv 0) (pa_cons (pe_bltn (v := .ty "str") (by rfl) gS (by decide +kernel) rfl) pa_nil)))))
        (pw_or1 (pt_cmpR (op_notIn_kd D) (pv 0) (pe_glob (v := .ref L) (by rfl) L0.g rfl) (by rfl))))) pss_dead pss_nil)
      (pss_one (ps_ret (pe_ix ix_kdict (pe_glob (v := .ref L) (by rfl) L0.g rfl) (pv 0) (fun _ _ => rfl)))), ?_⟩
    refine rd_is (b := true) (i := 0) rfl (.base (.str _)) (by decide +kernel) ⟨_, rfl, iteF ?_⟩
    refine ⟨_, rfl, _, _, rfl, rfl, e2, _, rfl, iteF ?_⟩
    exact ⟨_, rfl, L, _, .int 12, rfl, rfl, ⟨es, n, _, D.at_, D.lit, e2, ⟨t, rfl⟩⟩, q⟩
theorem ok_initT {f C : Addr} {fd : FuncData} (F : Fun K "__init__" "TooMany.__init__" s_TooMany_init f fd) (X : XFacts K mg "TooMany" C f bmVE "ValueError.__new__") (nW : PySem.W.findIn K (.ref C) "what" = some none) (nF : PySem.W.findIn K (.ref C) "count" = some none) :
    FnOk P w K mg base CX0 1 f fd ["self", "what", "count"] (spX C 2 (fs2 "TooMany" "what" "count")) := by
  refine F.ok sc_TooMany_init (fun vs H Q E h => ?_) (fun cdv A outer s H vs Q E hr h => ?_)
  · obtain ⟨a, ws, rfl, hl, _⟩ := h
    simpa using hl
  · obtain ⟨a, ws, rfl, hl, ha, k⟩ := h
    obtain ⟨x, y, rfl⟩ : ∃ x y, ws = [x, y] := by
      match ws, hl with
      | [x, y], _ => exact ⟨x, y, rfl⟩
    refine ⟨_, pss_cons (ps_put PySem.F.store_ValueError X.T X.nC (pv 0) pe_str) (pss_cons (ps_put PySem.F.store_ValueError X.T nW (pv 0) (pv 1)) (pss_one (ps_put PySem.F.store_ValueError X.T nF (pv 0) (pv 2)))), ?_⟩
    refine ⟨_, rfl, a, rfl, .inl ⟨ha, fun d hd hda => ?_⟩⟩
    have had : a ≠ d := fun e => hda e.symm
    refine ⟨_, rfl, _, rfl, a, rfl, .inr ⟨d, _, upd_same, by rw [upd_ne hda, upd_same], by decide, ?_⟩⟩
    refine ⟨_, rfl, _, rfl, a, rfl, .inr ⟨d, _, by rw [upd_ne had, upd_same], upd_same, (by show 2 ≤ 900; decide), ?_⟩⟩
    refine k d _ hd hda (by rw [upd_ne had, upd_ne had, upd_same]) upd_same fun c h1 h2 => ?_
    rw [upd_ne h2, upd_ne h2, upd_ne h1, upd_ne h2]
theorem ok_initN {f C : Addr} {fd : FuncData} (F : Fun K "__init__" "NeighbourMissed.__init__" s_NeighbourMissed_init f fd) (X : XFacts K mg "NeighbourMissed" C f bmVE "ValueError.__new__") (nW : PySem.W.findIn K (.ref C) "key" = some none) (nF : PySem.W.findIn K (.ref C) "neighbour" = some none) :
    FnOk P w K mg base CX0 1 f fd ["self", "key", "neighbour"] (spX C 2 (fs2 "NeighbourMissed" "key" "neighbour")) := by
  refine F.ok sc_NeighbourMissed_init (fun vs H Q E h => ?_) (fun cdv A outer s H vs Q E hr h => ?_)
  · obtain ⟨a, ws, rfl, hl, _⟩ := h
    simpa using hl
  · obtain ⟨a, ws, rfl, hl, ha, k⟩ := h
    obtain ⟨x, y, rfl⟩ : ∃ x y, ws = [x, y] := by
      match ws, hl with
      | [x, y], _ => exact ⟨x, y, rfl⟩
    refine ⟨_, pss_cons (ps_put PySem.F.store_ValueError X.T X.nC (pv 0) pe_str) (pss_cons (ps_put PySem.F.store_ValueError X.T nW (pv 0) (pv 1)) (pss_one (ps_put PySem.F.store_ValueError X.T nF (pv 0) (pv 2)))), ?_⟩
    refine ⟨_, rfl, a, rfl, .inl ⟨ha, fun d hd hda => ?_⟩⟩
    have had : a ≠ d := fun e => hda e.symm
    refine ⟨_, rfl, _, rfl, a, rfl, .inr ⟨d, _, upd_same, by rw [upd_ne hda, upd_same], by decide, ?_⟩⟩
    refine ⟨_, rfl, _, rfl, a, rfl, .inr ⟨d, _, by rw [upd_ne had, upd_same], upd_same, (by show 2 ≤ 900; decide), ?_⟩⟩
    refine k d _ hd hda (by rw [upd_ne had, upd_ne had, upd_same]) upd_same fun c h1 h2 => ?_
    rw [upd_ne h2, upd_ne h2, upd_ne h1, upd_ne h2]
theorem ok_initU {f C : Addr} {fd : FuncData} (F : Fun K "__init__" "UnknownKey.__init__" s_UnknownKey_init f fd) (X : XFacts K mg "UnknownKey" C f bmLE "LookupError.__new__") (nF : PySem.W.findIn K (.ref C) "key" = some none) :
    FnOk P w K mg base CX0 1 f fd ["self", "key"] (spX C 1 (fs1 "UnknownKey" "key")) := by
  refine F.ok sc_UnknownKey_init (fun vs H Q E h => ?_) (fun cdv A outer s H vs Q E hr h => ?_)
  · obtain ⟨a, ws, rfl, hl, _⟩ := h
    simpa using hl
  · obtain ⟨a, ws, rfl, hl, ha, k⟩ := h
    obtain ⟨x, rfl⟩ : ∃ x, ws = [x] := by
      match ws, hl with
      | [x], _ => exact ⟨x, rfl⟩
    refine ⟨_, pss_cons (ps_put PySem.F.store_LookupError X.T X.nC (pv 0) pe_str) (pss_one (ps_put PySem.F.store_LookupError X.T nF (pv 0) (pv 1))), ?_⟩
    refine ⟨_, rfl, a, rfl, .inl ⟨ha, fun d hd hda => ?_⟩⟩
    have had : a ≠ d := fun e => hda e.symm
    refine ⟨_, rfl, _, rfl, a, rfl, .inr ⟨d, _, upd_same, by rw [upd_ne hda, upd_same], by decide, ?_⟩⟩
    refine k d _ hd hda (by rw [upd_ne had, upd_same]) upd_same fun c h1 h2 => ?_
    rw [upd_ne h2, upd_ne h1, upd_ne h2]
theorem ok_initA {f C : Addr} {fd : FuncData} (F : Fun K "__init__" "AlreadyLiving.__init__" s_AlreadyLiving_init f fd) (X : XFacts K mg "AlreadyLiving" C f bmVE "ValueError.__new__") (nF : PySem.W.findIn K (.ref C) "key" = some none) :
    FnOk P w K mg base CX0 1 f fd ["self", "key"] (spX C 1 (fs1 "AlreadyLiving" "key")) := by
  refine F.ok sc_AlreadyLiving_init (fun vs H Q E h => ?_) (fun cdv A outer s H vs Q E hr h => ?_)
  · obtain ⟨a, ws, rfl, hl, _⟩ := h
    simpa using hl
  · obtain ⟨a, ws, rfl, hl, ha, k⟩ := h
    obtain ⟨x, rfl⟩ : ∃ x, ws = [x] := by
      match ws, hl with
      | [x], _ => exact ⟨x, rfl⟩
    refine ⟨_, pss_cons (ps_put PySem.F.store_ValueError X.T X.nC (pv 0) pe_str) (pss_one (ps_put PySem.F.store_ValueError X.T nF (pv 0) (pv 1))), ?_⟩
    refine ⟨_, rfl, a, rfl, .inl ⟨ha, fun d hd hda => ?_⟩⟩
    have had : a ≠ d := fun e => hda e.symm
    refine ⟨_, rfl, _, rfl, a, rfl, .inr ⟨d, _, upd_same, by rw [upd_ne hda, upd_same], by decide, ?_⟩⟩
    refine k d _ hd hda (by rw [upd_ne had, upd_same]) upd_same fun c h1 h2 => ?_
    rw [upd_ne h2, upd_ne h1, upd_ne h2]
theorem ok_initR {f C : Addr} {fd : FuncData} (F : Fun K "__init__" "InvalidRow.__init__" s_InvalidRow_init f fd) (X : XFacts K mg "InvalidRow" C f bmVE "ValueError.__new__") (nF : PySem.W.findIn K (.ref C) "at" = some none) :
    FnOk P w K mg base CX0 1 f fd ["self", "at"] (spX C 1 (fs1 "InvalidRow" "at")) := by
  refine F.ok sc_InvalidRow_init (fun vs H Q E h => ?_) (fun cdv A outer s H vs Q E hr h => ?_)
  · obtain ⟨a, ws, rfl, hl, _⟩ := h
    simpa using hl
  · obtain ⟨a, ws, rfl, hl, ha, k⟩ := h
    obtain ⟨x, rfl⟩ : ∃ x, ws = [x] := by
      match ws, hl with
      | [x], _ => exact ⟨x, rfl⟩
    refine ⟨_, pss_cons (ps_put PySem.F.store_ValueError X.T X.nC (pv 0) pe_str) (pss_one (ps_put PySem.F.store_ValueError X.T nF (pv 0) (pv 1))), ?_⟩
    refine ⟨_, rfl, a, rfl, .inl ⟨ha, fun d hd hda => ?_⟩⟩
    have had : a ≠ d := fun e => hda e.symm
    refine ⟨_, rfl, _, rfl, a, rfl, .inr ⟨d, _, upd_same, by rw [upd_ne hda, upd_same], by decide, ?_⟩⟩
    refine k d _ hd hda (by rw [upd_ne had, upd_same]) upd_same fun c h1 h2 => ?_
    rw [upd_ne h2, upd_ne h1, upd_ne h2]
theorem ok_chk {f CT fT fU L : Addr} {fd fdU fdT : FuncData} (F : Fun K "check_limit" "check_limit" s_check_limit f fd) (gU : mg "limit_of" = some (.ref fU)) (kU : PySem.W.keepIn K (.ref fU) = true) (bU : Binds K fdU ["what"] [])
    (GU : FnOk P w K mg base CX0 1 fU fdU ["what"] spLim12) (X : XFacts K mg "TooMany" CT fT bmVE "ValueError.__new__") (G : FnOk P w K mg base CX0 1 fT fdT ["self", "what", "count"] (spX CT 2 (fs2 "TooMany" "what" "count"))) (bT : Binds K fdT ["self", "what", "count"] []) :
    FnOk P w K mg base (L2.CX P w) 3 f fd ["what", "count"] (spChk12 CT) := by
  refine F.okX sc_check_limit (fun vs H Q E h => ?_) (fun cdv A outer s H vs Q E hr h => ?_)
  · obtain ⟨c, rfl, _⟩ := h
    rfl
  · obtain ⟨c, rfl, q1, q2⟩ := h
    refine ⟨_, pss_one (ps_if (pt_cmpR op_gt (pv 1) (pe_call GU (hr.mono (by decide)) (by rfl) gU kU bU .nil pass0 (pa_cons (pv 0) pa_nil)) (nomark _))
        (pss_one (ps_raise rfl (takes_of rfl rfl rfl rfl) (pmk_exg PySem.F.excBase_ValueError X.T X.iC X.tI G hr bT .nil pass0 (by rfl) X.g (pa_cons (pv 0) (pa_cons (pv 1) pa_nil))))) pss_nil), ?_⟩
    refine ⟨_, rfl, _, rfl, rfl, _, _, rfl, rfl, _, rfl, ite2 (fun h => ?_) (fun h => ?_)⟩
    · exact ⟨_, rfl, _, rfl, rd_raise rfl (by decide) (q2 (of_decide_eq_true h))⟩
    · exact q1 (by have := of_decide_eq_false (Bool.eq_false_iff.mpr h); omega)
theorem ok_ck {f CU fI fL : Addr} {fd fdL fdI : FuncData} (F : Fun K "check_lives" "check_lives" s_check_lives f fd) (gL : mg "lives_in" = some (.ref fL)) (FL : FnOk P w K mg base CX0 3 fL fdL ["living", "value"] (spLive K)) (kL : PySem.W.keepIn K (.ref fL) = true) (bL : Binds K fdL ["living", "value"] [])
    (X : XFacts K mg "UnknownKey" CU fI bmLE "LookupError.__new__") (G : FnOk P w K mg base CX0 1 fI fdI ["self", "key"] (spX CU 1 (fs1 "UnknownKey" "key"))) (bI : Binds K fdI ["self", "key"] []) :
    FnOk P w K mg base (L2.CX P w) 4 f fd ["living", "value"] (spCk K CU) := by
  refine F.okX sc_check_lives (fun vs H Q E h => ?_) (fun cdv A outer s H vs Q E hr h => ?_)
  · obtain ⟨p, ks, v, o, rfl, _⟩ := h
    rfl
  · obtain ⟨p, ks, v, o, rfl, hs, nv, q1, q2⟩ := h
    refine ⟨_, pss_one (ps_if (pt_not (pt_val (pe_call FL hr (by rfl) gL kL bL .nil pass0 (pa_cons (pv 0) (pa_cons (pv 1) pa_nil)))))
        (pss_one (ps_raise rfl (takes_of rfl rfl rfl rfl) (pmk_exg PySem.F.excBase_LookupError X.T X.iC X.tI G (hr.mono (by decide)) bI .nil pass0 (by rfl) X.g (pa_cons (pv 1) pa_nil)))) pss_nil), ?_⟩
    refine ⟨_, rfl, _, rfl, p, ks, v, o, rfl, hs, nv, _, rfl, ?_⟩
    cases e : liveB ks o with
    | true => exact iteF (q1 e)
    | false => exact iteT ⟨_, rfl, rd_raise rfl (by decide) (q2 e)⟩
theorem ok_ckall {f CU fC : Addr} {fd fdC : FuncData} (F : Fun K "check_all_live" "check_all_live" s_check_all_live f fd) (gC : mg "check_lives" = some (.ref fC)) (FC : FnOk P w K mg base (L2.CX P w) 4 fC fdC ["living", "value"] (spCk K CU)) (kC : PySem.W.keepIn K (.ref fC) = true) (bC : Binds K fdC ["living", "value"] []) :
    FnOk P w K mg base (L2.CX P w) 5 f fd ["living", "lot"] (spCkAll K CU) := by
  refine F.okX sc_check_all_live (fun vs H Q E h => ?_) (fun cdv A outer s H vs Q E hr h => ?_)
  · obtain ⟨p, q, ks, ls, rfl, _⟩ := h
    rfl
  · obtain ⟨p, q, ks, ls, rfl, hs, hl, q1, q2⟩ := h
    have nd := sc_check_all_live.nd
    refine ⟨_, pss_one (ps_for (passes_of rfl) rfl (pi_tup (pv 1)) (pg_name (i := 2) nd rfl (Or.inl rfl))
      (pss_one (ps_expr (pe_call FC hr (by rfl) gC kC bC .nil (passes_call (takes_of rfl rfl rfl rfl) (fun _ _ _ _ z => z)) (pa_cons (pv 0) (pa_cons (pv 2) pa_nil)))))), ?_⟩
    refine ⟨_, rfl, q, rfl, ⟨_, hl⟩, for_tup (K := K) (a := q) (xs := ls.map V.int) (fun i σ H' => H' = H ∧ (∃ z, σ = [some (.ref p), some (.ref q), z]) ∧ ∀ x ∈ ls.take i, (!liveB ks (some x)) = false)
      ⟨rfl, ⟨_, rfl⟩, fun x hx => by simp at hx⟩ (fun i σ H' _ h => by rw [h.1]; exact hl) ?_ ?_⟩
    · rintro i x σ H' hx ⟨rfl, ⟨z, rfl⟩, hp⟩
      obtain ⟨k, rfl, hk⟩ := ints_at hx
      refine ⟨_, rfl, _, rfl, p, ks, _, some k, rfl, hs, .int k, fun e => ?_, fun e d hd => ?_⟩
      · refine ⟨rfl, ⟨_, rfl⟩, fun x hx => ?_⟩
        rw [List.take_add_one, hk] at hx
        rcases List.mem_append.mp hx with hx | hx
        · exact hp x hx
        · have : x = k := by simpa using hx
          rw [this, e]; rfl
      · exact q2 k (find_at hp hk (by rw [e]; rfl)) d hd
    · rintro σ H' ⟨rfl, ⟨z, rfl⟩, hp⟩
      rw [List.length_map, List.take_length] at hp
      exact q1 (find_no hp)
theorem ok_near {f : Addr} {fd : FuncData} (F : Fun K "neighbours_of" "neighbours_of" s_neighbours_of f fd) : FnOk P w K mg base CX0 1 f fd ["living", "key"] (spNear K) := by
  refine F.ok sc_neighbours_of (fun vs H Q E h => ?_) (fun cdv A outer s H vs Q E hr h => ?_)
  · obtain ⟨p, ks, k, rfl, _⟩ := h
    rfl
  · obtain ⟨p, ks, k, rfl, hs, hz, kk⟩ := h
    have nd := sc_neighbours_of.nd
    refine ⟨_, pss_cons (ps_setLc (i := 2) (own := [("other", 4)]) (g := gName 4) (tt := tTest (tOp (rI0 fun i j => .bl (decide (i < j))) (tVar 4) (tVar 1))) (te := tVar 4) rfl nd rfl rfl (sw_true rfl rfl rfl (by decide +kernel)) (pi_tup (pv 0)) (blkOk_by (N := N_neighbours_of) (sc := defScope s_neighbours_of) (by decide +kernel))
        (fun _ _ _ _ _ => pg_name (i := 4) nd rfl (Or.inl rfl)) (fun _ _ _ _ _ => pts_one (pt_cmpR op_lt (pv 4) (pv 1) (nomark _))) (fun _ _ _ _ _ => pv 4))
      (pss_cons (ps_setLc (i := 3) (own := [("other", 4)]) (g := gName 4) (tt := tTest (tOp (rI0 fun i j => .bl (decide (i > j))) (tVar 4) (tVar 1))) (te := tVar 4) rfl nd rfl rfl (sw_true rfl rfl rfl (by decide +kernel)) (pi_tup (pv 0)) (blkOk_by (N := N_neighbours_of) (sc := defScope s_neighbours_of) (by decide +kernel))
        (fun _ _ _ _ _ => pg_name (i := 4) nd rfl (Or.inl rfl)) (fun _ _ _ _ _ => pts_one (pt_cmpR op_gt (pv 4) (pv 1) (nomark _))) (fun _ _ _ _ _ => pv 4))
      (pss_one (ps_ret (pe_tup (pa_cons (pe_ifExp (pt_truth (pv 2) (fun _ => rfl)) (pe_ix ix_list (pv 2) (pe_un un_neg pe_int) (fun _ _ => rfl)) pe_non)
        (pa_cons (pe_ifExp (pt_truth (pv 3) (fun _ => rfl)) (pe_ix ix_list (pv 3) pe_int (fun _ _ => rfl)) pe_non) pa_nil)))))), ?_⟩
    refine ⟨_, rfl, p, rfl, ⟨_, hs⟩, fun D1 hD1 => filt_tup (fun z => decide (z < k)) hs hD1 (by omega) (fun z H' R S hz s1 r1 r2 => ?_) (fun H1 s1 h1 => ?_)⟩
    · exact ⟨rfl, _, rfl, _, rfl, _, _, rfl, rfl, _, rfl, ite2 (fun e => ⟨_, rfl, r1 e⟩) (fun e => r2 (Bool.eq_false_iff.mpr e))⟩
    refine ⟨_, rfl, p, rfl, ⟨_, sqT_same s1 hs⟩, fun D2 hD2 => filt_tup (fun z => decide (z > k)) (sqT_same s1 hs) hD2 (by omega) (fun z H' R S hz s1 r1 r2 => ?_) (fun H2 s2 h2 => ?_)⟩
    · exact ⟨rfl, _, rfl, _, rfl, _, _, rfl, rfl, _, rfl, ite2 (fun e => ⟨_, rfl, r1 e⟩) (fun e => r2 (Bool.eq_false_iff.mpr e))⟩
    have h1' := s2 _ _ h1
    have fin : ∀ u v : V, u = lowV ks k → v = highV ks k → [u, v].length ≤ sizeLine ∧ ∀ t, H2 t = none → Q (.ref t) (upd H2 t (.tup [u, v])) := fun u v e1 e2 => by
      subst e1 e2
      refine ⟨(by show 2 ≤ sizeLine; decide), fun t ht => kk t _ ?_ (Same.new (s1.trans s2) ht) upd_same⟩
      cases e : H t with
      | none => rfl
      | some o => rw [s2 _ _ (s1 _ _ e)] at ht; cases ht
    rcases low_cases ks k with ⟨e1, e2⟩ | ⟨B, z, e1, e2⟩
    · rw [e1] at h1'
      refine ⟨_, rfl, _, .inl ⟨_, SqL.of h1', rfl⟩, iteF ?_⟩
      rcases high_cases ks k with ⟨g1, g2⟩ | ⟨y, C, g1, g2⟩
      · rw [g1] at h2
        exact ⟨_, rfl, _, .inl ⟨_, SqL.of h2, rfl⟩, iteF (fin _ _ e2.symm g2.symm)⟩
      · rw [g1] at h2
        exact ⟨_, rfl, _, .inl ⟨_, SqL.of h2, rfl⟩, iteT ⟨_, rfl, D2, _, _, _, rfl, rfl, SqL.of h2, at_of (j := 0) rfl rfl, fin _ _ e2.symm g2.symm⟩⟩
    · rw [e1] at h1'
      refine ⟨_, rfl, true, .inl ⟨_, SqL.of h1', by simp⟩, iteT ⟨_, rfl, _, rfl, D1, _, _, _, rfl, rfl, SqL.of h1', by rw [List.map_append]; exact atI_last _ _, ?_⟩⟩
      rcases high_cases ks k with ⟨g1, g2⟩ | ⟨y, C, g1, g2⟩
      · rw [g1] at h2
        exact ⟨_, rfl, _, .inl ⟨_, SqL.of h2, rfl⟩, iteF (fin _ _ e2.symm g2.symm)⟩
      · rw [g1] at h2
        exact ⟨_, rfl, _, .inl ⟨_, SqL.of h2, rfl⟩, iteT ⟨_, rfl, D2, _, _, _, rfl, rfl, SqL.of h2, at_of (j := 0) rfl rfl, fin _ _ e2.symm g2.symm⟩⟩
end
end K04

end

section
set_option Elab.async false
set_option linter.all false
set_option maxRecDepth 100000
set_option maxHeartbeats 4000000
namespace K04
open PySem L2 SB
def mV : Option Int → V
  | some k => .int k
  | none => .non
def rowF (q : Addr) (up dn : Option Int) : List (Str × V) := putF "going" (mV dn) (putF "coming" (mV up) (putF "lot" (.ref q) []))
/-- a row at r: its lot at q -/
def RowAt (C : Addr) (H : Hp) (r q : Addr) (up dn : Option Int) : Prop := ∃ dx, H r = some (.ins C dx (rowF q up dn))
/-- a lot with marks that may stand there -/
structure Lot (ls : List Int) (up dn : Option Int) : Prop where
  ks : KSet ls
  ne : 0 < ls.length
  few : ls.length ≤ 1000
  u : ∀ k, up = some k → k ∈ ls
  d : ∀ k, dn = some k → up = none ∧ k ∈ ls
structure RowC (K : PySem.W.Frag) (C : Addr) : Prop where
  cl : Cls K C
  nL : NoAttr K C "lot"
  nC : NoAttr K C "coming"
  nG : NoAttr K C "going"
def spRow (K : PySem.W.Frag) (C : Addr) : Sp := fun vs H Q _ => ∃ r dx q ls up dn, vs = [.ref r, .ref q, mV up, mV dn] ∧ H r = some (.ins C dx []) ∧ SqT K H q (ls.map V.int) ∧ Lot ls up dn ∧
  ∀ H', H' r = some (.ins C dx (rowF q up dn)) → Keep r H H' → Q .non H'
theorem lot_lv {K : PySem.W.Frag} {H : Hp} {q : Addr} {ls : List Int} {up dn : Option Int} (L : Lot ls up dn) (hs : SqT K H q (ls.map V.int)) : LV K H (.ref q) true := by
  refine .inr ⟨q, ls.map V.int, ls.map some, rfl, hs, by rw [List.length_map]; have := L.few; omega, ?_, ?_⟩
  · clear hs L
    induction ls with
    | nil => exact .nil
    | cons a r ih => exact .cons (.int a) ih
  · rw [setB_ks L.ks, List.length_map, decide_eq_true L.ne]; rfl
section
variable {P : Program} {w : World} {K : PySem.W.Frag} {mg : Str → Option Value} {base : Heap}
theorem ok_row {f C fL fV : Addr} {fd fdL fdV : FuncData} (F : FunD K "__init__" "Row.__init__" (defArgs s_Row_init) (defBody s_Row_init) (defScope s_Row_init) [] [("coming", .non), ("going", .non)] f fd) (T : RowC K C)
    (gL : mg "is_lot" = some (.ref fL)) (FL : FnOk P w K mg base CX0 4 fL fdL ["value"] (spLot K)) (kL : PySem.W.keepIn K (.ref fL) = true) (bL : Binds K fdL ["value"] [])
    (gV : mg "lives_in" = some (.ref fV)) (FV : FnOk P w K mg base CX0 3 fV fdV ["living", "value"] (spLive K)) (kV : PySem.W.keepIn K (.ref fV) = true) (bV : Binds K fdV ["living", "value"] []) :
    FnOk P w K mg base CX0 5 f fd ["self", "lot", "coming", "going"] (spRow K C) := by
  refine F.ok sc_Row_init (fun vs H Q E h => ?_) (fun cdv A outer s H vs Q E hr h => ?_)
  · obtain ⟨r, dx, q, ls, up, dn, rfl, _⟩ := h
    rfl
  · obtain ⟨r, dx, q, ls, up, dn, rfl, hr0, hs, L, k⟩ := h
    refine ⟨_, pss_cons (ps_if (pt_not (pt_val (pe_call FL hr (by rfl) gL kL bL .nil pass0 (pa_cons (pv 1) pa_nil)))) pss_dead pss_nil)
      (pss_cons (ps_if (PW.pt (pw_and (pt_cmpR op_notN (pv 2) pe_non (nomark _)) (pw_and1 (pt_not (pt_val (pe_call FV (hr.mono (by decide)) (by rfl) gV kV bV .nil pass0 (pa_cons (pv 1) (pa_cons (pv 2) pa_nil)))))))) pss_dead pss_nil)
      (pss_cons (ps_if (PW.pt (pw_and (pt_cmpR op_notN (pv 3) pe_non (nomark _)) (pw_and1 (PW.pt (pw_or (pt_cmpR op_notN (pv 2) pe_non (nomark _)) (pw_or1 (pt_not (pt_val (pe_call FV (hr.mono (by decide)) (by rfl) gV kV bV .nil pass0 (pa_cons (pv 1) (pa_cons (pv 3) pa_nil)))))))))))
        pss_dead pss_nil)
      (pss_cons (ps_fld (pv 0) (pv 1) rfl) (pss_cons (ps_fld (pv 0) (pv 2) rfl) (pss_one (ps_fld (pv 0) (pv 3) rfl)))))), ?_⟩
    refine ⟨_, rfl, .ref q, true, rfl, lot_lv L hs, fun H1 s1 => ⟨_, rfl, iteF ?_⟩⟩
    have hs1 := sqT_same s1 hs
    have live : ∀ {k : Int}, k ∈ ls → liveB ls (some k) = true := fun h => by rw [liveB_key L.ks, decide_eq_true h]
    have hr1 : H1 r = some (.ins C dx []) := s1 _ _ hr0
    have fin : ∀ D : Ends, (∀ σ H', H' r = some (.ins C dx (rowF q up dn)) → Keep r H H' → D.nx σ H') → ∀ σ : L2.St, σ = [some (.ref r), some (.ref q), some (mV up), some (mV dn)] →
        tSeq (sFld K (tVar 0) (tVar 1) "lot") (tSeq (sFld K (tVar 0) (tVar 2) "coming") (sFld K (tVar 0) (tVar 3) "going")) D σ H1 := fun D hD σ e => by
      subst e
      refine ⟨_, rfl, _, rfl, r, C, dx, _, rfl, hr1, T.cl, T.nL, (by show 0 < 1000; decide), ?_⟩
      refine ⟨_, rfl, _, rfl, r, C, dx, _, rfl, upd_same, T.cl, T.nC, (by show 1 < 1000; decide), ?_⟩
      refine ⟨_, rfl, _, rfl, r, C, dx, _, rfl, upd_same, T.cl, T.nG, (by show 2 < 1000; decide), ?_⟩
      exact hD _ _ upd_same (((Keep.ofSame s1).upd).upd.upd)
    have last := fin { nx := fun _ H' => Q .non H', rt := Q } (fun σ H' h1 h2 => k H' h1 h2) _ rfl
    have hu := L.u
    have hd := L.d
    cases up with
    | none =>
      refine ⟨_, rfl, rfl, _, rfl, iteF (iteF ?_)⟩
      cases dn with
      | none => exact ⟨_, rfl, rfl, _, rfl, iteF (iteF last)⟩
      | some d =>
        refine ⟨_, rfl, rfl, _, rfl, iteT ⟨_, rfl, rfl, _, rfl, iteF ⟨_, rfl, _, rfl, q, ls, .int d, some d, rfl, hs1, .int d, _, rfl, ?_⟩⟩⟩
        rw [live (hd d rfl).2]
        exact iteF last
    | some u =>
      refine ⟨_, rfl, rfl, _, rfl, iteT ⟨_, rfl, _, rfl, q, ls, .int u, some u, rfl, hs1, .int u, _, rfl, ?_⟩⟩
      rw [live (hu u rfl)]
      refine iteF ?_
      cases dn with
      | none => exact ⟨_, rfl, rfl, _, rfl, iteF (iteF last)⟩
      | some d => exact absurd (hd d rfl).1 (by intro z; cases z)
end
end K04

end

section
set_option Elab.async false
set_option linter.all false
set_option maxRecDepth 100000
set_option maxHeartbeats 4000000
namespace K04
open PySem L2 SB
theorem key_text : ∀ n : Fin 1000, (toString ((n.val : Nat) : Int) : Str).length ≤ 4 := by decide +kernel
theorem key_len {k : Int} (h0 : 0 ≤ k) (h1 : k ≤ 999) : (toString k : Str).length ≤ 4 := by
  have := key_text ⟨k.toNat, by omega⟩
  have e : ((k.toNat : Nat) : Int) = k := by omega
  simp only [e] at this
  exact this
def bef (ls : List Int) (up : Option Int) : List Int := ls.filter fun k => !decide (V.int k = mV up)
def spBefore (K : PySem.W.Frag) (C : Addr) : Sp := fun vs H Q _ => ∃ r q ls up dn, vs = [.ref r] ∧ RowAt C H r q up dn ∧ SqT K H q (ls.map V.int) ∧ ls.length ≤ 1000 ∧
  ∀ t H', H t = none → Same H H' → H' t = some (.tup ((bef ls up).map V.int)) → Q (.ref t) H'
def spBack (K : PySem.W.Frag) (C : Addr) : Sp := fun vs H Q _ => ∃ r q ls up dn, vs = [.ref r] ∧ RowAt C H r q up dn ∧ SqT K H q (ls.map V.int) ∧ Lot ls up dn ∧
  ∀ r' H', H r' = none → Same H H' → RowAt C H' r' q dn up → Q (.ref r') H'
def spSign (K : PySem.W.Frag) (C : Addr) : Sp := fun vs H Q _ => ∃ r q up dn k, vs = [.ref r, .int k] ∧ RowAt C H r q up dn ∧ ∀ z : Str, z.length ≤ 1 → Q (.str z) H
def spText (K : PySem.W.Frag) (C : Addr) : Sp := fun vs H Q _ => ∃ r q ls up dn, vs = [.ref r] ∧ RowAt C H r q up dn ∧ SqT K H q (ls.map V.int) ∧ Lot ls up dn ∧ ∀ z H', Same H H' → Q (.str z) H'
theorem RowAt.sm {C r q : Addr} {H H' : Hp} {up dn : Option Int} (x : RowAt C H r q up dn) (s : Same H H') : RowAt C H' r q up dn := let ⟨dx, h⟩ := x; ⟨dx, s _ _ h⟩
theorem back_lot {ls : List Int} {up dn : Option Int} (L : Lot ls up dn) : Lot ls dn up where
  ks := L.ks
  ne := L.ne
  few := L.few
  u k e := (L.d k e).2
  d k e := by
    refine ⟨?_, L.u k e⟩
    cases dn with
    | none => rfl
    | some d =>
      have := (L.d d rfl).1
      rw [this] at e
      cases e
def gR {α : Type} (us ws : List α) : List α := us ++ ws
/-- a new row, by the promise of its __init__ -/
theorem row_new {K : PySem.W.Frag} {C x dx q : Addr} {H : Hp} {ls : List Int} {up dn : Option Int} {Q : VK} {E : XK} (hx : H x = none) (hdx : H dx = none) (ne : dx ≠ x) (hs : SqT K H q (ls.map V.int)) (L : Lot ls up dn)
    (k : ∀ H', Same H H' → RowAt C H' x q up dn → Q (.ref x) H') :
    spRow K C [.ref x, .ref q, mV up, mV dn] (upd (upd H dx (.own x)) x (.ins C dx [])) (fun v H3 => v = .non ∧ Q (.ref x) H3) E := by
  have s1 : Same H (upd (upd H dx (.own x)) x (.ins C dx [])) := Same.new (Same.new (Same.refl H) hdx) (by rw [upd_ne (fun e => ne e.symm)]; exact hx)
  refine ⟨x, dx, q, ls, up, dn, rfl, upd_same, sqT_same s1 hs, L, fun H' h1 kk => ⟨rfl, k H' (fun c o e => ?_) ⟨dx, h1⟩⟩⟩
  exact kk c o (s1 c o e) (ne_of_none e hx)
section
variable {P : Program} {w : World} {K : PySem.W.Frag} {mg : Str → Option Value} {base : Heap}
theorem ok_before {f C : Addr} {fd : FuncData} (F : Fun K "lot_before" "Row.lot_before" s_Row_lot_before f fd) (T : RowC K C) (gTup : mg "tuple" = none) : FnOk P w K mg base CX0 1 f fd ["self"] (spBefore K C) := by
  refine F.ok sc_Row_lot_before (fun vs H Q E h => ?_) (fun cdv A outer s H vs Q E hr h => ?_)
  · obtain ⟨r, q, ls, up, dn, rfl, _⟩ := h
    rfl
  · obtain ⟨r, q, ls, up, dn, rfl, ⟨dx, ha⟩, hs, hz, k⟩ := h
    have nd := sc_Row_lot_before.nd
    refine ⟨_, pss_one (ps_ret (pe_callTy call_tuple_of (by rfl) gTup (by decide +kernel) (pa_cons (pe_lc (own := [("key", 1)]) (g := gName 1) (tt := tTest (tOp rNe (tVar 1) (tFld K (tVar 0) "coming"))) (te := tVar 1) rfl nd (pi_tup (pe_fld (pv 0) rfl)) (blkOk_by (N := N_Row_lot_before) (sc := defScope s_Row_lot_before) (by decide +kernel))
        (fun _ _ _ _ _ => pg_name (i := 1) nd rfl (Or.inl rfl)) (fun _ _ _ _ _ => pts_one (pt_cmpR op_ne (pv 1) (pe_fld (pv 0) rfl) (nomark _))) (fun _ _ _ _ _ => pv 1)) pa_nil))), ?_⟩
    refine ⟨_, rfl, r, C, dx, _, _, rfl, ha, T.cl, T.nL, rfl, q, rfl, ⟨_, hs⟩, fun D hD => filt_tup (fun z => !decide (V.int z = mV up)) hs hD (by omega) (fun z H' R S hz s1 r1 r2 => ?_) (fun H1 s1 h1 => ?_)⟩
    · refine ⟨rfl, _, rfl, _, rfl, r, C, dx, _, _, rfl, s1 _ _ ha, T.cl, T.nC, rfl, by cases up <;> rfl, _, rfl, ite2 (fun e => ⟨_, rfl, r1 e⟩) (fun e => r2 (Bool.eq_false_iff.mpr e))⟩
    · refine ⟨D, _, rfl, .inl ⟨SqL.of h1, fun t ht => ?_⟩⟩
      refine k t _ ?_ (Same.new s1 ht) upd_same
      cases e : H t with
      | none => rfl
      | some o => rw [s1 _ _ e] at ht; cases ht
theorem ok_back {f C fR : Addr} {fd fdR : FuncData} (F : Fun K "backward" "Row.backward" s_Row_backward f fd) (T : RowC K C) (gC : mg "Row" = some (.ref C)) (M : Mk K C fR) (FR : FnOk P w K mg base CX0 5 fR fdR ["self", "lot", "coming", "going"] (spRow K C))
    (kb : KBn K fdR ["self", "lot", "coming", "going"] 2 ["coming", "going"] gR gR) : FnOk P w K mg base CX0 7 f fd ["self"] (spBack K C) := by
  refine F.ok sc_Row_backward (fun vs H Q E h => ?_) (fun cdv A outer s H vs Q E hr h => ?_)
  · obtain ⟨r, q, ls, up, dn, rfl, _⟩ := h
    rfl
  · obtain ⟨r, q, ls, up, dn, rfl, ⟨dx, ha⟩, hs, L, k⟩ := h
    refine ⟨_, pss_one (ps_ret (pe_makeK M FR hr (by rfl) gC kb pass0 (pa_cons (pe_fld (pv 0) rfl) pa_nil) (pk_cons (pe_fld (pv 0) rfl) (pk_cons (pe_fld (pv 0) rfl) pk_nil)))), ?_⟩
    refine ⟨_, rfl, r, C, dx, _, _, rfl, ha, T.cl, T.nL, rfl, _, rfl, r, C, dx, _, _, rfl, ha, T.cl, T.nG, rfl, _, rfl, r, C, dx, _, _, rfl, ha, T.cl, T.nC, rfl, rfl, rfl, fun x dx' hx hdx ne => ?_⟩
    exact row_new hx hdx ne hs (back_lot L) fun H' s' ra => k x H' hx s' ra
theorem ok_sign {f C : Addr} {fd : FuncData} (F : Fun K "_sign" "Row._sign" s_Row_sign f fd) (T : RowC K C) : FnOk P w K mg base CX0 1 f fd ["self", "key"] (spSign K C) := by
  refine F.ok sc_Row_sign (fun vs H Q E h => ?_) (fun cdv A outer s H vs Q E hr h => ?_)
  · obtain ⟨r, q, up, dn, k, rfl, _⟩ := h
    rfl
  · obtain ⟨r, q, up, dn, z, rfl, ⟨dx, ha⟩, k⟩ := h
    refine ⟨_, pss_cons (ps_if (pt_cmpR op_eq (pv 1) (pe_fld (pv 0) rfl) (nomark _)) (pss_one (ps_ret pe_str)) pss_nil)
      (pss_cons (ps_if (pt_cmpR op_eq (pv 1) (pe_fld (pv 0) rfl) (nomark _)) (pss_one (ps_ret pe_str)) pss_nil) (pss_one (ps_ret pe_str))), ?_⟩
    refine ⟨_, rfl, _, rfl, r, C, dx, _, _, rfl, ha, T.cl, T.nC, rfl, by cases up <;> rfl, _, rfl, ite2 (fun e => k _ (by decide)) (fun e => ?_)⟩
    exact ⟨_, rfl, _, rfl, r, C, dx, _, _, rfl, ha, T.cl, T.nG, rfl, by cases dn <;> rfl, _, rfl, ite2 (fun e => k _ (by decide)) (fun e => k _ (by decide))⟩
theorem ok_text {f C fS : Addr} {fd fdS : FuncData} (F : Fun K "text" "Row.text" s_Row_text f fd) (T : RowC K C) (gStr : mg "str" = none) (mS : Meth K C "_sign" fS) (FS : FnOk P w K mg base CX0 1 fS fdS ["self", "key"] (spSign K C)) (bS : Binds K fdS ["self", "key"] []) :
    FnOk P w K mg base CX0 2 f fd ["self"] (spText K C) := by
  refine F.ok sc_Row_text (fun vs H Q E h => ?_) (fun cdv A outer s H vs Q E hr h => ?_)
  · obtain ⟨r, q, ls, up, dn, rfl, _⟩ := h
    rfl
  · obtain ⟨r, q, ls, up, dn, rfl, ⟨dx, ha⟩, hs, L, k⟩ := h
    have nd := sc_Row_text.nd
    refine ⟨_, pss_one (ps_ret (pe_join pe_str (pe_lc (own := [("key", 1)]) (g := gName 1) (tt := tYes) (te := tOp (fun x y H Q => ∃ i j, x = .str i ∧ y = .str j ∧ i.length + j.length ≤ sizeLine ∧ Q (.str (i ++ j)) H) (tMeth C "_sign" (spSign K C) [] E0 (tVar 0) (tCons (tVar 1) tNil)) (tCB (fun xs H Q => ∃ i, xs = [.int i] ∧ i.natAbs.log2 < 1920 ∧ Q (.str (toString i)) H) (tCons (tVar 1) tNil))) rfl nd
        (pi_tup (pe_fld (pv 0) rfl)) (blkOk_by (N := N_Row_text) (sc := defScope s_Row_text) (by decide +kernel))
        (fun _ _ _ _ _ => pg_name (i := 1) nd rfl (Or.inl rfl)) (fun _ _ _ _ _ => pts_nil) (fun _ _ _ _ _ => pe_op op_add_str (pe_meth (pv 0) T.cl mS FS hr bS .nil pass0 (pa_cons (pv 1) pa_nil)) (pe_callTy call_str_int (by rfl) gStr (by decide +kernel) (pa_cons (pv 1) pa_nil)))))), ?_⟩
    refine ⟨⟨_, rfl⟩, _, rfl, r, C, dx, _, _, rfl, ha, T.cl, T.nL, rfl, q, rfl, ⟨_, hs⟩, fun D hD => lc_tup (K := K) (a := q) (xs := ls.map V.int) (fun i H' => Same H H' ∧ ∃ ys : List Str, ys.length = i ∧ (∀ y ∈ ys, y.length ≤ 5) ∧ H' D = some (.lst (ys.map V.str)))
      ⟨Same.new (Same.refl H) hD, [], rfl, (fun y h => by cases h), upd_same⟩ (fun i H' _ p => sqT_same p.1 hs) (fun i x H' hx p => ?_) (fun H1 p => ?_)⟩
    · obtain ⟨z, rfl, hz⟩ := ints_at hx
      obtain ⟨s1, ys, hl, hy, hd⟩ := p
      have hm := List.mem_of_getElem? hz
      have z0 := L.ks.lo z hm
      have z1 := L.ks.hi z hm
      have hil : i < ls.length := (List.getElem?_eq_some_iff.mp hz).1
      have few := L.few
      refine ⟨rfl, _, rfl, r, dx, _, rfl, s1 _ _ ha, rfl, _, rfl, r, q, up, dn, z, rfl, ⟨dx, s1 _ _ ha⟩, fun g hg => ?_⟩
      have kl := key_len z0 z1
      refine ⟨_, rfl, z, rfl, ?_, _, _, rfl, rfl, by rw [sizeLine_eq]; omega, _, hd, by rw [List.length_map, hl, sizeLine_eq]; omega, (fun c o e => ?_), ys ++ [g ++ toString z], by rw [List.length_append, hl]; rfl, ?_, ?_⟩
      · by_cases h0 : z.natAbs = 0
        · rw [h0]; decide
        · exact Nat.lt_of_lt_of_le ((Nat.log2_lt h0).mpr (show z.natAbs < 2 ^ 10 by omega)) (by decide)
      · rw [upd_ne (ne_of_none e hD)]
        exact s1 c o e
      · intro y hy'
        rcases List.mem_append.mp hy' with h | h
        · exact hy y h
        · have : y = g ++ toString z := by simpa using h
          rw [this]
          have : (g ++ (toString z : Str)).length = g.length + (toString z : Str).length := Str.length_append _ _
          omega
      · rw [upd_same, List.map_append]; rfl
    · obtain ⟨s1, ys, hl, hy, hd⟩ := p
      rw [List.length_map] at hl
      have few := L.few
      refine ⟨_, D, ys, rfl, rfl, .inl (SqL.of hd), ?_, k _ H1 s1⟩
      have hsum : ∀ l : List Str, (∀ y ∈ l, y.length ≤ 5) → (l.map (·.length)).sum ≤ l.length * 5 := fun l => by
        induction l with
        | nil => intro _; simp
        | cons a r ih =>
          intro h
          have h1 := h a List.mem_cons_self
          have h2 := ih fun y hy => h y (List.mem_cons_of_mem _ hy)
          rw [List.map_cons, List.sum_cons, List.length_cons]
          omega
      have := hsum ys hy
      show (ys.map (·.length)).sum + ys.length * 1 ≤ 16777216
      omega
end
end K04

end

section
set_option Elab.async false
set_option linter.all false
set_option maxRecDepth 100000
set_option maxHeartbeats 4000000
namespace K04
open PySem L2 SB
/-- no row -/
def OddV (K : PySem.W.Frag) (C : Addr) (H : Hp) (v : V) : Prop := ∃ t, TyX K H v t ∧ PySem.W.kitOne K t (.ref C) = some false
theorem OddV.sm {K : PySem.W.Frag} {C : Addr} {H H' : Hp} {v : V} (s : Same H H') (h : OddV K C H v) : OddV K C H' v := let ⟨t, a, b⟩ := h; ⟨t, tyX_sm s a, b⟩
abbrev Seen := Option (List Int × Option Int × Option Int)
/-- a value as a row: its lot and its marks; or nothing -/
def RVw (K : PySem.W.Frag) (C : Addr) (H : Hp) (v : V) : Seen → Prop
  | some (ls, up, dn) => (∃ r q, v = .ref r ∧ RowAt C H r q up dn ∧ SqT K H q (ls.map V.int) ∧ Lot ls up dn) ∨ (∃ q, v = .ref q ∧ up = none ∧ dn = none ∧ SqT K H q (ls.map V.int) ∧ Lot ls none none ∧ OddV K C H v)
  | none => OddV K C H v ∧ LV K H v false
theorem RVw.sm {K : PySem.W.Frag} {C : Addr} {H H' : Hp} {v : V} {o : Seen} (s : Same H H') (h : RVw K C H v o) : RVw K C H' v o := by
  match o, h with
  | some (ls, up, dn), .inl ⟨r, q, e, h1, h2, h3⟩ => exact .inl ⟨r, q, e, h1.sm s, sqT_same s h2, h3⟩
  | some (ls, up, dn), .inr ⟨q, e, e1, e2, h2, h3, h4⟩ => exact .inr ⟨q, e, e1, e2, sqT_same s h2, h3, h4.sm s⟩
  | none, ⟨h1, h2⟩ => exact ⟨h1.sm s, h2.sm s⟩
def spAs (K : PySem.W.Frag) (C CI : Addr) : Sp := fun vs H Q E => ∃ v o, vs = [v] ∧ RVw K C H v o ∧ match o with
  | some (ls, up, dn) => ∀ r q H', Same H H' → RowAt C H' r q up dn → SqT K H' q (ls.map V.int) → Lot ls up dn → Q (.ref r) H'
  | none => ∀ d H', Same H H' → H' d = none → E (.ref CI) (some d) (upd H' d (.xd (fs1 "InvalidRow" "at" [.int 0])))
def missV (ls : List Int) : V → Option Int
  | .int z => if z ∈ ls then none else some z
  | _ => none
def missed (ks ls : List Int) (k : Int) : Option Int := (missV ls (lowV ks k)).or (missV ls (highV ks k))
def spNb (K : PySem.W.Frag) (C CN : Addr) : Sp := fun vs H Q E => ∃ p r q ks ls up dn k, vs = [.ref p, .ref r, .int k] ∧ SqT K H p (ks.map V.int) ∧ ks.length ≤ 1000 ∧ RowAt C H r q up dn ∧ SqT K H q (ls.map V.int) ∧
  (missed ks ls k = none → ∀ H', Same H H' → Q .non H') ∧ ∀ z, missed ks ls k = some z → ∀ d H', Same H H' → H' d = none → E (.ref CN) (some d) (upd H' d (.xd (fs2 "NeighbourMissed" "key" "neighbour" [.int k, .int z])))
structure RowT (K : PySem.W.Frag) (C : Addr) : Prop where
  c : RowC K C
  ha : PySem.W.findIn K (.ref C) "__class__" = some (some (.builtin "object.__class__"))
  hn : PySem.W.specialIn K (.builtin "object.__class__") "__get__" = some (some (.builtin "getset_descriptor.__get__"))
  htk : PySem.W.takesIn K (.builtin "object.__class__") = some true
  hm : PySem.W.mroIn K C (.type "object") = some true
theorem RowT.ty {K : PySem.W.Frag} {C r q : Addr} {H : Hp} {up dn : Option Int} (T : RowT K C) (h : RowAt C H r q up dn) : TyX K H (.ref r) (.ref C) := let ⟨_, e⟩ := h; .base (.ins e T.c.cl T.ha T.hn T.htk T.hm)
section
variable {P : Program} {w : World} {K : PySem.W.Frag} {mg : Str → Option Value} {base : Heap}
theorem ok_as {f C CI fI fL fR : Addr} {fd fdI fdL fdR : FuncData} {dsR : List Value} (F : Fun K "as_row" "as_row" s_as_row f fd) (T : RowT K C) (gC : mg "Row" = some (.ref C)) (gIsi : mg "isinstance" = none)
    (gL : mg "is_lot" = some (.ref fL)) (FL : FnOk P w K mg base CX0 4 fL fdL ["value"] (spLot K)) (kL : PySem.W.keepIn K (.ref fL) = true) (bL : Binds K fdL ["value"] [])
    (X : XFacts K mg "InvalidRow" CI fI bmVE "ValueError.__new__") (G : FnOk P w K mg base CX0 1 fI fdI ["self", "at"] (spX CI 1 (fs1 "InvalidRow" "at"))) (bI : Binds K fdI ["self", "at"] [])
    (M : Mk K C fR) (FR : FnOk P w K mg base CX0 5 fR fdR ["self", "lot", "coming", "going"] (spRow K C)) (bR : Binds K fdR ["self", "lot", "coming", "going"] dsR) (rR : Vals [V.non, V.non] dsR) :
    FnOk P w K mg base (L2.CX P w) 7 f fd ["value"] (spAs K C CI) := by
  refine F.okX sc_as_row (fun vs H Q E h => ?_) (fun cdv A outer s H vs Q E hr h => ?_)
  · obtain ⟨v, o, rfl, _⟩ := h
    rfl
  · obtain ⟨v, o, rfl, rv, k⟩ := h
    refine ⟨_, pss_cons (ps_if (pt_val (pe_callB call_isi (by rfl) gIsi (by decide +kernel) (pa_cons (pv 0) (pa_cons (pe_glob (v := .ref C) (by rfl) gC rfl) pa_nil)))) (pss_one (ps_ret (pv 0))) pss_nil)
      (pss_cons (ps_if (pt_not (pt_val (pe_call FL (hr.mono (by decide)) (by rfl) gL kL bL .nil pass0 (pa_cons (pv 0) pa_nil))))
        (pss_one (ps_raise rfl (takes_of rfl rfl rfl rfl) (pmk_exg PySem.F.excBase_ValueError X.T X.iC X.tI G (hr.mono (by decide)) bI .nil pass0 (by rfl) X.g (pa_cons pe_int pa_nil)))) pss_nil)
      (pss_one (ps_ret (pe_make M FR hr (by rfl) gC bR rR pass0 (pa_cons (pv 0) pa_nil))))), ?_⟩
    match o, rv, k with
    | some (ls, up, dn), .inl ⟨r, q, e, h1, h2, h3⟩, k =>
      subst e
      refine ⟨_, rfl, _, .ref C, _, _, true, rfl, .own C, T.ty h1, ?_, _, rfl, iteT ⟨_, rfl, k r q H (Same.refl H) h1 h2 h3⟩⟩
      unfold PySem.W.kitOne
      rw [if_pos (beq_self_eq_true _)]
    | some (ls, up, dn), .inr ⟨q, e, e1, e2, h2, h3, t, ht, hk⟩, k =>
      subst e e1 e2
      refine ⟨_, rfl, _, .ref C, _, _, false, rfl, .own C, ht, hk, _, rfl, iteF ?_⟩
      refine ⟨_, rfl, _, true, rfl, lot_lv h3 h2, fun H1 s1 => ⟨_, rfl, iteF ?_⟩⟩
      refine ⟨_, rfl, fun x dx hx hdx ne => ?_⟩
      exact row_new (up := none) (dn := none) hx hdx ne (sqT_same s1 h2) h3 fun H' s' ra => k x q H' (s1.trans s') ra (sqT_same (s1.trans s') h2) h3
    | none, ⟨⟨t, ht, hk⟩, lv⟩, k =>
      refine ⟨_, rfl, _, .ref C, _, _, false, rfl, .own C, ht, hk, _, rfl, iteF ?_⟩
      refine ⟨_, rfl, _, false, rfl, lv, fun H1 s1 => ⟨_, rfl, iteT ?_⟩⟩
      exact rd_raise rfl (by decide) fun d hd => k d H1 s1 hd
theorem ok_nb {f C CN fI fN : Addr} {fd fdI fdN : FuncData} (F : Fun K "check_neighbours" "check_neighbours" s_check_neighbours f fd) (T : RowC K C)
    (gN : mg "neighbours_of" = some (.ref fN)) (FN : FnOk P w K mg base CX0 1 fN fdN ["living", "key"] (spNear K)) (kN : PySem.W.keepIn K (.ref fN) = true) (bN : Binds K fdN ["living", "key"] [])
    (X : XFacts K mg "NeighbourMissed" CN fI bmVE "ValueError.__new__") (G : FnOk P w K mg base CX0 1 fI fdI ["self", "key", "neighbour"] (spX CN 2 (fs2 "NeighbourMissed" "key" "neighbour"))) (bI : Binds K fdI ["self", "key", "neighbour"] []) :
    FnOk P w K mg base (L2.CX P w) 3 f fd ["living", "row", "key"] (spNb K C CN) := by
  refine F.okX sc_check_neighbours (fun vs H Q E h => ?_) (fun cdv A outer s H vs Q E hr h => ?_)
  · obtain ⟨p, r, q, ks, ls, up, dn, k, rfl, _⟩ := h
    rfl
  · obtain ⟨p, r, q, ks, ls, up, dn, k, rfl, hs, hz, ⟨dx, ha⟩, hl, q1, q2⟩ := h
    have nd := sc_check_neighbours.nd
    refine ⟨_, pss_one (ps_for (passes_of rfl) rfl (pi_tup (pe_call FN (hr.mono (by decide)) (by rfl) gN kN bN .nil pass0 (pa_cons (pv 0) (pa_cons (pv 2) pa_nil)))) (pg_name (i := 3) nd rfl (Or.inl rfl))
      (pss_one (ps_if (PW.pt (pw_and (pt_cmpR op_notN (pv 3) pe_non (nomark _)) (pw_and1 (pt_cmpR op_notIn_seq (pv 3) (pe_fld (pv 1) rfl) (by rfl)))))
        (pss_one (ps_raise rfl (takes_of rfl rfl rfl rfl) (pmk_exg PySem.F.excBase_ValueError X.T X.iC X.tI G hr bI .nil pass0 (by rfl) X.g (pa_cons (pv 2) (pa_cons (pv 3) pa_nil))))) pss_nil))), ?_⟩
    refine ⟨_, rfl, _, rfl, p, ks, k, rfl, hs, hz, fun t H1 ht s1 h1 => ?_⟩
    refine ⟨t, rfl, ⟨_, SqT.of h1⟩, for_tup (K := K) (a := t) (xs := [lowV ks k, highV ks k]) (fun i σ H' => H' = H1 ∧ (∃ z, σ = [some (.ref p), some (.ref r), some (.int k), z]) ∧ ∀ x ∈ [lowV ks k, highV ks k].take i, missV ls x = none)
      ⟨rfl, ⟨_, rfl⟩, fun x hx => by simp at hx⟩ (fun i σ H' _ h => by rw [h.1]; exact SqT.of h1) ?_ ?_⟩
    · rintro i x σ H' hx ⟨rfl, ⟨z, rfl⟩, hp⟩
      have kx : x = .non ∨ ∃ y, x = .int y := by
        have hm := List.mem_of_getElem? hx
        simp only [List.mem_cons, List.not_mem_nil, or_false] at hm
        rcases hm with rfl | rfl
        · rcases low_cases ks k with ⟨_, e⟩ | ⟨_, y, _, e⟩
          · exact .inl e
          · exact .inr ⟨y, e⟩
        · rcases high_cases ks k with ⟨_, e⟩ | ⟨y, _, _, e⟩
          · exact .inl e
          · exact .inr ⟨y, e⟩
      have step : missV ls x = none → ∀ y ∈ [lowV ks k, highV ks k].take (i + 1), missV ls y = none := fun e y hy => by
        rw [List.take_add_one, hx] at hy
        rcases List.mem_append.mp hy with h | h
        · exact hp y h
        · have : y = x := by simpa using h
          rw [this]; exact e
      rcases kx with rfl | ⟨y, rfl⟩
      · exact ⟨_, rfl, rfl, _, rfl, iteF (iteF ⟨rfl, ⟨_, rfl⟩, step rfl⟩)⟩
      · refine ⟨_, rfl, rfl, _, rfl, iteT ⟨_, rfl, _, rfl, r, C, dx, _, _, rfl, s1 _ _ ha, T.cl, T.nL, rfl, q, _, rfl, .inr (sqT_same s1 hl), rfl, flat_ints ls, _, rfl, ?_⟩⟩
        rw [if_pos rfl, inV_ints]
        by_cases m : y ∈ ls
        · rw [decide_eq_true m]
          exact iteF ⟨rfl, ⟨_, rfl⟩, step (show (if y ∈ ls then none else some y) = none from if_pos m)⟩
        · rw [decide_eq_false m]
          refine iteT ⟨_, rfl, _, rfl, rd_raise rfl (by decide) fun d hd => q2 y ?_ d _ s1 hd⟩
          have mv : missV ls (.int y) = some y := (show (if y ∈ ls then none else some y) = some y from if_neg m)
          unfold missed
          match i, hx, hp with
          | 0, hx, _ =>
            have : lowV ks k = .int y := by simpa using hx
            rw [this, mv]; rfl
          | 1, hx, hp =>
            have : highV ks k = .int y := by simpa using hx
            rw [this, mv, hp (lowV ks k) (by simp)]; rfl
          | i + 2, hx, _ => simp at hx
    · rintro σ H' ⟨rfl, ⟨z, rfl⟩, hp⟩
      refine q1 ?_ _ s1
      unfold missed
      rw [hp (lowV ks k) (by simp), hp (highV ks k) (by simp)]
      rfl
end
end K04

end

section
set_option Elab.async false
set_option linter.all false
set_option maxRecDepth 100000
set_option maxHeartbeats 4000000
namespace K04
open PySem L2 SB
/-- what comes of a row beside living keys -/
inductive Res where
  | ok
  | row0
  | unk (z : Int)
  | alr (z : Int)
  | many (c : Int)
  | miss (k z : Int)
def nearR (ks ls : List Int) (k : Int) : Res := match missed ks ls k with
  | some z => .miss k z
  | none => .ok
def fitM (ks ls : List Int) (up dn : Option Int) : Res := match up with
  | some u => if u ∈ ks then .alr u else if (12 : Int) < (ks.length : Int) + 1 then .many ((ks.length : Int) + 1) else nearR ks ls u
  | none => match dn with
    | some d => nearR ks ls d
    | none => .ok
def fitR (ks ls : List Int) (up dn : Option Int) : Res := match strange ks (bef ls up) with
  | some z => .unk z
  | none => fitM ks ls up dn
def fitO (ks : List Int) : Seen → Res
  | some (ls, up, dn) => fitR ks ls up dn
  | none => .row0
structure Exs where
  CI : Addr
  CU : Addr
  CA : Addr
  CT : Addr
  CN : Addr
def exOf (A : Exs) : Res → Option (Addr × List (Str × V))
  | .ok => none
  | .row0 => some (A.CI, fs1 "InvalidRow" "at" [.int 0])
  | .unk z => some (A.CU, fs1 "UnknownKey" "key" [.int z])
  | .alr z => some (A.CA, fs1 "AlreadyLiving" "key" [.int z])
  | .many c => some (A.CT, fs2 "TooMany" "what" "count" [.str "keys", .int c])
  | .miss k z => some (A.CN, fs2 "NeighbourMissed" "key" "neighbour" [.int k, .int z])
def Wish (A : Exs) (E : XK) (H : Hp) (r : Res) : Prop := ∀ C fs, exOf A r = some (C, fs) → ∀ d H', Same H H' → H' d = none → E (.ref C) (some d) (upd H' d (.xd fs))
def spFit (K : PySem.W.Frag) (C : Addr) (A : Exs) : Sp := fun vs H Q E => ∃ p ks v o, vs = [.ref p, v] ∧ SqT K H p (ks.map V.int) ∧ ks.length ≤ 1000 ∧ RVw K C H v o ∧ (fitO ks o = .ok → ∀ H', Same H H' → Q .non H') ∧ Wish A E H (fitO ks o)
section
variable {P : Program} {w : World} {K : PySem.W.Frag} {mg : Str → Option Value} {base : Heap}
theorem ok_fit {f C fAs fAl fB fC fN fI : Addr} {A : Exs} {fd fdAs fdAl fdB fdC fdN fdI : FuncData} (F : Fun K "check_fits" "check_fits" s_check_fits f fd) (T : RowC K C) (gLen : mg "len" = none)
    (gAs : mg "as_row" = some (.ref fAs)) (FAs : FnOk P w K mg base (L2.CX P w) 7 fAs fdAs ["value"] (spAs K C A.CI)) (kAs : PySem.W.keepIn K (.ref fAs) = true) (bAs : Binds K fdAs ["value"] [])
    (gAl : mg "check_all_live" = some (.ref fAl)) (FAl : FnOk P w K mg base (L2.CX P w) 5 fAl fdAl ["living", "lot"] (spCkAll K A.CU)) (kAl : PySem.W.keepIn K (.ref fAl) = true) (bAl : Binds K fdAl ["living", "lot"] [])
    (mB : Meth K C "lot_before" fB) (FB : FnOk P w K mg base CX0 1 fB fdB ["self"] (spBefore K C)) (bB : Binds K fdB ["self"] [])
    (gC : mg "check_limit" = some (.ref fC)) (FC : FnOk P w K mg base (L2.CX P w) 3 fC fdC ["what", "count"] (spChk12 A.CT)) (kC : PySem.W.keepIn K (.ref fC) = true) (bC : Binds K fdC ["what", "count"] [])
    (gN : mg "check_neighbours" = some (.ref fN)) (FN : FnOk P w K mg base (L2.CX P w) 3 fN fdN ["living", "row", "key"] (spNb K C A.CN)) (kN : PySem.W.keepIn K (.ref fN) = true) (bN : Binds K fdN ["living", "row", "key"] [])
    (X : XFacts K mg "AlreadyLiving" A.CA fI bmVE "ValueError.__new__") (G : FnOk P w K mg base CX0 1 fI fdI ["self", "key"] (spX A.CA 1 (fs1 "AlreadyLiving" "key"))) (bI : Binds K fdI ["self", "key"] []) :
    FnOk P w K mg base (L2.CX P w) 8 f fd ["living", "row"] (spFit K C A) := by
  refine F.okX sc_check_fits (fun vs H Q E h => ?_) (fun cdv A' outer s H vs Q E hr h => ?_)
  · obtain ⟨p, ks, v, o, rfl, _⟩ := h
    rfl
  · obtain ⟨p, ks, v, o, rfl, hs, hz, rv, q1, q2⟩ := h
    have nd := sc_check_fits.nd
    have hr5 : Room 5 _ := hr.mono (by decide)
    have hr3 : Room 3 _ := hr.mono (by decide)
    have hr1 : Room 1 _ := hr.mono (by decide)
    refine ⟨_, pss_cons (ps_set (i := 2) nd rfl (Or.inl rfl) (pe_call FAs hr (by rfl) gAs kAs bAs .nil (passes_call (takes_of rfl rfl rfl rfl) (fun _ _ _ _ z => z)) (pa_cons (pv 1) pa_nil)))
      (pss_cons (ps_expr (pe_call FAl hr5 (by rfl) gAl kAl bAl .nil (passes_call (takes_of rfl rfl rfl rfl) (fun _ _ _ _ z => z)) (pa_cons (pv 0) (pa_cons (pe_meth0 (pv 2) T.cl mB FB hr1 bB .nil pass0) pa_nil))))
      (pss_cons (ps_if (pt_cmpR op_notN (pe_fld (pv 2) rfl) pe_non (nomark _))
        (pss_cons (ps_if (pt_cmpR op_in_seq (pe_fld (pv 2) rfl) (pv 0) (by rfl)) (pss_one (ps_raise rfl (takes_of rfl rfl rfl rfl) (pmk_exg PySem.F.excBase_ValueError X.T X.iC X.tI G (hr.mono (by decide)) bI .nil pass0 (by rfl) X.g (pa_cons (pe_fld (pv 2) rfl) pa_nil)))) pss_nil)
        (pss_cons (ps_expr (pe_call FC hr3 (by rfl) gC kC bC .nil (passes_call (takes_of rfl rfl rfl rfl) (fun _ _ _ _ z => z)) (pa_cons pe_str (pa_cons (pe_op op_add (pe_callB call_len_seq (by rfl) gLen PySem.boot_len (pa_cons (pv 0) pa_nil)) pe_int) pa_nil))))
        (pss_one (ps_expr (pe_call FN hr3 (by rfl) gN kN bN .nil (passes_call (takes_of rfl rfl rfl rfl) (fun _ _ _ _ z => z)) (pa_cons (pv 0) (pa_cons (pv 2) (pa_cons (pe_fld (pv 2) rfl) pa_nil)))))))) pss_nil)
      (pss_one (ps_if (pt_cmpR op_notN (pe_fld (pv 2) rfl) pe_non (nomark _))
        (pss_one (ps_expr (pe_call FN hr3 (by rfl) gN kN bN .nil (passes_call (takes_of rfl rfl rfl rfl) (fun _ _ _ _ z => z)) (pa_cons (pv 0) (pa_cons (pv 2) (pa_cons (pe_fld (pv 2) rfl) pa_nil)))))) pss_nil)))), ?_⟩
    match o, rv, q1, q2 with
    | none, rv, q1, q2 => exact ⟨_, rfl, v, none, rfl, rv, fun d H' s' hd => q2 _ _ rfl d H' s' hd⟩
    | some (ls, up, dn), rv, q1, q2 =>
      refine ⟨_, rfl, v, some (ls, up, dn), rfl, rv, fun r q H1 s1 ra hl L => ?_⟩
      have few := L.few
      have hs1 := sqT_same s1 hs
      obtain ⟨dx, ha⟩ := id ra
      refine ⟨_, rfl, _, rfl, r, dx, _, rfl, ha, rfl, r, q, ls, up, dn, rfl, ra, hl, few, fun t H2 ht s2 h2 => ?_⟩
      have hs2 := sqT_same s2 hs1
      have ra2 := ra.sm s2
      have ha2 := s2 _ _ ha
      have hl2 := sqT_same s2 hl
      have s02 := s1.trans s2
      refine ⟨p, t, ks, bef ls up, rfl, hs2, SqT.of h2, fun e0 => ?_, fun z e0 d hd => ?_⟩
      · have efit : fitR ks ls up dn = fitM ks ls up dn := by
          unfold fitR
          rw [e0]
        have q1' : fitR ks ls up dn = .ok → ∀ H', Same H H' → Q .non H' := q1
        have q2' : Wish A E H (fitR ks ls up dn) := q2
        rw [efit] at q1' q2'
        cases up with
        | none =>
          refine ⟨_, rfl, r, C, dx, _, _, rfl, ha2, T.cl, T.nC, rfl, rfl, _, rfl, iteF ?_⟩
          cases dn with
          | none => exact ⟨_, rfl, r, C, dx, _, _, rfl, ha2, T.cl, T.nG, rfl, rfl, _, rfl, iteF (q1' rfl H2 s02)⟩
          | some d =>
            refine ⟨_, rfl, r, C, dx, _, _, rfl, ha2, T.cl, T.nG, rfl, rfl, _, rfl, iteT ?_⟩
            refine ⟨_, rfl, _, rfl, _, rfl, r, C, dx, _, _, rfl, ha2, T.cl, T.nG, rfl, p, r, q, ks, ls, none, some d, d, rfl, hs2, hz, ra2, hl2, fun e H3 s3 => ?_, fun z e d' H3 s3 hd => ?_⟩
            · exact q1' (by show nearR ks ls d = .ok; unfold nearR; rw [e]) H3 (s02.trans s3)
            · exact q2' _ _ (by show exOf A (nearR ks ls d) = _; unfold nearR; rw [e]; rfl) d' H3 (s02.trans s3) hd
        | some u =>
          refine ⟨_, rfl, r, C, dx, _, _, rfl, ha2, T.cl, T.nC, rfl, rfl, _, rfl, iteT ?_⟩
          refine ⟨_, rfl, r, C, dx, _, _, rfl, ha2, T.cl, T.nC, rfl, _, rfl, p, _, rfl, .inr hs2, rfl, flat_ints ks, _, rfl, ?_⟩
          have ein : (if false = true then !inV (mV (some u)) (ks.map V.int) else inV (mV (some u)) (ks.map V.int)) = decide (u ∈ ks) := by
            rw [if_neg (by decide)]
            exact inV_ints u ks
          rw [ein]
          by_cases m : u ∈ ks
          · have q2' : Wish A E H (if u ∈ ks then Res.alr u else if (12 : Int) < (ks.length : Int) + 1 then .many ((ks.length : Int) + 1) else nearR ks ls u) := q2'
            rw [if_pos m] at q2'
            rw [decide_eq_true m]
            exact iteT ⟨_, rfl, r, C, dx, _, _, rfl, ha2, T.cl, T.nC, rfl, rd_raise rfl (by decide) fun d hd => q2' _ _ rfl d H2 s02 hd⟩
          · have q2' : Wish A E H (if u ∈ ks then Res.alr u else if (12 : Int) < (ks.length : Int) + 1 then .many ((ks.length : Int) + 1) else nearR ks ls u) := q2'
            have q1' : (if u ∈ ks then Res.alr u else if (12 : Int) < (ks.length : Int) + 1 then .many ((ks.length : Int) + 1) else nearR ks ls u) = .ok → ∀ H', Same H H' → Q .non H' := q1'
            rw [if_neg m] at q1' q2'
            rw [decide_eq_false m]
            refine iteF ⟨_, rfl, p, _, rfl, .inr hs2, _, _, rfl, rfl, ?_⟩
            rw [List.length_map]
            refine ⟨_, rfl, fun hc => ?_, fun hc d hd => ?_⟩
            · rw [if_neg (by omega)] at q1' q2'
              have qa : missed ks ls u = none → ∀ H', Same H H' → Q .non H' := fun e => q1' (by unfold nearR; rw [e])
              refine ⟨_, rfl, _, rfl, _, rfl, r, C, dx, _, _, rfl, ha2, T.cl, T.nC, rfl, p, r, q, ks, ls, some u, dn, u, rfl, hs2, hz, ra2, hl2, fun e H3 s3 => ?_, fun z e d' H3 s3 hd => ?_⟩
              · have dn0 : dn = none := by
                  cases h : dn with
                  | none => rfl
                  | some d => have := (L.d d h).1; cases this
                subst dn0
                have ha3 := s3 _ _ ha2
                exact ⟨_, rfl, r, C, dx, _, _, rfl, ha3, T.cl, T.nG, rfl, rfl, _, rfl, iteF (qa e H3 (s02.trans s3))⟩
              · exact q2' _ _ (by unfold nearR; rw [e]; rfl) d' H3 (s02.trans s3) hd
            · rw [if_pos hc] at q2'
              exact q2' _ _ rfl d H2 s02 hd
      · refine q2 _ _ ?_ d H2 s02 hd
        show exOf A (fitR ks ls up dn) = _
        unfold fitR
        rw [e0]
        rfl
end
end K04

end

section
set_option Elab.async false
set_option linter.all false
set_option maxRecDepth 100000
set_option maxHeartbeats 4000000
namespace K04
open PySem L2 SB
def upl : Option Int → List Int
  | some u => [u]
  | none => []
def stay (ks : List Int) (up dn : Option Int) : List Int := (ks.filter fun z => !decide (V.int z = mV dn)) ++ upl up
def spBeh (K : PySem.W.Frag) (C : Addr) (A : Exs) : Sp := fun vs H Q E => ∃ p ks v o, vs = [.ref p, v] ∧ SqT K H p (ks.map V.int) ∧ ks.length ≤ 60 ∧ RVw K C H v o ∧
  (∀ ls up dn, o = some (ls, up, dn) → fitR ks ls up dn = .ok → ∀ t bs H', H t = none → Same H H' → List.Perm bs (stay ks up dn) → bs.Pairwise (· ≤ ·) → H' t = some (.tup (bs.map V.int)) → Q (.ref t) H') ∧ Wish A E H (fitO ks o)
theorem Wish.sm {A : Exs} {E : XK} {H H' : Hp} {r : Res} (s : Same H H') (h : Wish A E H r) : Wish A E H' r := fun C fs e d H2 s2 hd => h C fs e d H2 (s.trans s2) hd
section
variable {P : Program} {w : World} {K : PySem.W.Frag} {mg : Str → Option Value} {base : Heap}
theorem ok_beh {f C fAs fF : Addr} {A : Exs} {fd fdAs fdF : FuncData} (F : Fun K "living_behind" "living_behind" s_living_behind f fd) (T : RowC K C) (gTup : mg "tuple" = none) (gSrt : mg "sorted" = none)
    (gAs : mg "as_row" = some (.ref fAs)) (FAs : FnOk P w K mg base (L2.CX P w) 7 fAs fdAs ["value"] (spAs K C A.CI)) (kAs : PySem.W.keepIn K (.ref fAs) = true) (bAs : Binds K fdAs ["value"] [])
    (gF : mg "check_fits" = some (.ref fF)) (FF : FnOk P w K mg base (L2.CX P w) 8 fF fdF ["living", "row"] (spFit K C A)) (kF : PySem.W.keepIn K (.ref fF) = true) (bF : Binds K fdF ["living", "row"] []) :
    FnOk P w K mg base (L2.CX P w) 9 f fd ["living", "row"] (spBeh K C A) := by
  refine F.okX sc_living_behind (fun vs H Q E h => ?_) (fun cdv A' outer s H vs Q E hr h => ?_)
  · obtain ⟨p, ks, v, o, rfl, _⟩ := h
    rfl
  · obtain ⟨p, ks, v, o, rfl, hs, hz, rv, q1, q2⟩ := h
    have nd := sc_living_behind.nd
    refine ⟨_, pss_cons (ps_set (i := 2) nd rfl (Or.inr rfl) (pe_call FAs (hr.mono (by decide)) (by rfl) gAs kAs bAs .nil (passes_call (takes_of rfl rfl rfl rfl) (fun _ _ _ _ z => z)) (pa_cons (pv 1) pa_nil)))
      (pss_cons (ps_expr (pe_call FF hr (by rfl) gF kF bF .nil (passes_call (takes_of rfl rfl rfl rfl) (fun _ _ _ _ z => z)) (pa_cons (pv 0) (pa_cons (pv 2) pa_nil))))
      (pss_cons (ps_setLc (i := 3) (own := [("key", 4)]) (g := gName 4) (tt := tTest (tOp rNe (tVar 4) (tFld K (tVar 2) "going"))) (te := tVar 4) rfl nd rfl rfl (sw_true rfl rfl rfl (by decide +kernel)) (pi_tup (pv 0)) (blkOk_by (N := N_living_behind) (sc := defScope s_living_behind) (by decide +kernel))
        (fun _ _ _ _ _ => pg_name (i := 4) nd rfl (Or.inl rfl)) (fun _ _ _ _ _ => pts_one (pt_cmpR op_ne (pv 4) (pe_fld (pv 2) rfl) (nomark _))) (fun _ _ _ _ _ => pv 4))
      (pss_cons (ps_if (pt_cmpR op_notN (pe_fld (pv 2) rfl) pe_non (nomark _)) (pss_one (ps_expr (pe_bm PySem.F.plainAttrs_list PySem.F.slot_list_append PySem.F.type_list_append mt_append (pv 3) (pa_cons (pe_fld (pv 2) rfl) pa_nil)))) pss_nil)
      (pss_one (ps_ret (pe_callTy call_tuple_of (by rfl) gTup (by decide +kernel) (pa_cons (pe_callB cr_sorted (by rfl) gSrt (by decide +kernel) (pa_cons (pv 3) pa_nil)) pa_nil))))))), ?_⟩
    match o, rv, q1, q2 with
    | none, rv, q1, q2 => exact ⟨_, rfl, v, none, rfl, rv, fun d H' s' hd => q2 _ _ rfl d H' s' hd⟩
    | some (ls, up, dn), rv, q1, q2 =>
      refine ⟨_, rfl, v, some (ls, up, dn), rfl, rv, fun r q H1 s1 ra hl L => ?_⟩
      refine ⟨_, rfl, _, rfl, p, ks, _, some (ls, up, dn), rfl, sqT_same s1 hs, by omega, .inl ⟨r, q, rfl, ra, hl, L⟩, fun eok H2 s2 => ?_, q2.sm s1⟩
      obtain ⟨dx, ha⟩ := ra.sm s2
      have s02 := s1.trans s2
      have hs2 := sqT_same s02 hs
      refine ⟨_, rfl, p, rfl, ⟨_, hs2⟩, fun D hD => filt_tup (fun z => !decide (V.int z = mV dn)) hs2 hD (by omega) (fun z H' R S hz s1 r1 r2 => ?_) (fun H3 s3 h3 => ?_)⟩
      · refine ⟨rfl, _, rfl, _, rfl, r, C, dx, _, _, rfl, s1 _ _ ha, T.cl, T.nG, rfl, by cases dn <;> rfl, _, rfl, ite2 (fun e => ⟨_, rfl, r1 e⟩) (fun e => r2 (Bool.eq_false_iff.mpr e))⟩
      · have ha3 := s3 _ _ ha
        have s03 := s02.trans s3
        have few : (ks.filter fun z => !decide (V.int z = mV dn)).length ≤ 60 := Nat.le_trans (List.length_filter_le _ _) hz
        have fin : ∀ H4, Keep D H H4 → H4 D = some (.lst ((stay ks up dn).map V.int)) → tRet (tCB (fun xs H Q => ∃ p ys, xs = [.ref p] ∧ ((SqL K H p ys ∧ ∀ l, H l = none → Q (.ref l) (upd H l (.tup ys))) ∨ (SqT K H p ys ∧ Q (.ref p) H))) (tCons (tCB (rSorted K) (tCons (tVar 3) tNil)) tNil))
            { nx := fun _ H' => Q .non H', rt := Q } [some (.ref p), some v, some (.ref r), some (.ref D), none] H4 := fun H4 k4 h4 => by
          have hDH : H D = none := by
            cases e : H D with
            | none => rfl
            | some o => rw [s02 _ _ e] at hD; cases hD
          have s4 : Same H H4 := fun c o e => k4 c o e (ne_of_none e hDH)
          refine ⟨_, rfl, D, _, rfl, SqL.of h4, ?_, fun bs q' hp hsd hq => ?_⟩
          · have : (upl up).length ≤ 1 := by cases up <;> simp [upl]
            unfold stay
            rw [List.length_append]
            omega
          · refine ⟨q', _, rfl, .inl ⟨SqL.of upd_same, fun t ht => ?_⟩⟩
            have s5 := Same.new (Same.new s4 (o := .lst (bs.map V.int)) hq) (o := .tup (bs.map V.int)) ht
            refine q1 ls up dn rfl eok t bs _ ?_ s5 hp hsd upd_same
            cases e : H t with
            | none => rfl
            | some o =>
              have := Same.new s4 (o := .lst (bs.map V.int)) hq t o e
              rw [ht] at this
              cases this
        cases up with
        | none =>
          refine ⟨_, rfl, r, C, dx, _, _, rfl, ha3, T.cl, T.nC, rfl, rfl, _, rfl, iteF ?_⟩
          exact fin H3 (Keep.ofSame s03) (by rw [h3]; unfold stay upl; rw [List.append_nil])
        | some u =>
          refine ⟨_, rfl, r, C, dx, _, _, rfl, ha3, T.cl, T.nC, rfl, rfl, _, rfl, iteT ?_⟩
          refine ⟨_, rfl, .inl ⟨rfl, _, SqL.of h3⟩, _, rfl, r, C, dx, _, _, rfl, ha3, T.cl, T.nC, rfl, D, _, _, rfl, rfl, h3, by rw [List.length_map, sizeLine_eq]; omega, ?_⟩
          exact fin _ (Keep.ofSame s03).upd (by rw [upd_same]; unfold stay upl; rw [List.map_append]; rfl)
end
end K04

end

section
set_option Elab.async false
set_option linter.all false
set_option maxRecDepth 100000
set_option maxHeartbeats 4000000
namespace K04
open PySem L2 SB RZ
theorem missed_find (ks ls : List Int) (k : Int) : missed ks ls k = (lowL ks k ++ highL ks k).find? fun z => !decide (z ∈ ls) := by
  have one : ∀ z : Int, missV ls (.int z) = [z].find? fun z => !decide (z ∈ ls) := fun z => by
    show (if z ∈ ls then none else some z) = _
    by_cases m : z ∈ ls
    · rw [if_pos m]; simp [m]
    · rw [if_neg m]; simp [m]
  rw [List.find?_append]
  unfold missed
  congr 1
  · unfold lowV lowL
    cases (ks.filter fun z => decide (z < k)).getLast? with
    | none => rfl
    | some z => exact one z
  · unfold highV highL
    cases (ks.filter fun z => decide (z > k)).head? with
    | none => rfl
    | some z => exact one z
theorem canAll_ints : ∀ zs : List Int, PyData.canLayAll0 (zs.map PyData.int) = true
  | [] => by simp [PyData.canLayAll0]
  | z :: zs => by
    rw [List.map_cons]
    simp [PyData.canLayAll0, PyData.canLay0, canAll_ints zs]
theorem depthAll_ints : ∀ zs : List Int, PyData.depthAll (zs.map PyData.int) = 0
  | [] => by simp [PyData.depthAll]
  | z :: zs => by
    rw [List.map_cons]
    simp [PyData.depthAll, PyData.depth, depthAll_ints zs]
theorem shaped_ints (zs : List Int) : SeqAt.shaped (.list (zs.map PyData.int)) = true := by
  unfold SeqAt.shaped
  simp [PyData.canLay0, PyData.depth, canAll_ints, depthAll_ints]
theorem strange_head {ks ls : List Int} {up : Option Int} (h : KSet ks) : strange ks (bef ls up) = (ls.filter fun z => !decide (V.int z = mV up) && !decide (z ∈ ks)).head? := by
  unfold strange bef
  rw [List.find?_filter, List.head?_filter]
  congr 1
  funext z
  rw [liveB_key h]
  cases decide (V.int z = mV up) <;> cases decide (z ∈ ks) <;> rfl
/-- what a result is told as -/
def ofRes : Res → List V
  | .ok => []
  | .row0 => [.str "InvalidRow", .int 0]
  | .unk z => [.str "UnknownKey", .int z]
  | .alr z => [.str "AlreadyLiving", .int z]
  | .many c => [.str "TooMany", .str "keys", .int c]
  | .miss k z => [.str "NeighbourMissed", .int k, .int z]
def Sorted (bs l : List Int) : Prop := List.Perm bs l ∧ bs.Pairwise (· ≤ ·)
def ResT (H : Hp) (t : Addr) (r : Res) (st : List Int) : Prop := match r with
  | .ok => ∃ b bs, H t = some (.tup [.str "made", .ref b]) ∧ H b = some (.tup (bs.map V.int)) ∧ Sorted bs st
  | r => H t = some (.tup (ofRes r))
def spFits (K : PySem.W.Frag) : Sp := fun vs H Q _ => ∃ p tv q ks ls up dn, vs = [.ref p, .ref tv] ∧ SqT K H p (ks.map V.int) ∧ KSet ks ∧ ks.length ≤ 12 ∧ H tv = some (.tup [.ref q, mV up, mV dn]) ∧ SqT K H q (ls.map V.int) ∧ Lot ls up dn ∧
  ∀ t H', H t = none → Same H H' → ResT H' t (fitR ks ls up dn) (stay ks up dn) → Q (.ref t) H'
section
variable {P : Program} {w : World} {K : PySem.W.Frag} {mg : Str → Option Value} {base : Heap}
theorem ok_fits {f : Addr} {fd : FuncData} (F : Fun K "_law_fits" "_law_fits" s_l_fits f fd) (gLen : mg "len" = none) (gTup : mg "tuple" = none) (gSrt : mg "sorted" = none) : FnOk P w K mg base CX0 1 f fd ["_law_ks", "_law_v"] (spFits K) := by
  refine F.ok sc_l_fits (fun vs H Q E h => ?_) (fun cdv A outer s H vs Q E hr h => ?_)
  · obtain ⟨p, tv, q, ks, ls, up, dn, rfl, _⟩ := h
    rfl
  · obtain ⟨p, tv, q, ks, ls, up, dn, rfl, hs, hk, hz, htv, hl, L, k⟩ := h
    have nd := sc_l_fits.nd
    have hu : (A.deeper (PyProof.Rows.envOfC "_law_fits" (defScope s_l_fits) s.heap.objs.size f cdv)).units + 64 < cLine := hr.units
    refine ⟨_, pss_cons (ps_asg (pv 1) (pg_tup rfl (pgs_cons (pg_name (i := 2) nd rfl (Or.inl rfl)) (pgs_cons (pg_name (i := 3) nd rfl (Or.inr rfl)) (pgs_cons (pg_name (i := 4) nd rfl (Or.inr rfl)) pgs_nil)))))
      (pss_cons (ps_setLc (i := 5) (own := [("_law_k", 8)]) (g := gName 8) (tt := tAnd (tTest (tOp rNe (tVar 8) (tVar 3))) (tTest (tOp (rIn K true) (tVar 8) (tVar 0)))) (te := tVar 8) rfl nd rfl rfl (sw_true rfl rfl rfl (by decide +kernel)) (pi_tup (pv 2)) (blkOk_by (N := N_l_fits) (sc := defScope s_l_fits) (by decide +kernel))
        (fun _ _ _ _ _ => pg_name (i := 8) nd rfl (Or.inl rfl)) (fun _ _ _ _ _ => pts_one (PW.pt (pw_and (pt_cmpR op_ne (pv 8) (pv 3) (nomark _)) (pw_and1 (pt_cmpR op_notIn_seq (pv 8) (pv 0) (by rfl)))))) (fun _ _ _ _ _ => pv 8))
      (pss_cons (ps_if (pt_cmpR (op_neD hu) (pv 5) (pe_lst pa_nil) (nomark _)) (pss_one (ps_ret (pe_tup (pa_cons pe_str (pa_cons (pe_ix ix_list (pv 5) pe_int (fun _ _ => rfl)) pa_nil))))) pss_nil)
      (pss_cut (ps_if (PW.pt (pw_and (pt_cmpR op_notN (pv 3) pe_non (nomark _)) (pw_and1 (pt_cmpR op_in_seq (pv 3) (pv 0) (by rfl))))) (pss_one (ps_ret (pe_tup (pa_cons pe_str (pa_cons (pv 3) pa_nil))))) pss_nil)
      (pss_cut (ps_if (PW.pt (pw_and (pt_cmpR op_notN (pv 3) pe_non (nomark _)) (pw_and1 (pt_cmpR op_eq (pe_callB call_len_seq (by rfl) gLen PySem.boot_len (pa_cons (pv 0) pa_nil)) pe_int (nomark _))))) (pss_one (ps_ret (pe_tup (pa_cons pe_str (pa_cons pe_str (pa_cons pe_int pa_nil)))))) pss_nil)
      (pss_cut (ps_set (i := 6) nd rfl (Or.inr rfl) (pe_ifExp (pt_cmpR op_notN (pv 3) pe_non (nomark _)) (pv 3) (pv 4)))
      (pss_cut (ps_if (pt_cmpR op_notN (pv 6) pe_non (nomark _))
        (pss_one (ps_for PassesOwn.never rfl (pi_list (pe_op op_cat
            (pe_slice sl_list (pe_lc (own := [("_law_k", 8)]) (g := gName 8) (tt := tTest (tOp (rI0 fun i j => .bl (decide (i < j))) (tVar 8) (tVar 6))) (te := tVar 8) rfl nd (pi_tup (pv 0)) (blkOk_by (N := N_l_fits) (sc := defScope s_l_fits) (by decide +kernel))
              (fun _ _ _ _ _ => pg_name (i := 8) nd rfl (Or.inl rfl)) (fun _ _ _ _ _ => pts_one (pt_cmpR op_lt (pv 8) (pv 6) (nomark _))) (fun _ _ _ _ _ => pv 8)) (po_some (pe_un un_neg pe_int)) po_none)
            (pe_slice sl_list (pe_lc (own := [("_law_k", 8)]) (g := gName 8) (tt := tTest (tOp (rI0 fun i j => .bl (decide (i > j))) (tVar 8) (tVar 6))) (te := tVar 8) rfl nd (pi_tup (pv 0)) (blkOk_by (N := N_l_fits) (sc := defScope s_l_fits) (by decide +kernel))
              (fun _ _ _ _ _ => pg_name (i := 8) nd rfl (Or.inl rfl)) (fun _ _ _ _ _ => pts_one (pt_cmpR op_gt (pv 8) (pv 6) (nomark _))) (fun _ _ _ _ _ => pv 8)) po_none (po_some pe_int)))) (pg_name (i := 7) nd rfl (Or.inl rfl))
          (pss_one (ps_if (pt_cmpR op_notIn_seq (pv 7) (pv 2) (by rfl)) (pss_one (ps_ret (pe_tup (pa_cons pe_str (pa_cons (pv 6) (pa_cons (pv 7) pa_nil)))))) pss_nil)))) pss_nil)
      (pss_one (ps_ret (pe_tup (pa_cons pe_str (pa_cons (pe_callTy call_tuple_of (by rfl) gTup (by decide +kernel) (pa_cons (pe_callB cr_sorted (by rfl) gSrt (by decide +kernel) (pa_cons (pe_op op_cat
          (pe_lc (own := [("_law_k", 8)]) (g := gName 8) (tt := tTest (tOp rNe (tVar 8) (tVar 4))) (te := tVar 8) rfl nd (pi_tup (pv 0)) (blkOk_by (N := N_l_fits) (sc := defScope s_l_fits) (by decide +kernel))
            (fun _ _ _ _ _ => pg_name (i := 8) nd rfl (Or.inl rfl)) (fun _ _ _ _ _ => pts_one (pt_cmpR op_ne (pv 8) (pv 4) (nomark _))) (fun _ _ _ _ _ => pv 8))
          (pe_ifExp (pt_cmpR op_isN (pv 3) pe_non (nomark _)) (pe_lst pa_nil) (pe_lst (pa_cons (pv 3) pa_nil)))) pa_nil)) pa_nil)) pa_nil))))))))))), ?_⟩
    refine ⟨_, rfl, tv, _, rfl, SqT.of htv, rfl, .ref q, [mV up, mV dn], rfl, mV up, [mV dn], rfl, mV dn, [], rfl, rfl, ?_⟩
    have few := L.few
    refine ⟨_, rfl, q, rfl, ⟨_, hl⟩, fun D1 hD1 => filt_tup (fun z => !decide (V.int z = mV up) && !decide (z ∈ ks)) hl hD1 (by omega) (fun z H' R S hz s1 r1 r2 => ?_) (fun H1 s1 h1 => ?_)⟩
    · refine ⟨rfl, _, rfl, _, rfl, by cases up <;> rfl, _, rfl, ite2 (fun e1 => ?_) (fun e1 => iteF (r2 (by rw [Bool.eq_false_iff.mpr e1]; rfl)))⟩
      refine ⟨_, rfl, _, rfl, p, _, rfl, .inr (sqT_same s1 hs), rfl, flat_ints ks, _, rfl, ?_⟩
      rw [if_pos rfl, inV_ints]
      by_cases m : z ∈ ks
      · rw [decide_eq_true m]
        exact iteF (r2 (by rw [decide_eq_true m]; simp))
      · rw [decide_eq_false m]
        exact iteT ⟨_, rfl, r1 (by rw [decide_eq_false m, e1]; rfl)⟩
    have hst := strange_head (ls := ls) (up := up) hk
    have tell : ∀ {H2 : Hp} (r : Res) (us : List V), Same H H2 → fitR ks ls up dn = r → us = ofRes r → (∀ st t H', H' t = some (.tup (ofRes r)) → ResT H' t r st) → us.length ≤ 3 → us.length ≤ sizeLine ∧ ∀ t, H2 t = none → Q (.ref t) (upd H2 t (.tup us)) := fun {H2} r us s2 e1 e2 e3 e4 => by
      subst e2
      refine ⟨by rw [sizeLine_eq]; omega, fun t ht => k t _ ?_ (Same.new s2 ht) (by rw [e1]; exact e3 _ _ _ upd_same)⟩
      cases e : H t with
      | none => rfl
      | some o => rw [s2 _ _ e] at ht; cases ht
    generalize hS : (ls.filter fun z => !decide (V.int z = mV up) && !decide (z ∈ ks)) = S at h1 hst
    refine ⟨_, rfl, (by decide), fun De hDe => ?_⟩
    have h1' := Same.new (Same.refl H1) (o := .lst []) hDe _ _ h1
    have s2 := Same.new s1 (o := .lst []) hDe
    refine ⟨.list (S.map .int), .list [], .lst (SqL.of h1') (dpAll_ints S), .lst (SqL.of upd_same) .nil, ?_, ?_, _, rfl, ?_⟩
    · exact shaped_ints S
    · exact shaped_ints []
    cases S with
    | cons z S =>
      refine iteT ⟨_, rfl, D1, _, _, _, rfl, rfl, SqL.of h1', at_of (j := 0) rfl rfl, ?_⟩
      refine tell (.unk z) _ s2 ?_ rfl (fun _ _ _ h => h) (by show 2 ≤ 3; decide)
      unfold fitR
      rw [hst]
      rfl
    | nil =>
      refine iteF ?_
      have hm : fitR ks ls up dn = fitM ks ls up dn := by unfold fitR; rw [hst]; rfl
      have hs2 := sqT_same s2 hs
      have arm : ∀ u : Int, up = some u → fitR ks ls up dn = (if u ∈ ks then Res.alr u else if (12 : Int) < (ks.length : Int) + 1 then .many ((ks.length : Int) + 1) else nearR ks ls u) := fun u e => by
        rw [hm, e]; rfl
      refine ⟨fun σ H' => (∃ z5, σ = [some (.ref p), some (.ref tv), some (.ref q), some (mV up), some (mV dn), z5, none, none, none]) ∧ Same H H' ∧ ∀ u, up = some u → u ∉ ks, ?_, ?_⟩
      · cases up with
        | none => exact ⟨_, rfl, rfl, _, rfl, iteF (iteF ⟨⟨_, rfl⟩, s2, fun u e => nomatch e⟩)⟩
        | some u =>
          refine ⟨_, rfl, rfl, _, rfl, iteT ⟨_, rfl, _, rfl, p, _, rfl, .inr hs2, rfl, flat_ints ks, _, rfl, ?_⟩⟩
          have ein : (if false = true then !inV (mV (some u)) (ks.map V.int) else inV (mV (some u)) (ks.map V.int)) = decide (u ∈ ks) := by
            rw [if_neg (by decide)]
            exact inV_ints u ks
          rw [ein]
          by_cases m : u ∈ ks
          · rw [decide_eq_true m]
            exact iteT ⟨_, rfl, tell (.alr u) _ s2 (by rw [arm u rfl, if_pos m]) rfl (fun _ _ _ h => h) (by show 2 ≤ 3; decide)⟩
          · rw [decide_eq_false m]
            exact iteF ⟨⟨_, rfl⟩, s2, fun v e => by cases e; exact m⟩
      rintro σ H3 ⟨⟨z5, rfl⟩, s3, nin⟩
      have hs3 := sqT_same s3 hs
      refine ⟨fun σ H' => (∃ z5, σ = [some (.ref p), some (.ref tv), some (.ref q), some (mV up), some (mV dn), z5, none, none, none]) ∧ Same H H' ∧ ∀ u, up = some u → fitR ks ls up dn = nearR ks ls u, ?_, ?_⟩
      · cases up with
        | none => exact ⟨_, rfl, rfl, _, rfl, iteF (iteF ⟨⟨_, rfl⟩, s3, fun u e => nomatch e⟩)⟩
        | some u =>
          refine ⟨_, rfl, rfl, _, rfl, iteT ⟨_, rfl, p, _, rfl, .inr hs3, rfl, _, rfl, ?_⟩⟩
          rw [List.length_map]
          by_cases m : ks.length = 12
          · rw [m]
            refine iteT ?_
            refine tell (.many 13) _ s3 ?_ rfl (fun _ _ _ h => h) (by show 3 ≤ 3; decide)
            rw [arm u rfl, if_neg (nin u rfl), m]
            rfl
          · have : decide (V.int (ks.length : Int) = V.int 12) = false := by
              rw [decide_eq_false_iff_not]
              intro e
              have := V.int.inj e
              omega
            rw [this]
            refine iteF ⟨⟨_, rfl⟩, s3, fun v e => ?_⟩
            cases e
            rw [arm u rfl, if_neg (nin u rfl), if_neg (by omega)]
      rintro σ H4 ⟨⟨z5', rfl⟩, s4, near⟩
      refine ⟨fun σ H' => ∃ mk z5, σ = [some (.ref p), some (.ref tv), some (.ref q), some (mV up), some (mV dn), z5, some (mV mk), none, none] ∧ Same H H' ∧ (mk = none → fitR ks ls up dn = .ok) ∧ ∀ m, mk = some m → fitR ks ls up dn = nearR ks ls m, ?_, ?_⟩
      · cases up with
        | none =>
          refine ⟨_, rfl, rfl, _, rfl, iteF ⟨_, rfl, dn, _, rfl, s4, fun e => ?_, fun m e => ?_⟩⟩
          · rw [hm, e]; rfl
          · rw [hm, e]; rfl
        | some u => exact ⟨_, rfl, rfl, _, rfl, iteT ⟨_, rfl, some u, _, rfl, s4, (fun e => by cases e), (fun m e => by rw [← Option.some.inj e]; exact near u rfl)⟩⟩
      rintro σ H5 ⟨mk, y5, rfl, s5, m0, m1⟩
      have hs5 := sqT_same s5 hs
      have hl5 := sqT_same s5 hl
      refine ⟨fun σ H' => ∃ z5 z6 z7, σ = [some (.ref p), some (.ref tv), some (.ref q), some (mV up), some (mV dn), z5, z6, z7, none] ∧ Same H H' ∧ fitR ks ls up dn = .ok, ?_, ?_⟩
      · cases mk with
        | none => exact ⟨_, rfl, rfl, _, rfl, iteF ⟨_, _, _, rfl, s5, m0 rfl⟩⟩
        | some m =>
          refine ⟨_, rfl, rfl, _, rfl, iteT ?_⟩
          have em := m1 m rfl
          refine ⟨_, rfl, p, rfl, ⟨_, hs5⟩, fun Da hDa => filt_tup (fun z => decide (z < m)) hs5 hDa (by omega) (fun z H' R S hz s1 r1 r2 => ?_) (fun H6 s6 h6 => ?_)⟩
          · exact ⟨rfl, _, rfl, _, rfl, _, _, rfl, rfl, _, rfl, ite2 (fun e => ⟨_, rfl, r1 e⟩) (fun e => r2 (Bool.eq_false_iff.mpr e))⟩
          refine ⟨_, rfl, _, rfl, Da, _, rfl, SqL.of h6, fun q1 hq1 => ?_⟩
          rw [low_cut]
          have s7 := Same.new (s5.trans s6) (o := .lst ((lowL ks m).map V.int)) hq1
          have hs7 := sqT_same s7 hs
          refine ⟨_, rfl, p, rfl, ⟨_, hs7⟩, fun Db hDb => filt_tup (fun z => decide (z > m)) hs7 hDb (by omega) (fun z H' R S hz s1 r1 r2 => ?_) (fun H8 s8 h8 => ?_)⟩
          · exact ⟨rfl, _, rfl, _, rfl, _, _, rfl, rfl, _, rfl, ite2 (fun e => ⟨_, rfl, r1 e⟩) (fun e => r2 (Bool.eq_false_iff.mpr e))⟩
          refine ⟨_, rfl, Db, _, rfl, SqL.of h8, fun q2 hq2 => ?_⟩
          rw [high_cut]
          have k1 := s8 _ _ (upd_same (H := H6) (a := q1) (o := .lst ((lowL ks m).map V.int)))
          have s9 := Same.new (s7.trans s8) (o := .lst ((highL ks m).map V.int)) hq2
          have ll := lowL_len ks m
          have hl' := highL_len ks m
          refine ⟨q1, q2, _, _, rfl, rfl, by rw [upd_ne (ne_of_none k1 hq2)]; exact k1, upd_same, by rw [List.length_map, List.length_map, sizeLine_eq]; omega, fun q3 hq3 => ?_⟩
          have s10 := Same.new s9 (o := .lst ((lowL ks m).map V.int ++ (highL ks m).map V.int)) hq3
          rw [← List.map_append] at s10 ⊢
          have hfind := missed_find ks ls m
          generalize lowL ks m ++ highL ks m = N at hfind s10 ⊢
          refine ⟨q3, rfl, ⟨_, SqL.of upd_same⟩, ?_⟩
          have hN := SqL.of (K := K) (upd_same (H := upd H8 q2 (.lst ((highL ks m).map V.int))) (a := q3) (o := .lst (N.map V.int)))
          generalize upd (upd H8 q2 (.lst ((highL ks m).map V.int))) q3 (.lst (N.map V.int)) = Hq at s10 hN ⊢
          refine for_list (K := K) (a := q3) (xs := N.map V.int) (fun i σ H' => H' = Hq ∧ (∃ z7, σ = [some (.ref p), some (.ref tv), some (.ref q), some (mV up), some (mV dn), y5, some (.int m), z7, none]) ∧ ∀ x ∈ N.take i, (!decide (x ∈ ls)) = false)
            ⟨rfl, ⟨_, rfl⟩, fun x hx => by simp at hx⟩ (fun i σ H' _ h => by rw [h.1]; exact hN) ?_ ?_
          · rintro i x σ H' hx ⟨rfl, ⟨z7, rfl⟩, hp⟩
            obtain ⟨y, rfl, hy⟩ := ints_at hx
            refine ⟨_, rfl, _, rfl, q, _, rfl, .inr (sqT_same s10 hl), rfl, flat_ints ls, _, rfl, ?_⟩
            have ein : (if true = true then !inV (V.int y) (ls.map V.int) else inV (V.int y) (ls.map V.int)) = !decide (y ∈ ls) := by
              rw [if_pos rfl, inV_ints]
            rw [ein]
            by_cases mm : y ∈ ls
            · rw [decide_eq_true mm]
              refine iteF ⟨rfl, ⟨_, rfl⟩, fun x hx => ?_⟩
              rw [List.take_add_one, hy] at hx
              rcases List.mem_append.mp hx with h | h
              · exact hp x h
              · have : x = y := by simpa using h
                rw [this, decide_eq_true mm]; rfl
            · rw [decide_eq_false mm]
              refine iteT ⟨_, rfl, _, rfl, tell (.miss m y) _ s10 ?_ rfl (fun _ _ _ h => h) (by show 3 ≤ 3; decide)⟩
              rw [em]
              unfold nearR
              rw [hfind, find_at hp hy (by rw [decide_eq_false mm]; rfl)]
          · rintro σ H' ⟨rfl, ⟨z7, rfl⟩, hp⟩
            rw [List.length_map, List.take_length] at hp
            refine ⟨_, _, _, rfl, s10, ?_⟩
            rw [em]
            unfold nearR
            rw [hfind, find_no hp]
      rintro σ H6 ⟨y5, y6, y7, rfl, s6, efin⟩
      have hs6 := sqT_same s6 hs
      refine ⟨_, rfl, p, rfl, ⟨_, hs6⟩, fun D hD => filt_tup (fun z => !decide (V.int z = mV dn)) hs6 hD (by omega) (fun z H' R S hz s1 r1 r2 => ?_) (fun H7 s7 h7 => ?_)⟩
      · exact ⟨rfl, _, rfl, _, rfl, by cases dn <;> rfl, _, rfl, ite2 (fun e => ⟨_, rfl, r1 e⟩) (fun e => r2 (Bool.eq_false_iff.mpr e))⟩
      cases up with
      | none =>
        refine ⟨_, rfl, rfl, _, rfl, iteT ⟨(by decide), fun l hl => ?_⟩⟩
        have s8 := Same.new (s6.trans s7) (o := .lst []) hl
        have h8 : upd H7 l (.lst []) D = some (.lst ((ks.filter fun z => !decide (V.int z = mV dn)).map V.int)) := by rw [upd_ne (ne_of_none h7 hl)]; exact h7
        refine ⟨D, l, _, _, rfl, rfl, h8, upd_same, ?_, fun c hc => ?_⟩
        · have := List.length_filter_le (fun z => !decide (V.int z = mV dn)) ks
          rw [List.length_map, sizeLine_eq]
          show _ + 0 ≤ _
          omega
        have s9 := Same.new s8 (o := .lst ((ks.filter fun z => !decide (V.int z = mV dn)).map V.int ++ [])) hc
        refine ⟨c, stay ks none dn, rfl, SqL.of (by rw [upd_same]; unfold stay upl; rw [List.map_append]; rfl), ?_, fun bs q' hp hsd hq => ?_⟩
        · have := List.length_filter_le (fun z => !decide (V.int z = mV dn)) ks
          unfold stay upl
          rw [List.length_append]
          show _ + 0 < 64
          omega
        have s10 := Same.new s9 (o := .lst (bs.map V.int)) hq
        refine ⟨q', _, rfl, .inl ⟨SqL.of upd_same, fun bt hbt => ?_⟩⟩
        have s11 := Same.new s10 (o := .tup (bs.map V.int)) hbt
        refine ⟨(by show 2 ≤ sizeLine; decide), fun t ht => k t _ ?_ (Same.new s11 ht) ?_⟩
        · cases e : H t with
          | none => rfl
          | some o => exact nomatch (s11 _ _ e).symm.trans ht
        · rw [efin]
          exact ⟨bt, bs, upd_same, by rw [upd_ne (ne_of_none upd_same ht), upd_same], hp, hsd⟩
      | some u =>
        refine ⟨_, rfl, rfl, _, rfl, iteF ⟨_, rfl, (by show 1 ≤ sizeLine; decide), fun l hl => ?_⟩⟩
        have s8 := Same.new (s6.trans s7) (o := .lst [V.int u]) hl
        have h8 : upd H7 l (.lst [V.int u]) D = some (.lst ((ks.filter fun z => !decide (V.int z = mV dn)).map V.int)) := by rw [upd_ne (ne_of_none h7 hl)]; exact h7
        refine ⟨D, l, _, _, rfl, rfl, h8, upd_same, ?_, fun c hc => ?_⟩
        · have := List.length_filter_le (fun z => !decide (V.int z = mV dn)) ks
          rw [List.length_map, sizeLine_eq]
          show _ + 1 ≤ _
          omega
        have s9 := Same.new s8 (o := .lst ((ks.filter fun z => !decide (V.int z = mV dn)).map V.int ++ [V.int u])) hc
        refine ⟨c, stay ks (some u) dn, rfl, SqL.of (by rw [upd_same]; unfold stay upl; rw [List.map_append]; rfl), ?_, fun bs q' hp hsd hq => ?_⟩
        · have := List.length_filter_le (fun z => !decide (V.int z = mV dn)) ks
          unfold stay upl
          rw [List.length_append]
          show _ + 1 < 64
          omega
        have s10 := Same.new s9 (o := .lst (bs.map V.int)) hq
        refine ⟨q', _, rfl, .inl ⟨SqL.of upd_same, fun bt hbt => ?_⟩⟩
        have s11 := Same.new s10 (o := .tup (bs.map V.int)) hbt
        refine ⟨(by show 2 ≤ sizeLine; decide), fun t ht => k t _ ?_ (Same.new s11 ht) ?_⟩
        · cases e : H t with
          | none => rfl
          | some o => exact nomatch (s11 _ _ e).symm.trans ht
        · rw [efin]
          exact ⟨bt, bs, upd_same, by rw [upd_ne (ne_of_none upd_same ht), upd_same], hp, hsd⟩
end
end K04

end

section
set_option Elab.async false
set_option linter.all false
set_option maxRecDepth 100000
set_option maxHeartbeats 4000000
namespace K04
open PySem L2 SB
def gF {α : Type} (us ws : List α) : List α := match us, ws with
  | [], [a, b] => [b, a]
  | _, _ => []
/-- what is told of a row beside living keys -/
def TellT (H : Hp) (t : Addr) (way : Int) (ks : List Int) (o : Seen) : Prop := match fitO ks o with
  | .ok => (way < 2 → H t = some (.tup [.str "made", .non])) ∧ (2 ≤ way → ∃ b bs ls up dn, o = some (ls, up, dn) ∧ H t = some (.tup [.str "made", .ref b]) ∧ H b = some (.tup (bs.map V.int)) ∧ Sorted bs (stay ks up dn))
  | r => H t = some (.tup (ofRes r))
def spFitted (K : PySem.W.Frag) (C : Addr) : Sp := fun vs H Q _ => ∃ way p ks v o, vs = [.int way, .ref p, v] ∧ 0 ≤ way ∧ SqT K H p (ks.map V.int) ∧ ks.length ≤ 60 ∧ RVw K C H v o ∧ ∀ t H', Same H H' → TellT H' t way ks o → Q (.ref t) H'
abbrev wFit (K : PySem.W.Frag) (A : Exs) : Ends → WX := fun D => (wAs K (.ref A.CI) 3 (fun a cls d => tRet (tTup (tCons (tXf a cls d A.CI "code" (tVar 3)) (tCons (tXf a cls d A.CI "at" (tVar 3)) tNil)))) (wAs K (.ref A.CU) 3 (fun a cls d => tRet (tTup (tCons (tXf a cls d A.CU "code" (tVar 3)) (tCons (tXf a cls d A.CU "key" (tVar 3)) tNil)))) (wAs K (.ref A.CA) 3 (fun a cls d => tRet (tTup (tCons (tXf a cls d A.CA "code" (tVar 3)) (tCons (tXf a cls d A.CA "key" (tVar 3)) tNil)))) (wAs K (.ref A.CT) 3 (fun a cls d => tRet (tTup (tCons (tXf a cls d A.CT "code" (tVar 3)) (tCons (tXf a cls d A.CT "what" (tVar 3)) (tCons (tXf a cls d A.CT "count" (tVar 3)) tNil))))) (wAs K (.ref A.CN) 3 (fun a cls d => tRet (tTup (tCons (tXf a cls d A.CN "code" (tVar 3)) (tCons (tXf a cls d A.CN "key" (tVar 3)) (tCons (tXf a cls d A.CN "neighbour" (tVar 3)) tNil))))) (fun _ _ _ _ => False) D) D) D) D) D)
section
variable {P : Program} {w : World} {K : PySem.W.Frag} {mg : Str → Option Value} {base : Heap} {A : Exs} {fR fU fA fT fN : Addr}
theorem caughtR {H H2 : Hp} {way : Int} {p d : Addr} {v x : V} {Q : VK} (XR : XFacts K mg "InvalidRow" A.CI fR bmVE "ValueError.__new__") (s2 : Same H H2) (hd : H2 d = none)
    (q : ∀ t H', Same H H' → H' t = some (.tup [.str "InvalidRow", x]) → Q (.ref t) H') :
    wFit K A { nx := fun _ H' => Q .non H', rt := Q } (.ref A.CI) (some d) (L2.start ["_law_way", "_law_ks", "_law_v", "e"] [.int way, .ref p, v]) (upd H2 d (.xd (fs1 "InvalidRow" "at" [x]))) :=
  ⟨true, XR.me, fun _ a ha => ⟨_, rfl, rfl, rfl, d, _, _, rfl, upd_same, rfl, _, rfl, rfl, rfl, d, _, _, rfl, upd_same, rfl, (by show 2 ≤ sizeLine; decide), fun t ht => q t _ (Same.new (Same.new s2 hd) ht) upd_same⟩, fun q => nomatch q⟩
theorem caughtU {H H2 : Hp} {way : Int} {p d : Addr} {v x : V} {Q : VK} (XU : XFacts K mg "UnknownKey" A.CU fU bmLE "LookupError.__new__")
    (apUR : PySem.W.exmOne K (.ref A.CU) (.ref A.CI) = some false) (s2 : Same H H2) (hd : H2 d = none)
    (q : ∀ t H', Same H H' → H' t = some (.tup [.str "UnknownKey", x]) → Q (.ref t) H') :
    wFit K A { nx := fun _ H' => Q .non H', rt := Q } (.ref A.CU) (some d) (L2.start ["_law_way", "_law_ks", "_law_v", "e"] [.int way, .ref p, v]) (upd H2 d (.xd (fs1 "UnknownKey" "key" [x]))) :=
  ⟨false, apUR, (fun q => nomatch q), fun _ => ⟨true, XU.me, fun _ a ha => ⟨_, rfl, rfl, rfl, d, _, _, rfl, upd_same, rfl, _, rfl, rfl, rfl, d, _, _, rfl, upd_same, rfl, (by show 2 ≤ sizeLine; decide), fun t ht => q t _ (Same.new (Same.new s2 hd) ht) upd_same⟩, fun q => nomatch q⟩⟩
theorem caughtA {H H2 : Hp} {way : Int} {p d : Addr} {v x : V} {Q : VK} (XA : XFacts K mg "AlreadyLiving" A.CA fA bmVE "ValueError.__new__")
    (apAR : PySem.W.exmOne K (.ref A.CA) (.ref A.CI) = some false)
    (apAU : PySem.W.exmOne K (.ref A.CA) (.ref A.CU) = some false) (s2 : Same H H2) (hd : H2 d = none)
    (q : ∀ t H', Same H H' → H' t = some (.tup [.str "AlreadyLiving", x]) → Q (.ref t) H') :
    wFit K A { nx := fun _ H' => Q .non H', rt := Q } (.ref A.CA) (some d) (L2.start ["_law_way", "_law_ks", "_law_v", "e"] [.int way, .ref p, v]) (upd H2 d (.xd (fs1 "AlreadyLiving" "key" [x]))) :=
  ⟨false, apAR, (fun q => nomatch q), fun _ => ⟨false, apAU, (fun q => nomatch q), fun _ => ⟨true, XA.me, fun _ a ha => ⟨_, rfl, rfl, rfl, d, _, _, rfl, upd_same, rfl, _, rfl, rfl, rfl, d, _, _, rfl, upd_same, rfl, (by show 2 ≤ sizeLine; decide), fun t ht => q t _ (Same.new (Same.new s2 hd) ht) upd_same⟩, fun q => nomatch q⟩⟩⟩
theorem caughtT {H H2 : Hp} {way : Int} {p d : Addr} {v x y : V} {Q : VK} (XT : XFacts K mg "TooMany" A.CT fT bmVE "ValueError.__new__")
    (apTR : PySem.W.exmOne K (.ref A.CT) (.ref A.CI) = some false)
    (apTU : PySem.W.exmOne K (.ref A.CT) (.ref A.CU) = some false)
    (apTA : PySem.W.exmOne K (.ref A.CT) (.ref A.CA) = some false) (s2 : Same H H2) (hd : H2 d = none)
    (q : ∀ t H', Same H H' → H' t = some (.tup [.str "TooMany", x, y]) → Q (.ref t) H') :
    wFit K A { nx := fun _ H' => Q .non H', rt := Q } (.ref A.CT) (some d) (L2.start ["_law_way", "_law_ks", "_law_v", "e"] [.int way, .ref p, v]) (upd H2 d (.xd (fs2 "TooMany" "what" "count" [x, y]))) :=
  ⟨false, apTR, (fun q => nomatch q), fun _ => ⟨false, apTU, (fun q => nomatch q), fun _ => ⟨false, apTA, (fun q => nomatch q), fun _ => ⟨true, XT.me, fun _ a ha => ⟨_, rfl, rfl, rfl, d, _, _, rfl, upd_same, rfl, _, rfl, rfl, rfl, d, _, _, rfl, upd_same, rfl, _, rfl, rfl, rfl, d, _, _, rfl, upd_same, rfl, (by show 3 ≤ sizeLine; decide), fun t ht => q t _ (Same.new (Same.new s2 hd) ht) upd_same⟩, fun q => nomatch q⟩⟩⟩⟩
theorem caughtN {H H2 : Hp} {way : Int} {p d : Addr} {v x y : V} {Q : VK} (XN : XFacts K mg "NeighbourMissed" A.CN fN bmVE "ValueError.__new__")
    (apNR : PySem.W.exmOne K (.ref A.CN) (.ref A.CI) = some false)
    (apNU : PySem.W.exmOne K (.ref A.CN) (.ref A.CU) = some false)
    (apNA : PySem.W.exmOne K (.ref A.CN) (.ref A.CA) = some false)
    (apNT : PySem.W.exmOne K (.ref A.CN) (.ref A.CT) = some false) (s2 : Same H H2) (hd : H2 d = none)
    (q : ∀ t H', Same H H' → H' t = some (.tup [.str "NeighbourMissed", x, y]) → Q (.ref t) H') :
    wFit K A { nx := fun _ H' => Q .non H', rt := Q } (.ref A.CN) (some d) (L2.start ["_law_way", "_law_ks", "_law_v", "e"] [.int way, .ref p, v]) (upd H2 d (.xd (fs2 "NeighbourMissed" "key" "neighbour" [x, y]))) :=
  ⟨false, apNR, (fun q => nomatch q), fun _ => ⟨false, apNU, (fun q => nomatch q), fun _ => ⟨false, apNA, (fun q => nomatch q), fun _ => ⟨false, apNT, (fun q => nomatch q), fun _ => ⟨true, XN.me, fun _ a ha => ⟨_, rfl, rfl, rfl, d, _, _, rfl, upd_same, rfl, _, rfl, rfl, rfl, d, _, _, rfl, upd_same, rfl, _, rfl, rfl, rfl, d, _, _, rfl, upd_same, rfl, (by show 3 ≤ sizeLine; decide), fun t ht => q t _ (Same.new (Same.new s2 hd) ht) upd_same⟩, fun q => nomatch q⟩⟩⟩⟩⟩
theorem ok_fitted {f C fF fB : Addr} {fd fdF fdB : FuncData} (F : Fun K "_law_fitted" "_law_fitted" s_l_fitted f fd)
    (gF' : mg "check_fits" = some (.ref fF)) (FF : FnOk P w K mg base (L2.CX P w) 8 fF fdF ["living", "row"] (spFit K C A)) (kF : PySem.W.keepIn K (.ref fF) = true) (bF : Binds K fdF ["living", "row"] []) (kbF : KBinds K fdF ["living", "row"] ["row", "living"] gF gF)
    (gB : mg "living_behind" = some (.ref fB)) (FB : FnOk P w K mg base (L2.CX P w) 9 fB fdB ["living", "row"] (spBeh K C A)) (kB : PySem.W.keepIn K (.ref fB) = true) (bB : Binds K fdB ["living", "row"] []) (kbB : KBinds K fdB ["living", "row"] ["row", "living"] gF gF)
    (XR : XFacts K mg "InvalidRow" A.CI fR bmVE "ValueError.__new__")
    (nRat : PySem.W.findIn K (.ref A.CI) "at" = some none)
    (XU : XFacts K mg "UnknownKey" A.CU fU bmLE "LookupError.__new__")
    (nUkey : PySem.W.findIn K (.ref A.CU) "key" = some none)
    (XA : XFacts K mg "AlreadyLiving" A.CA fA bmVE "ValueError.__new__")
    (nAkey : PySem.W.findIn K (.ref A.CA) "key" = some none)
    (XT : XFacts K mg "TooMany" A.CT fT bmVE "ValueError.__new__")
    (nTwhat : PySem.W.findIn K (.ref A.CT) "what" = some none)
    (nTcount : PySem.W.findIn K (.ref A.CT) "count" = some none)
    (XN : XFacts K mg "NeighbourMissed" A.CN fN bmVE "ValueError.__new__")
    (nNkey : PySem.W.findIn K (.ref A.CN) "key" = some none)
    (nNneighbour : PySem.W.findIn K (.ref A.CN) "neighbour" = some none)
    (apUR : PySem.W.exmOne K (.ref A.CU) (.ref A.CI) = some false)
    (apAR : PySem.W.exmOne K (.ref A.CA) (.ref A.CI) = some false)
    (apAU : PySem.W.exmOne K (.ref A.CA) (.ref A.CU) = some false)
    (apTR : PySem.W.exmOne K (.ref A.CT) (.ref A.CI) = some false)
    (apTU : PySem.W.exmOne K (.ref A.CT) (.ref A.CU) = some false)
    (apTA : PySem.W.exmOne K (.ref A.CT) (.ref A.CA) = some false)
    (apNR : PySem.W.exmOne K (.ref A.CN) (.ref A.CI) = some false)
    (apNU : PySem.W.exmOne K (.ref A.CN) (.ref A.CU) = some false)
    (apNA : PySem.W.exmOne K (.ref A.CN) (.ref A.CA) = some false)
    (apNT : PySem.W.exmOne K (.ref A.CN) (.ref A.CT) = some false) :
    FnOk P w K mg base CX0 10 f fd ["_law_way", "_law_ks", "_law_v"] (spFitted K C) := by
  refine F.ok sc_l_fitted (fun vs H Q E h => ?_) (fun cdv A' outer s H vs Q E hr h => ?_)
  · obtain ⟨way, p, ks, v, o, rfl, _⟩ := h
    rfl
  · obtain ⟨way, p, ks, v, o, rfl, w0, hs, hz, rv, k⟩ := h
    have hr8 : Room 8 _ := hr.mono (by decide)
    refine ⟨_, pss_one (ps_try_clauses (Wout := fun _ _ _ _ => False)
      (tb := fun W => tSeq (tIfS (tTest (tOp rEq (tVar 0) (tC (.int 0)))) (tRet (tTup (tCons (tC (.str "made")) (tCons (tCallS (spFit K C A) (WE W) (tCons (tVar 1) (tCons (tVar 2) tNil))) tNil)))) tNext)
        (tSeq (tIfS (tTest (tOp rEq (tVar 0) (tC (.int 1)))) (tRet (tTup (tCons (tC (.str "made")) (tCons (tKW (spFit K C A) gF (WE W) (tCons (tVar 2) (tCons (tVar 1) tNil))) tNil)))) tNext)
        (tRet (tTup (tCons (tC (.str "made")) (tCons (tIf (tTest (tOp rEq (tVar 0) (tC (.int 2)))) (tCallS (spBeh K C A) (WE W) (tCons (tVar 1) (tCons (tVar 2) tNil))) (tKW (spBeh K C A) gF (WE W) (tCons (tVar 2) (tCons (tVar 1) tNil)))) tNil))))))
      (wW := wFit K A)
      rfl rfl sc_l_fitted.nd takes0
      (fun W pn xe tk _ => pss_cons (ps_if (pt_cmpR op_eq (pv 0) pe_int (nomark _)) (pss_one (ps_ret (pe_tup (pa_cons pe_str (pa_cons (pe_callS FF hr8 (by rfl) gF' kF bF (fun σ => passAt tk σ) (pa_cons (pv 1) (pa_cons (pv 2) pa_nil))) pa_nil))))) pss_nil)
        (pss_cons (ps_if (pt_cmpR op_eq (pv 0) pe_int (nomark _)) (pss_one (ps_ret (pe_tup (pa_cons pe_str (pa_cons (pe_callKW FF hr8 (by rfl) gF' kF kbF (fun σ => passAt tk σ) (pk_cons (pv 2) (pk_cons (pv 1) pk_nil))) pa_nil))))) pss_nil)
        (pss_one (ps_ret (pe_tup (pa_cons pe_str (pa_cons (pe_ifExp (pt_cmpR op_eq (pv 0) pe_int (nomark _)) (pe_callS FB hr (by rfl) gB kB bB (fun σ => passAt tk σ) (pa_cons (pv 1) (pa_cons (pv 2) pa_nil))) (pe_callKW FB hr (by rfl) gB kB kbB (fun σ => passAt tk σ) (pk_cons (pv 2) (pk_cons (pv 1) pk_nil)))) pa_nil)))))))
      (fun D => (.more (i := 3) rfl rfl ⟨rfl, by decide, .inl XR.g⟩ (fun a oe cls d pn hz hf => pss_one (ps_ret (pe_tup (pa_cons (pe_xf XR.F XR.nC hz hf (pv 3)) (pa_cons (pe_xf XR.F nRat hz hf (pv 3)) pa_nil))))) (.more (i := 3) rfl rfl ⟨rfl, by decide, .inl XU.g⟩ (fun a oe cls d pn hz hf => pss_one (ps_ret (pe_tup (pa_cons (pe_xf XU.F XU.nC hz hf (pv 3)) (pa_cons (pe_xf XU.F nUkey hz hf (pv 3)) pa_nil))))) (.more (i := 3) rfl rfl ⟨rfl, by decide, .inl XA.g⟩ (fun a oe cls d pn hz hf => pss_one (ps_ret (pe_tup (pa_cons (pe_xf XA.F XA.nC hz hf (pv 3)) (pa_cons (pe_xf XA.F nAkey hz hf (pv 3)) pa_nil))))) (.more (i := 3) rfl rfl ⟨rfl, by decide, .inl XT.g⟩ (fun a oe cls d pn hz hf => pss_one (ps_ret (pe_tup (pa_cons (pe_xf XT.F XT.nC hz hf (pv 3)) (pa_cons (pe_xf XT.F nTwhat hz hf (pv 3)) (pa_cons (pe_xf XT.F nTcount hz hf (pv 3)) pa_nil)))))) (.more (i := 3) rfl rfl ⟨rfl, by decide, .inl XN.g⟩ (fun a oe cls d pn hz hf => pss_one (ps_ret (pe_tup (pa_cons (pe_xf XN.F XN.nC hz hf (pv 3)) (pa_cons (pe_xf XN.F nNkey hz hf (pv 3)) (pa_cons (pe_xf XN.F nNneighbour hz hf (pv 3)) pa_nil)))))) .done))))))), ?_⟩
    have wish : ∀ r, fitO ks o = r → ∀ X fs, exOf A r = some (X, fs) → ∀ d H', Same H H' → H' d = none → wFit K A { nx := fun _ H' => Q .non H', rt := Q } (.ref X) (some d) (L2.start ["_law_way", "_law_ks", "_law_v", "e"] [.int way, .ref p, v]) (upd H' d (.xd fs)) := fun r er X fs e d H2 s2 hd => by
      have told : (∀ t H', H' t = some (.tup (ofRes r)) → TellT H' t way ks o) → ∀ t H', Same H H' → H' t = some (.tup (ofRes r)) → Q (.ref t) H' := fun g t H' s' h => k t H' s' (g t H' h)
      cases r with
      | ok => cases e
      | row0 => cases e; exact caughtR XR s2 hd (told fun t H' h => by unfold TellT; rw [er]; exact h)
      | unk z => cases e; exact caughtU XU apUR s2 hd (told fun t H' h => by unfold TellT; rw [er]; exact h)
      | alr z => cases e; exact caughtA XA apAR apAU s2 hd (told fun t H' h => by unfold TellT; rw [er]; exact h)
      | many c => cases e; exact caughtT XT apTR apTU apTA s2 hd (told fun t H' h => by unfold TellT; rw [er]; exact h)
      | miss a z => cases e; exact caughtN XN apNR apNU apNA apNT s2 hd (told fun t H' h => by unfold TellT; rw [er]; exact h)
    have tf : way < 2 → fitO ks o = .ok → ∀ H', Same H H' → [V.str "made", V.non].length ≤ sizeLine ∧ ∀ t, H' t = none → Q (.ref t) (upd H' t (.tup [.str "made", .non])) := fun hw e H' s' =>
      ⟨(by show 2 ≤ sizeLine; decide), fun t ht => k t _ (Same.new s' ht) (by unfold TellT; rw [e]; exact ⟨fun _ => upd_same, fun h => absurd hw (by omega)⟩)⟩
    have tb : 2 ≤ way → ∀ ls up dn, o = some (ls, up, dn) → fitR ks ls up dn = .ok → ∀ b bs H', H b = none → Same H H' → List.Perm bs (stay ks up dn) → bs.Pairwise (· ≤ ·) → H' b = some (.tup (bs.map V.int)) →
        [V.str "made", V.ref b].length ≤ sizeLine ∧ ∀ t, H' t = none → Q (.ref t) (upd H' t (.tup [.str "made", .ref b])) := fun hw ls up dn eo e b bs H' hb s' hp hsd hB =>
      ⟨(by show 2 ≤ sizeLine; decide), fun t ht => k t _ (Same.new s' ht) (by
        unfold TellT
        rw [show fitO ks o = .ok by rw [eo]; exact e]
        exact ⟨fun h => absurd hw (by omega), fun _ => ⟨b, bs, ls, up, dn, eo, upd_same, by rw [upd_ne (ne_of_none hB ht)]; exact hB, hp, hsd⟩⟩)⟩
    have e01 : ∀ n : Int, decide (V.int way = V.int n) = decide (way = n) := fun n => by
      by_cases h : way = n
      · rw [h, decide_eq_true rfl, decide_eq_true rfl]
      · rw [decide_eq_false h, decide_eq_false fun e => h (V.int.inj e)]
    refine ⟨_, rfl, rfl, _, rfl, ?_⟩
    rw [e01]
    by_cases h0 : way = 0
    · rw [decide_eq_true h0]
      refine iteT ⟨_, rfl, _, rfl, p, ks, v, o, rfl, hs, by omega, rv, fun e H' s' => tf (by omega) e H' s', fun X fs e d H' s' hd => ?_⟩
      exact wish _ rfl X fs e d H' s' hd
    rw [decide_eq_false h0]
    refine iteF ⟨_, rfl, rfl, _, rfl, ?_⟩
    rw [e01]
    by_cases h1 : way = 1
    · rw [decide_eq_true h1]
      refine iteT ⟨_, rfl, _, rfl, p, ks, v, o, rfl, hs, by omega, rv, fun e H' s' => tf (by omega) e H' s', fun X fs e d H' s' hd => ?_⟩
      exact wish _ rfl X fs e d H' s' hd
    rw [decide_eq_false h1]
    refine iteF ⟨_, rfl, rfl, _, rfl, ?_⟩
    rw [e01]
    by_cases h2 : way = 2
    · rw [decide_eq_true h2]
      exact iteT ⟨_, rfl, _, rfl, p, ks, v, o, rfl, hs, hz, rv, fun ls up dn eo e b bs H' hb s' hp hsd hB => tb (by omega) ls up dn eo e b bs H' hb s' hp hsd hB, fun X fs e d H' s' hd => wish _ rfl X fs e d H' s' hd⟩
    · rw [decide_eq_false h2]
      exact iteF ⟨_, rfl, _, rfl, p, ks, v, o, rfl, hs, hz, rv, fun ls up dn eo e b bs H' hb s' hp hsd hB => tb (by omega) ls up dn eo e b bs H' hb s' hp hsd hB, fun X fs e d H' s' hd => wish _ rfl X fs e d H' s' hd⟩
end
end K04

end

section
set_option Elab.async false
set_option linter.all false
set_option maxRecDepth 100000
set_option maxHeartbeats 4000000
namespace K04
open PySem L2 SB
def NVk (b : Addr) (K : PySem.W.Frag) (H : Hp) (x : V) : Prop := ∃ o, ∀ H', Keep b H H' → NV K H' x o
/-- a value that is no row, and of which it is known whether it is a key set -/
def Item (b : Addr) (K : PySem.W.Frag) (C : Addr) (H : Hp) (y : V) : Prop := ∃ r o, ∀ H', Keep b H H' → OddV K C H' y ∧ SV K H' y r ∧ NV K H' y o
theorem Item.keep {b C : Addr} {K : PySem.W.Frag} {H H' : Hp} {y : V} (x : Item b K C H y) (k : Keep b H H') : Item b K C H' y := let ⟨r, o, h⟩ := x; ⟨r, o, fun H2 k2 => h H2 (k.trans k2)⟩
theorem Item.nv {b C : Addr} {K : PySem.W.Frag} {H : Hp} {y : V} (x : Item b K C H y) : NVk b K H y := let ⟨r, o, h⟩ := x; ⟨o, fun H' k => (h H' k).2.2⟩
theorem NVk.keep {b : Addr} {K : PySem.W.Frag} {H H' : Hp} {y : V} (x : NVk b K H y) (k : Keep b H H') : NVk b K H' y := let ⟨o, h⟩ := x; ⟨o, fun H2 k2 => h H2 (k.trans k2)⟩
def tyN : List String := ["NoneType", "bool", "int", "str", "list", "dict", "tuple"]
def NotRow (K : PySem.W.Frag) (C : Addr) : Prop := ∀ T ∈ tyN, PySem.W.kitOne K (.type T) (.ref C) = some false
theorem it_ty {b C : Addr} {K : PySem.W.Frag} {H : Hp} {y : V} {T : String} {b1 b2 : Bool} (O : NotRow K C) (hT : T ∈ tyN) (ty : ∀ H', Keep b H H' → TyX K H' y (.type T)) (h0 : kitB T "tuple" = some false) (h1 : kitB T "int" = some b1) (h2 : kitB T "bool" = some b2) (h : (b1 && !b2) = false) : Item b K C H y :=
  ⟨false, none, fun H' k => ⟨⟨_, ty H' k, O T hT⟩, .inl ⟨_, ty H' k, kit_ty h0, rfl⟩, .no _ b1 b2 (ty H' k) (kit_ty h1) (kit_ty h2) h⟩⟩
theorem it_non {b C : Addr} {K : PySem.W.Frag} {H : Hp} (O : NotRow K C) : Item b K C H .non := it_ty (T := "NoneType") (b1 := false) (b2 := false) O (by simp [tyN]) (fun _ _ => .base .non) (by decide +kernel) (by decide +kernel) (by decide +kernel) rfl
theorem it_bl {b C : Addr} {K : PySem.W.Frag} {H : Hp} (O : NotRow K C) (x : Bool) : Item b K C H (.bl x) := it_ty (T := "bool") (b1 := true) (b2 := true) O (by simp [tyN]) (fun _ _ => .base (.bl x)) (by decide +kernel) (by decide +kernel) (by decide +kernel) rfl
theorem it_str {b C : Addr} {K : PySem.W.Frag} {H : Hp} (O : NotRow K C) (x : Str) : Item b K C H (.str x) := it_ty (T := "str") (b1 := false) (b2 := false) O (by simp [tyN]) (fun _ _ => .base (.str x)) (by decide +kernel) (by decide +kernel) (by decide +kernel) rfl
theorem it_int {b C : Addr} {K : PySem.W.Frag} {H : Hp} (O : NotRow K C) (x : Int) : Item b K C H (.int x) :=
  ⟨false, some x, fun H' k => ⟨⟨_, .base (.int x), O "int" (by simp [tyN])⟩, .inl ⟨_, .base (.int x), kit_ty (by decide +kernel), rfl⟩, .int x⟩⟩
theorem it_lst {b C p : Addr} {K : PySem.W.Frag} {H : Hp} {xs : List V} (O : NotRow K C) (h : H p = some (.lst xs)) (n : p ≠ b) : Item b K C H (.ref p) :=
  it_ty (T := "list") (b1 := false) (b2 := false) O (by simp [tyN]) (fun _ k => .base (.lst (k _ _ h n))) (by decide +kernel) (by decide +kernel) (by decide +kernel) rfl
theorem it_dK {b C p : Addr} {K : PySem.W.Frag} {H : Hp} {xs : List (Key × V)} (O : NotRow K C) (h : H p = some (.dK xs)) (n : p ≠ b) : Item b K C H (.ref p) :=
  it_ty (T := "dict") (b1 := false) (b2 := false) O (by simp [tyN]) (fun _ k => .base (.dK (k _ _ h n))) (by decide +kernel) (by decide +kernel) (by decide +kernel) rfl
theorem pair_nv {b : Addr} {K : PySem.W.Frag} {H : Hp} : ∀ {xs : List V}, (∀ x ∈ xs, NVk b K H x) → ∃ os, ∀ H', Keep b H H' → Paired (NV K H') xs os
  | [], _ => ⟨[], fun _ _ => .nil⟩
  | x :: xs, h => by
    obtain ⟨o, ho⟩ := h x List.mem_cons_self
    obtain ⟨os, hos⟩ := pair_nv (xs := xs) fun y hy => h y (List.mem_cons_of_mem _ hy)
    exact ⟨o :: os, fun H' k => .cons (ho H' k) (hos H' k)⟩
theorem it_seq {b C p : Addr} {K : PySem.W.Frag} {H : Hp} {xs : List V} (O : NotRow K C) (h : SqT K H p xs) (n : p ≠ b) (hz : xs.length ≤ 2000) (hx : ∀ x ∈ xs, NVk b K H x) : Item b K C H (.ref p) := by
  obtain ⟨os, hos⟩ := pair_nv hx
  exact ⟨setB os, none, fun H' k => ⟨⟨_, ty_tup (seqT_keep k n h), O "tuple" (by simp [tyN])⟩, .inr ⟨p, xs, os, rfl, seqT_keep k n h, hz, hos H' k, rfl⟩, .no _ false false (ty_tup (seqT_keep k n h)) (kit_ty (by decide +kernel)) (kit_ty (by decide +kernel)) rfl⟩⟩
/-- what has been gathered so far -/
structure Got (b l : Addr) (K : PySem.W.Frag) (C : Addr) (H0 H : Hp) (vs : List V) : Prop where
  B : BagL H b l
  k : Keep b H0 H
  all : ∀ v ∈ vs, Item b K C H v
section
variable {b l C : Addr} {K : PySem.W.Frag} {H0 H H' : Hp} {vs : List V}
theorem Got.val (g : Got b l K C H0 H vs) {w : V} (i : Item b K C H w) : Got b l K C H0 H (vs ++ [w]) := ⟨g.B, g.k, fun v h => (List.mem_append.mp h).elim (g.all v) fun h => by
  have : v = w := by simpa using h
  rw [this]; exact i⟩
theorem Got.skip (g : Got b l K C H0 H vs) {p : Addr} (hp : H p = none) (o : HO) : Got b l K C H0 (upd H p o) vs := ⟨g.B.new hp, g.k.new hp, fun v h => (g.all v h).keep (Keep.new (Keep.refl b H) hp)⟩
theorem Got.put (g : Got b l K C H0 H vs) {p : Addr} (hp : H p = none) {o : HO} (i : Item b K C (upd H p o) (.ref p)) : Got b l K C H0 (upd H p o) (vs ++ [.ref p]) := (g.skip hp o).val i
theorem Got.lst (g : Got b l K C H0 H vs) (O : NotRow K C) {p : Addr} (hp : H p = none) (xs : List V) : Got b l K C H0 (upd H p (.lst xs)) (vs ++ [.ref p]) := g.put hp (it_lst O upd_same (g.B.ne hp))
theorem Got.dK (g : Got b l K C H0 H vs) (O : NotRow K C) {p : Addr} (hp : H p = none) (xs : List (Key × V)) : Got b l K C H0 (upd H p (.dK xs)) (vs ++ [.ref p]) := g.put hp (it_dK O upd_same (g.B.ne hp))
theorem Got.tup (g : Got b l K C H0 H vs) (O : NotRow K C) {p : Addr} (hp : H p = none) {xs : List V} (hz : xs.length ≤ 2000) (hx : ∀ x ∈ xs, NVk b K H x) : Got b l K C H0 (upd H p (.tup xs)) (vs ++ [.ref p]) :=
  g.put hp (it_seq O (SqT.of upd_same) (g.B.ne hp) hz fun x h => (hx x h).keep (Keep.new (Keep.refl b H) hp))
theorem Got.app {H1 : Hp} {ws : List V} (g : Got b l K C H0 H1 vs) (g' : Got b l K C H1 H' ws) : Got b l K C H0 H' (vs ++ ws) := ⟨g'.B, g.k.trans g'.k, fun v h => (List.mem_append.mp h).elim (fun h => (g.all v h).keep g'.k) (g'.all v)⟩
theorem Got.go (g : Got b l K C H0 H vs) (B : BagL H' b l) (k : Keep b H H') : Got b l K C H0 H' vs := ⟨B, g.k.trans k, fun v h => (g.all v h).keep k⟩
end
theorem allA {b : Addr} {K : PySem.W.Frag} {H : Hp} {xs ys : List V} (h : ∀ y ∈ xs, NVk b K H y) (g : ∀ y ∈ ys, NVk b K H y) : ∀ y ∈ xs ++ ys, NVk b K H y := fun y hy => (List.mem_append.mp hy).elim (h y) (g y)
theorem all1 {b : Addr} {K : PySem.W.Frag} {H : Hp} {x : V} (h : NVk b K H x) : ∀ y ∈ [x], NVk b K H y := fun y hy => by
  have : y = x := by simpa using hy
  rw [this]; exact h
theorem all2 {b : Addr} {K : PySem.W.Frag} {H : Hp} {x z : V} (h : NVk b K H x) (g : NVk b K H z) : ∀ y ∈ [x, z], NVk b K H y := fun y hy => by
  simp only [List.mem_cons, List.not_mem_nil, or_false] at hy
  rcases hy with rfl | rfl
  · exact h
  · exact g
/-- a value that is no row and no lot, whatever is drawn later -/
def Odd (b : Addr) (K : PySem.W.Frag) (C : Addr) (H : Hp) (v : V) : Prop := ∀ H', Keep b H H' → OddV K C H' v ∧ LV K H' v false
theorem odd_of {b C : Addr} {K : PySem.W.Frag} {H : Hp} {v : V} {o : Option Int} (h : ∀ H', Keep b H H' → OddV K C H' v ∧ SV K H' v false ∧ NV K H' v o) : Odd b K C H v := fun H' k => by
  obtain ⟨h1, h2, _⟩ := h H' k
  refine ⟨h1, ?_⟩
  rcases h2 with ⟨t, h1, h2, h3⟩ | ⟨a, xs, os, h1, h2, hz, h3, h4⟩
  · exact .inl ⟨t, h1, h2, rfl⟩
  · exact .inr ⟨a, xs, os, h1, h2, hz, h3, by rw [← h4]; rfl⟩
theorem odd_lst {b C p : Addr} {K : PySem.W.Frag} {H : Hp} {xs : List V} (O : NotRow K C) (h : H p = some (.lst xs)) (n : p ≠ b) : Odd b K C H (.ref p) := fun H' k =>
  ⟨⟨_, .base (.lst (k _ _ h n)), O "list" (by simp [tyN])⟩, .inl ⟨_, .base (.lst (k _ _ h n)), kit_ty (by decide +kernel), rfl⟩⟩
theorem cut_tail (z : V) (B : List V) : cutV (z :: B) (some 1) none = B := by
  unfold cutV
  rw [HT.sIx_none, show HT.sIx (z :: B).length 0 (some 1) = min 1 (z :: B).length from HT.sIx_nat _ _ 1, List.length_cons, show min 1 (B.length + 1) = 1 by omega, List.drop_one, List.tail_cons, List.take_of_length_le (by omega)]
def spOdd (K : PySem.W.Frag) (C : Addr) : Sp := fun vs H Q _ => ∃ (b l p m : Addr) (ls : List Int), vs = [.ref b, .ref p, .ref m] ∧ BagL H b l ∧ p ≠ b ∧ SqT K H p (ls.map V.int) ∧ 0 < ls.length ∧ ls.length ≤ 1000 ∧ H m = some (.lst []) ∧ m ≠ b ∧
  ∀ v H', Odd b K C H' v → BagL H' b l → Keep b H H' → Q v H'
section
variable {P : Program} {w : World} {K : PySem.W.Frag} {mg : Str → Option Value} {base : Heap}
theorem ok_oddset {f C fO fS : Addr} {fd fdO fdS : FuncData} (F : Fun K "_law_odd_set" "_law_odd_set" s_l_odd_set f fd) (O : NotRow K C) (gLen : mg "len" = none) (gLst : mg "list" = none)
    (gO : mg "_law_of" = some (.ref fO)) (FO : FnOk P w K mg base CX0 2 fO fdO ["_law_bag_here", "_law_some"] (spOfL K)) (kO : PySem.W.keepIn K (.ref fO) = true) (bO : Binds K fdO ["_law_bag_here", "_law_some"] [])
    (gS : mg "_law_is_set" = some (.ref fS)) (FS : FnOk P w K mg base CX0 2 fS fdS ["_law_v"] (spSet K)) (kS : PySem.W.keepIn K (.ref fS) = true) (bS : Binds K fdS ["_law_v"] []) :
    FnOk P w K mg base CX0 3 f fd ["_law_bag_here", "_law_ks", "_law_more"] (spOdd K C) := by
  refine F.ok sc_l_odd_set (fun vs H Q E h => ?_) (fun cdv A outer s H vs Q E hr h => ?_)
  · obtain ⟨b, l, p, m, ls, rfl, _⟩ := h
    rfl
  · obtain ⟨b, l, p, m, ls, rfl, B, npb, hs, h0, hz, hm, nmb, k⟩ := h
    have nd := sc_l_odd_set.nd
    refine ⟨_, pss_cut (ps_set (i := 3) nd rfl (Or.inl rfl) (pe_call FO hr (by rfl) gO kO bO .nil pass0 (pa_cons (pv 0) (pa_cons (pe_op op_cat (pe_callTy call_list_of (by rfl) gLst (by decide +kernel) (pa_cons (pv 1) pa_nil)) (pe_lst (pa_cons pe_int pa_nil))) pa_nil))))
      (pss_cut (ps_set (i := 4) nd rfl (Or.inl rfl) (pe_lst (pa_cons pe_non (pa_cons pe_bl (pa_cons pe_bl (pa_cons pe_int (pa_cons pe_int (pa_cons (pe_un un_neg pe_int) (pa_cons pe_str (pa_cons pe_str (pa_cons pe_str (pa_cons (pe_lst pa_nil) (pa_cons (pe_lst (pa_cons (pv 3) pa_nil)) (pa_cons (pe_callTy call_list_of (by rfl) gLst (by decide +kernel) (pa_cons (pv 1) pa_nil)) (pa_cons pe_dnewK (pa_cons (pe_disp (pps_cons (pv 3) pe_int pps_nil) (by rfl) (by rfl) (fun z => by cases z) (by decide)) (pa_cons (pe_tup (pa_cons pe_bl pa_nil)) (pa_cons (pe_tup (pa_cons (pv 3) (pa_cons (pv 3) pa_nil))) (pa_cons (pe_tup (pa_cons pe_int (pa_cons pe_int pa_nil))) (pa_cons (pe_tup (pa_cons (pe_un un_neg pe_int) pa_nil)) pa_nil))))))))))))))))))))
      (pss_cut (ps_set (i := 4) nd rfl (Or.inl rfl) (pe_op op_cat (pv 4) (pe_lst (pa_cons (pe_tup (pa_cons pe_int (pa_cons pe_int pa_nil))) (pa_cons (pe_tup (pa_cons pe_non pa_nil)) (pa_cons (pe_tup (pa_cons pe_str pa_nil)) (pa_cons (pe_tup (pa_cons (pe_tup (pa_cons (pv 3) pa_nil)) pa_nil)) (pa_cons (pe_tup (pa_cons (pe_lst (pa_cons (pv 3) pa_nil)) pa_nil)) (pa_cons (pe_op op_catT (pv 1) (pe_tup (pa_cons pe_bl pa_nil))) (pa_cons (pe_op op_catT (pe_tup (pa_cons pe_bl pa_nil)) (pv 1)) (pa_cons (pe_op op_catT (pv 1) (pe_tup (pa_cons pe_int pa_nil))) (pa_cons (pe_op op_catT (pe_tup (pa_cons (pe_un un_neg pe_int) pa_nil)) (pv 1)) (pa_cons (pe_op op_catT (pv 1) (pe_tup (pa_cons pe_int (pa_cons pe_int pa_nil)))) pa_nil)))))))))))))
      (pss_cut (ps_if (pt_cmpR op_gt (pe_callB call_len_seq (by rfl) gLen PySem.boot_len (pa_cons (pv 1) pa_nil)) pe_int (nomark _)) (pss_one (ps_set (i := 4) nd rfl (Or.inl rfl) (pe_op op_cat (pv 4) (pe_lst (pa_cons (pe_revT (pv 1)) (pa_cons (pe_op op_catT (pv 1) (pe_slice sl_tup (pv 1) (po_some (pe_un un_neg pe_int)) po_none)) (pa_cons (pe_op op_catT (pe_slice sl_tup (pv 1) po_none (po_some pe_int)) (pv 1)) (pa_cons (pe_op op_catT (pe_slice sl_tup (pv 1) (po_some pe_int) po_none) (pe_slice sl_tup (pv 1) po_none (po_some pe_int))) (pa_cons (pv 1) pa_nil))))))))) pss_nil)
      (pss_cons (ps_set (i := 5) nd rfl (Or.inl rfl) (pe_call FO hr (by rfl) gO kO bO .nil pass0 (pa_cons (pv 0) (pa_cons (pe_op op_cat (pv 4) (pv 2)) pa_nil))))
      (pss_one (ps_ret (pe_ifExp (pt_not (pt_val (pe_call FS hr (by rfl) gS kS bS .nil pass0 (pa_cons (pv 5) pa_nil)))) (pv 5) (pe_callTy call_list_of (by rfl) gLst (by decide +kernel) (pa_cons (pv 5) pa_nil))))))))), ?_⟩
    have G0 : Got b l K C H H [] := ⟨B, Keep.refl b H, fun v h => by cases h⟩
    have iI : ∀ {G : Hp} (x : Int), NVk b K G (.int x) := fun x => (it_int O x).nv
    have iB : ∀ {G : Hp} (x : Bool), NVk b K G (.bl x) := fun x => (it_bl O x).nv
    have iL : ∀ {G : Hp} {x : V}, x ∈ ls.map V.int → NVk b K G x := fun h => by
      obtain ⟨z, rfl, _⟩ := mem_ints h
      exact iI z
    refine ⟨fun σ H' => ∃ z : Int, σ = [some (.ref b), some (.ref p), some (.ref m), some (.int z), none, none] ∧ Got b l K C H H' [], ?_, ?_⟩
    · refine ⟨_, rfl, _, rfl, p, _, rfl, .inr hs, fun a1 h1 => ⟨(by show 1 ≤ sizeLine; decide), fun a2 h2 => ?_⟩⟩
      refine ⟨a1, a2, _, _, rfl, rfl, by rw [upd_ne (ne_of_none upd_same h2), upd_same], upd_same, by rw [List.length_map, sizeLine_eq]; show ls.length + 1 ≤ _; omega, fun a3 h3 => ?_⟩
      have g3 := ((G0.skip h1 (.lst (ls.map V.int))).skip h2 (.lst [.int 7])).skip h3 (.lst (ls.map V.int ++ [.int 7]))
      refine of_seqL (E := E0) g3.B (((B.new h1).new h2).ne h3) (.inl (SqL.of upd_same)) (by rw [List.length_append]; show 0 < _ + 1; omega) (by rw [List.length_append, List.length_map]; show _ + 1 < _; omega) fun v H4 hv B4 k4 _ => ?_
      obtain ⟨z, rfl⟩ : ∃ z : Int, v = .int z := by
        rcases List.mem_append.mp hv with hv | hv
        · obtain ⟨z, e, _⟩ := mem_ints hv
          exact ⟨z, e⟩
        · exact ⟨7, by simpa using hv⟩
      exact ⟨z, rfl, g3.go B4 k4⟩
    rintro σ H1 ⟨z, rfl, G1⟩
    have hs1 := seqT_keep G1.k npb hs
    refine ⟨fun σ H' => ∃ q vs, σ = [some (.ref b), some (.ref p), some (.ref m), some (.int z), some (.ref q), none] ∧ H' q = some (.lst vs) ∧ vs.length = 18 ∧ Got b l K C H H' vs, ?_, ?_⟩
    · refine ⟨_, rfl, (by decide), fun a1 h1 => ?_⟩
      refine ⟨_, rfl, (by show 1 ≤ sizeLine; decide), fun a2 h2 => ?_⟩
      have hsA := sqT_same (Same.new (Same.new (Same.refl H1) (o := .lst []) h1) (o := .lst [.int z]) h2) hs1
      refine ⟨_, rfl, p, _, rfl, .inr hsA, fun a3 h3 => ?_⟩
      refine fun a4 h4 => fun a5 h5 => ⟨_, rfl, upd_same, [(.inl z, .int 1)], rfl, (by show 1 ≤ 15; decide), ?_⟩
      rw [upd_upd]
      refine ⟨(by show 1 ≤ sizeLine; decide), fun a6 h6 => ?_⟩
      refine ⟨_, rfl, _, rfl, (by show 2 ≤ sizeLine; decide), fun a7 h7 => ?_⟩
      refine ⟨(by show 2 ≤ sizeLine; decide), fun a8 h8 => ?_⟩
      refine ⟨_, rfl, (by show 1 ≤ sizeLine; decide), fun a9 h9 => ?_⟩
      refine ⟨(by show 18 ≤ sizeLine; decide), fun q hq => ?_⟩
      have g1 := ((((((((G1.val (it_non O)).val (it_bl O true)).val (it_bl O false)).val (it_int O 0)).val (it_int O 5)).val (it_int O (-1))).val (it_str O "")).val (it_str O "1")).val (it_str O "1 2")
      have g5 := (((g1.lst O h1 []).lst O h2 [.int z]).lst O h3 (ls.map V.int)).dK O h4 []
      have g6 := g5.dK O h5 (mergeK [] [(.inl z, .int 1)])
      have g7 := g6.tup O h6 (xs := [.bl true]) (by decide) (all1 (iB true))
      have g8 := g7.tup O h7 (xs := [.int z, .int z]) (by show 2 ≤ 2000; decide) (all2 (iI z) (iI z))
      have g9 := g8.tup O h8 (xs := [.int 5, .int 3]) (by decide) (all2 (iI 5) (iI 3))
      have g10 := (g9.tup O h9 (xs := [.int (-1)]) (by decide) (all1 (iI (-1)))).skip hq (.lst [.non, .bl true, .bl false, .int 0, .int 5, .int (-1), .str "", .str "1", .str "1 2", .ref a1, .ref a2, .ref a3, .ref a4, .ref a5, .ref a6, .ref a7, .ref a8, .ref a9])
      exact ⟨q, _, rfl, upd_same, rfl, g10⟩
    rintro σ H2 ⟨q, vs, rfl, hq, hv, G2⟩
    refine ⟨fun σ H' => ∃ q vs, σ = [some (.ref b), some (.ref p), some (.ref m), some (.int z), some (.ref q), none] ∧ H' q = some (.lst vs) ∧ vs.length = 28 ∧ Got b l K C H H' vs, ?_, ?_⟩
    · have N0 : Got b l K C H2 H2 [] := ⟨G2.B, Keep.refl b H2, fun v h => by cases h⟩
      have hs2 := seqT_keep G2.k npb hs
      have sP : ∀ {G : Hp} {ws : List V}, Got b l K C H2 G ws → SqT K G p (ls.map V.int) := fun g => seqT_keep g.k npb hs2
      have hne : ls.map V.int ≠ [] := fun e => by
        have := congrArg List.length e
        rw [List.length_map] at this
        simp only [List.length_nil] at this
        omega
      refine ⟨_, rfl, (by show 2 ≤ sizeLine; decide), fun a1 h1 => ?_⟩
      have g1 := N0.tup O h1 (xs := [.int 0, .int 1000]) (by show 2 ≤ 2000; decide) (all2 (iI 0) (iI 1000))
      refine ⟨(by show 1 ≤ sizeLine; decide), fun a2 h2 => ?_⟩
      have g2 := g1.tup O h2 (xs := [.non]) (by decide) (all1 (it_non O).nv)
      refine ⟨(by show 1 ≤ sizeLine; decide), fun a3 h3 => ?_⟩
      have g3 := g2.tup O h3 (xs := [.str "1"]) (by decide) (all1 (it_str O "1").nv)
      refine ⟨_, rfl, (by show 1 ≤ sizeLine; decide), fun i4 e4 => ⟨(by show 1 ≤ sizeLine; decide), fun a4 h4 => ?_⟩⟩
      have f4 := (g3.tup O e4 (xs := [.int z]) (by show 1 ≤ 2000; decide) (all1 (iI z))).all (.ref i4) (by simp)
      have g4 := (g3.skip e4 (.tup [.int z])).tup O h4 (xs := [.ref i4]) (by show 1 ≤ 2000; decide) (all1 f4.nv)
      refine ⟨_, rfl, (by show 1 ≤ sizeLine; decide), fun i5 e5 => ⟨(by show 1 ≤ sizeLine; decide), fun a5 h5 => ?_⟩⟩
      have f5 := (g4.lst O e5 [.int z]).all (.ref i5) (by simp)
      have g5 := (g4.skip e5 (.lst [.int z])).tup O h5 (xs := [.ref i5]) (by show 1 ≤ 2000; decide) (all1 f5.nv)
      refine ⟨_, rfl, (by show 1 ≤ sizeLine; decide), fun i6 e6 => ?_⟩
      have f6 := g5.skip e6 (.tup [.bl true])
      refine ⟨p, i6, _, _, rfl, rfl, sP f6, SqT.of upd_same, hne, (by rw [List.length_map, sizeLine_eq]; show ls.length + 1 ≤ _; omega), (fun e => nomatch e), fun _ a6 h6 => ?_⟩
      have g6 := f6.tup O h6 (xs := ls.map V.int ++ [.bl true]) (by rw [List.length_append, List.length_map]; show ls.length + 1 ≤ 2000; omega) (allA (fun y hy => iL hy) (all1 (iB true)))
      refine ⟨(by show 1 ≤ sizeLine; decide), fun i7 e7 => ?_⟩
      have f7 := g6.skip e7 (.tup [.bl false])
      refine ⟨_, rfl, i7, p, _, _, rfl, rfl, SqT.of upd_same, sP f7, (fun e => nomatch e), (by rw [List.length_map, sizeLine_eq]; show 1 + ls.length ≤ _; omega), (fun e => absurd e hne), fun _ a7 h7 => ?_⟩
      have g7 := f7.tup O h7 (xs := [.bl false] ++ ls.map V.int) (by rw [List.length_append, List.length_map]; show 1 + ls.length ≤ 2000; omega) (allA (all1 (iB false)) (fun y hy => iL hy))
      refine ⟨_, rfl, (by show 1 ≤ sizeLine; decide), fun i8 e8 => ?_⟩
      have f8 := g7.skip e8 (.tup [.int 1000])
      refine ⟨p, i8, _, _, rfl, rfl, sP f8, SqT.of upd_same, hne, (by rw [List.length_map, sizeLine_eq]; show ls.length + 1 ≤ _; omega), (fun e => nomatch e), fun _ a8 h8 => ?_⟩
      have g8 := f8.tup O h8 (xs := ls.map V.int ++ [.int 1000]) (by rw [List.length_append, List.length_map]; show ls.length + 1 ≤ 2000; omega) (allA (fun y hy => iL hy) (all1 (iI 1000)))
      refine ⟨_, rfl, (by show 1 ≤ sizeLine; decide), fun i9 e9 => ?_⟩
      have f9 := g8.skip e9 (.tup [.int (-1)])
      refine ⟨_, rfl, i9, p, _, _, rfl, rfl, SqT.of upd_same, sP f9, (fun e => nomatch e), (by rw [List.length_map, sizeLine_eq]; show 1 + ls.length ≤ _; omega), (fun e => absurd e hne), fun _ a9 h9 => ?_⟩
      have g9 := f9.tup O h9 (xs := [.int (-1)] ++ ls.map V.int) (by rw [List.length_append, List.length_map]; show 1 + ls.length ≤ 2000; omega) (allA (all1 (iI (-1))) (fun y hy => iL hy))
      refine ⟨_, rfl, (by show 2 ≤ sizeLine; decide), fun i10 e10 => ?_⟩
      have f10 := g9.skip e10 (.tup [.int 0, .int 0])
      refine ⟨p, i10, _, _, rfl, rfl, sP f10, SqT.of upd_same, hne, (by rw [List.length_map, sizeLine_eq]; show ls.length + 2 ≤ _; omega), (fun e => nomatch e), fun _ a10 h10 => ?_⟩
      have g10 := f10.tup O h10 (xs := ls.map V.int ++ [.int 0, .int 0]) (by rw [List.length_append, List.length_map]; show ls.length + 2 ≤ 2000; omega) (allA (fun y hy => iL hy) (all2 (iI 0) (iI 0)))
      refine ⟨(by show 10 ≤ sizeLine; decide), fun m2 hm2 => ?_⟩
      have gA := g10.skip hm2 (.lst [.ref a1, .ref a2, .ref a3, .ref a4, .ref a5, .ref a6, .ref a7, .ref a8, .ref a9, .ref a10])
      have qb : q ≠ b := fun e => by
        obtain ⟨ns, i, g, m, c, hb, _⟩ := G2.B
        rw [e, hb] at hq
        cases hq
        simp at hv
      refine ⟨q, m2, _, _, rfl, rfl, gA.k _ _ hq qb, upd_same, (by rw [hv]; show 18 + 10 ≤ sizeLine; decide), fun q2 hq2 => ?_⟩
      exact ⟨q2, _, rfl, upd_same, (by rw [List.length_append, hv]; rfl), G2.app (gA.skip hq2 _)⟩
    rintro σ H3 ⟨q3, vs3, rfl, hq3, hv3, G3⟩
    refine ⟨fun σ H' => ∃ q vs, σ = [some (.ref b), some (.ref p), some (.ref m), some (.int z), some (.ref q), none] ∧ H' q = some (.lst vs) ∧ 28 ≤ vs.length ∧ vs.length ≤ 40 ∧ Got b l K C H H' vs, ?_, ?_⟩
    · have hs3 := seqT_keep G3.k npb hs
      refine ⟨_, rfl, p, _, rfl, .inr hs3, _, _, rfl, rfl, _, rfl, ite2 (fun h => ?_) (fun h => ⟨q3, vs3, rfl, hq3, by omega, by omega, G3⟩)⟩
      rw [List.length_map] at h
      have h2 : 2 ≤ ls.length := by have := of_decide_eq_true h; omega
      obtain ⟨y0, y1, r, rfl⟩ : ∃ y0 y1 r, ls = y0 :: y1 :: r := by
        match ls, h2 with
        | y0 :: y1 :: r, _ => exact ⟨y0, y1, r, rfl⟩
        | [y0], h2 => exact absurd h2 (by simp)
        | [], h2 => exact absurd h2 (by simp)
      obtain ⟨Bx, x, ex⟩ : ∃ Bx x, (y0 :: y1 :: r) = Bx ++ [x] := by
        rcases List.eq_nil_or_concat (y0 :: y1 :: r) with e | ⟨Bx, x, e⟩
        · cases e
        · exact ⟨Bx, x, by simpa using e⟩
      have c1 : cutV ((y0 :: y1 :: r).map V.int) (some (-1)) none = [V.int x] := by
        rw [ex, List.map_append, show [x].map V.int = [V.int x] from rfl, cut_last]
      have c2 : cutV ((y0 :: y1 :: r).map V.int) none (some 1) = [V.int y0] := by
        rw [List.map_cons, cut_first]
      have c3 : cutV ((y0 :: y1 :: r).map V.int) (some 1) none = (y1 :: r).map V.int := by
        rw [List.map_cons, cut_tail]
      have N0 : Got b l K C H3 H3 [] := ⟨G3.B, Keep.refl b H3, fun v h => by cases h⟩
      have sP : ∀ {G : Hp} {ws : List V}, Got b l K C H3 G ws → SqT K G p ((y0 :: y1 :: r).map V.int) := fun g => seqT_keep g.k npb hs3
      have hne : (y0 :: y1 :: r).map V.int ≠ [] := fun e => by cases e
      have len3 : (y0 :: y1 :: r).length = r.length + 2 := rfl
      have w1 : ¬ (HT.sIx ((y0 :: y1 :: r).map V.int).length 0 (some (-1)) = 0 ∧ HT.sIx ((y0 :: y1 :: r).map V.int).length ((y0 :: y1 :: r).map V.int).length none = ((y0 :: y1 :: r).map V.int).length) := fun ⟨e, _⟩ => by
        rw [List.length_map, len3] at e
        have : HT.sIx (r.length + 2) 0 (some (-1)) = r.length + 1 := by
          show (if (-1 : Int) < 0 then ((-1 : Int) + ((r.length + 2 : Nat) : Int)).toNat else min (-1 : Int).toNat (r.length + 2)) = _
          rw [if_pos (by decide)]
          omega
        omega
      have w2 : ¬ (HT.sIx ((y0 :: y1 :: r).map V.int).length 0 none = 0 ∧ HT.sIx ((y0 :: y1 :: r).map V.int).length ((y0 :: y1 :: r).map V.int).length (some 1) = ((y0 :: y1 :: r).map V.int).length) := fun ⟨_, e⟩ => by
        rw [List.length_map, len3, show HT.sIx (r.length + 2) (r.length + 2) (some 1) = min 1 (r.length + 2) from HT.sIx_nat _ _ 1] at e
        omega
      have w3 : ¬ (HT.sIx ((y0 :: y1 :: r).map V.int).length 0 (some 1) = 0 ∧ HT.sIx ((y0 :: y1 :: r).map V.int).length ((y0 :: y1 :: r).map V.int).length none = ((y0 :: y1 :: r).map V.int).length) := fun ⟨e, _⟩ => by
        rw [List.length_map, len3, show HT.sIx (r.length + 2) 0 (some 1) = min 1 (r.length + 2) from HT.sIx_nat _ _ 1] at e
        omega
      refine ⟨_, rfl, _, rfl, p, _, rfl, sP N0, fun a1 h1 => ?_⟩
      have g1 := N0.tup O h1 (xs := ((y0 :: y1 :: r).map V.int).reverse) (by rw [List.length_reverse, List.length_map]; omega) (fun y hy => iL (List.mem_reverse.mp hy))
      refine ⟨_, rfl, _, rfl, _, rfl, _, rfl, p, _, rfl, sP g1, w1, fun i2 e2 => ?_⟩
      rw [c1]
      have f2 := g1.skip e2 (.tup [.int x])
      refine ⟨p, i2, _, _, rfl, rfl, sP f2, SqT.of upd_same, hne, (by rw [List.length_map, sizeLine_eq]; show (y0 :: y1 :: r).length + 1 ≤ _; omega), (fun e => nomatch e), fun _ a2 h2 => ?_⟩
      have g2 := f2.tup O h2 (xs := (y0 :: y1 :: r).map V.int ++ [.int x]) (by rw [List.length_append, List.length_map]; show (y0 :: y1 :: r).length + 1 ≤ 2000; omega) (allA (fun y hy => iL hy) (all1 (iI x)))
      refine ⟨_, rfl, _, rfl, p, _, rfl, sP g2, w2, fun i3 e3 => ?_⟩
      rw [c2]
      have f3 := g2.skip e3 (.tup [.int y0])
      refine ⟨_, rfl, i3, p, _, _, rfl, rfl, SqT.of upd_same, sP f3, (fun e => nomatch e), (by rw [List.length_map, sizeLine_eq]; show 1 + (y0 :: y1 :: r).length ≤ _; omega), (fun e => absurd e hne), fun _ a3 h3 => ?_⟩
      have g3 := f3.tup O h3 (xs := [.int y0] ++ (y0 :: y1 :: r).map V.int) (by rw [List.length_append, List.length_map]; show 1 + (y0 :: y1 :: r).length ≤ 2000; omega) (allA (all1 (iI y0)) (fun y hy => iL hy))
      refine ⟨_, rfl, _, rfl, p, _, rfl, sP g3, w3, fun i4 e4 => ?_⟩
      rw [c3]
      have f4 := g3.skip e4 (.tup ((y1 :: r).map V.int))
      refine ⟨_, rfl, _, rfl, p, _, rfl, sP f4, w2, fun j4 d4 => ?_⟩
      rw [c2]
      have k4 := f4.skip d4 (.tup [.int y0])
      refine ⟨i4, j4, (y1 :: r).map V.int, [V.int y0], rfl, rfl, SqT.of (by rw [upd_ne (ne_of_none upd_same d4), upd_same]), SqT.of upd_same, (fun e => nomatch e), (by rw [List.length_map, sizeLine_eq]; show r.length + 1 + 1 ≤ _; omega), (fun e => nomatch e), fun _ a4 h4 => ?_⟩
      have g4 := k4.tup O h4 (xs := (y1 :: r).map V.int ++ [.int y0]) (by rw [List.length_append, List.length_map]; show r.length + 1 + 1 ≤ 2000; omega) (allA (fun y hy => iL (List.mem_cons_of_mem _ hy)) (all1 (iI y0)))
      have g5 := g4.val (it_seq O (sP g4) npb (by rw [List.length_map]; omega) (fun y hy => iL hy))
      refine ⟨_, rfl, (by show 5 ≤ sizeLine; decide), fun m2 hm2 => ?_⟩
      have gA := g5.skip hm2 (.lst [.ref a1, .ref a2, .ref a3, .ref a4, .ref p])
      have qb : q3 ≠ b := fun e => by
        obtain ⟨ns, i, g, m, c, hb, _⟩ := G3.B
        rw [e, hb] at hq3
        cases hq3
        simp at hv3
      refine ⟨q3, m2, _, _, rfl, rfl, gA.k _ _ hq3 qb, upd_same, (by rw [hv3]; show 28 + 5 ≤ sizeLine; decide), fun q2 hq2 => ?_⟩
      exact ⟨q2, _, rfl, upd_same, (by rw [List.length_append, hv3]; show 28 ≤ 28 + 5; decide), (by rw [List.length_append, hv3]; show 28 + 5 ≤ 40; decide), G3.app (gA.skip hq2 _)⟩
    rintro σ H4 ⟨q4, vs4, rfl, hq4, hv4, hv4', G4⟩
    have hm4 := G4.k _ _ hm nmb
    refine ⟨_, rfl, _, rfl, _, rfl, q4, m, vs4, [], rfl, rfl, hq4, hm4, (by rw [sizeLine_eq]; show vs4.length + 0 ≤ _; omega), fun c hc => ?_⟩
    refine of_seqL (E := E0) (G4.B.new hc) (G4.B.ne hc) (.inl (SqL.of upd_same)) (by rw [List.length_append]; show 0 < vs4.length + 0; omega) (by rw [List.length_append]; show vs4.length + 0 < _; omega) fun v H5 hv B5 k5 _ => ?_
    have G5 := (G4.skip hc (.lst (vs4 ++ []))).go B5 k5
    obtain ⟨r, o, hi⟩ := G5.all v (by simpa using hv)
    obtain ⟨h1, h2, h3⟩ := hi H5 (Keep.refl b H5)
    refine ⟨_, rfl, v, r, rfl, h2, fun H6 s6 => ⟨_, rfl, ?_⟩⟩
    have K6 := G5.k.same s6
    cases r with
    | false => exact iteT ⟨_, rfl, k v H6 (odd_of fun H' kk => hi H' ((Keep.ofSame s6).trans kk)) (B5.same s6) K6⟩
    | true =>
      refine iteF ?_
      rcases h2 with ⟨t, _, _, e⟩ | ⟨a, xs, os, rfl, hx, _, _, _⟩
      · cases e
      · refine ⟨_, rfl, a, xs, rfl, .inr (sqT_same s6 hx), fun l' hl' => ?_⟩
        have B6 := B5.same s6
        exact k _ _ (odd_lst O upd_same (B6.ne hl')) (B6.new hl') (K6.new hl')
end
end K04

end

section
set_option Elab.async false
set_option linter.all false
set_option maxRecDepth 100000
set_option maxHeartbeats 4000000
namespace K04
open PySem L2 SB
theorem shaped_tup (zs : List Int) : SeqAt.shaped (.tuple (zs.map PyData.int)) = true := by
  unfold SeqAt.shaped
  simp [PyData.canLay0, PyData.depth, canAll_ints, depthAll_ints]
/-- a list of so many keys at most, that is not the bag -/
structure Kp (b : Addr) (H : Hp) (D : Addr) (xs : List Int) (n : Nat) : Prop where
  at_ : H D = some (.lst (xs.map V.int))
  ne : D ≠ b
  ok : ∀ x ∈ xs, 0 ≤ x ∧ x ≤ 999
  few : xs.length ≤ n
theorem Kp.keep {b D : Addr} {H H' : Hp} {xs : List Int} {n : Nat} (x : Kp b H D xs n) (k : Keep b H H') : Kp b H' D xs n := ⟨k _ _ x.at_ x.ne, x.ne, x.ok, x.few⟩
theorem Kp.new {b D q : Addr} {H : Hp} {xs : List Int} {n : Nat} {o : HO} (x : Kp b H D xs n) (hq : H q = none) : Kp b (upd H q o) D xs n := x.keep (Keep.new (Keep.refl b H) hq)
theorem fresh_of {b D : Addr} {H H' : Hp} (k : Keep b H H') (n : D ≠ b) (h : H' D = none) : H D = none := by
  cases e : H D with
  | none => rfl
  | some o => rw [k _ _ e n] at h; cases h
theorem cut_ints (ns : List Int) (lo hi : Option Int) : ∃ ms : List Int, cutV (ns.map V.int) lo hi = ms.map V.int ∧ (∀ x ∈ ms, x ∈ ns) ∧ ms.length ≤ ns.length := by
  refine ⟨(ns.drop (HT.sIx (ns.map V.int).length 0 lo)).take (HT.sIx (ns.map V.int).length (ns.map V.int).length hi - HT.sIx (ns.map V.int).length 0 lo), ?_, fun x hx => List.mem_of_mem_drop (List.mem_of_mem_take hx), ?_⟩
  · unfold cutV
    rw [List.map_take, List.map_drop]
  · rw [List.length_take, List.length_drop]
    omega
/-- a drawn row: its lot and its marks -/
def spSome (K : PySem.W.Frag) : Sp := fun vs H Q _ => ∃ b l p ks, vs = [.ref b, .ref p] ∧ BagL H b l ∧ p ≠ b ∧ SqT K H p (ks.map V.int) ∧ KSet ks ∧ ks.length ≤ 12 ∧
  ∀ t q ls up dn H', H' t = some (.tup [.ref q, mV up, mV dn]) → H' q = some (.tup (ls.map V.int)) → Lot ls up dn → BagL H' b l → Keep b H H' → Q (.ref t) H'
section
variable {P : Program} {w : World} {K : PySem.W.Frag} {mg : Str → Option Value} {base : Heap}
theorem ok_some {f fD fO fP fR : Addr} {fd fdD fdO fdP fdR : FuncData} (F : Fun K "_law_some_row" "_law_some_row" s_l_some_row f fd) (gLst : mg "list" = none) (gTup : mg "tuple" = none) (gSrt : mg "sorted" = none) (gSet : mg "set" = none) (gRng : mg "range" = none)
    (gD : mg "_law_draw" = some (.ref fD)) (FD : FnOk P w K mg base CX0 1 fD fdD ["_law_bag_here", "_law_top"] spDrawL) (kD : PySem.W.keepIn K (.ref fD) = true) (bD : Binds K fdD ["_law_bag_here", "_law_top"] [])
    (gO : mg "_law_of" = some (.ref fO)) (FO : FnOk P w K mg base CX0 2 fO fdO ["_law_bag_here", "_law_some"] (spOfL K)) (kO : PySem.W.keepIn K (.ref fO) = true) (bO : Binds K fdO ["_law_bag_here", "_law_some"] [])
    (gP : mg "_law_part" = some (.ref fP)) (FP : FnOk P w K mg base CX0 2 fP fdP ["_law_bag_here", "_law_some"] (spPart K)) (kP : PySem.W.keepIn K (.ref fP) = true) (bP : Binds K fdP ["_law_bag_here", "_law_some"] [])
    (gR : mg "_law_stranger" = some (.ref fR)) (FR : FnOk P w K mg base CX0 3 fR fdR ["_law_bag_here", "_law_ks"] (spStr K)) (kR : PySem.W.keepIn K (.ref fR) = true) (bR : Binds K fdR ["_law_bag_here", "_law_ks"] []) :
    FnOk P w K mg base CX0 4 f fd ["_law_bag_here", "_law_ks"] (spSome K) := by
  refine F.ok sc_l_some_row (fun vs H Q E h => ?_) (fun cdv A outer s H vs Q E hr h => ?_)
  · obtain ⟨b, l, p, ks, rfl, _⟩ := h
    rfl
  · obtain ⟨b, l, p, ks, rfl, B, npb, hs, hk, hz, k⟩ := h
    have nd := sc_l_some_row.nd
    have hr2 : Room 2 _ := hr.mono (by decide)
    have hr1 : Room 1 _ := hr.mono (by decide)
    have hu : (A.deeper (PyProof.Rows.envOfC "_law_some_row" (defScope s_l_some_row) s.heap.objs.size f cdv)).units + 64 < cLine := hr.units
    refine ⟨_, pss_cut (ps_par (i := 2) (j := 3) (by rfl) nd rfl rfl (by decide) rfl rfl (pa_cons (pe_call FD hr1 (by rfl) gD kD bD .nil pass0 (pa_cons (pv 0) (pa_cons pe_int pa_nil))) (pa_cons (pe_call FP hr2 (by rfl) gP kP bP .nil pass0 (pa_cons (pv 0) (pa_cons (pv 1) pa_nil))) pa_nil)) (by rfl))
      (pss_cut (ps_set (i := 4) nd rfl (Or.inr rfl) (pe_call FR hr (by rfl) gR kR bR .nil pass0 (pa_cons (pv 0) (pa_cons (pv 1) pa_nil))))
      (pss_cut (ps_if (PW.pt (pw_and (pt_cmpR op_in_seq (pv 2) (pe_lst (pa_cons pe_int (pa_cons pe_int pa_nil))) (by rfl)) (pw_and1 (pt_cmpR (op_neD hu) (pv 1) (pe_tup pa_nil) (nomark _)))))
        (pss_one (ps_set (i := 4) nd rfl (Or.inr rfl) (pe_call FO hr2 (by rfl) gO kO bO .nil pass0 (pa_cons (pv 0) (pa_cons (pv 1) pa_nil))))) pss_nil)
      (pss_cut (ps_set (i := 5) nd rfl (Or.inr rfl) (pe_op op_cat
            (pe_slice sl_list (pe_lc (own := [("_law_k", 9)]) (g := gName 9) (tt := tTest (tOp (rI0 fun i j => .bl (decide (i < j))) (tVar 9) (tVar 4))) (te := tVar 9) rfl nd (pi_tup (pv 1)) (blkOk_by (N := N_l_some_row) (sc := defScope s_l_some_row) (by decide +kernel))
              (fun _ _ _ _ _ => pg_name (i := 9) nd rfl (Or.inl rfl)) (fun _ _ _ _ _ => pts_one (pt_cmpR op_lt (pv 9) (pv 4) (nomark _))) (fun _ _ _ _ _ => pv 9)) (po_some (pe_un un_neg pe_int)) po_none)
            (pe_slice sl_list (pe_lc (own := [("_law_k", 9)]) (g := gName 9) (tt := tTest (tOp (rI0 fun i j => .bl (decide (i > j))) (tVar 9) (tVar 4))) (te := tVar 9) rfl nd (pi_tup (pv 1)) (blkOk_by (N := N_l_some_row) (sc := defScope s_l_some_row) (by decide +kernel))
              (fun _ _ _ _ _ => pg_name (i := 9) nd rfl (Or.inl rfl)) (fun _ _ _ _ _ => pts_one (pt_cmpR op_gt (pv 9) (pv 4) (nomark _))) (fun _ _ _ _ _ => pv 9)) po_none (po_some pe_int))))
      (pss_cut (ps_set (i := 6) nd rfl (Or.inl rfl) (pe_call FD hr1 (by rfl) gD kD bD .nil pass0 (pa_cons (pv 0) (pa_cons pe_int pa_nil))))
      (pss_cut (ps_if (pt_cmpR op_gt (pv 2) pe_int (nomark _))
        (pss_one (ps_set (i := 3) nd rfl (Or.inl rfl) (pe_op op_cat (pe_op op_cat
          (pe_lc (own := [("_law_k", 9)]) (g := gName 9) (tt := tTest (tOp (rIn K true) (tVar 9) (tVar 5))) (te := tVar 9) rfl nd (pi_list (pv 3)) (blkOk_by (N := N_l_some_row) (sc := defScope s_l_some_row) (by decide +kernel))
              (fun _ _ _ _ _ => pg_name (i := 9) nd rfl (Or.inl rfl)) (fun _ _ _ _ _ => pts_one (pt_cmpR op_notIn_seq (pv 9) (pv 5) (by rfl))) (fun _ _ _ _ _ => pv 9))
          (pe_cut (pe_ifExp (pt_cmpR op_eq (pv 6) pe_int (nomark _)) (pe_slice sl_list (pv 5) (po_some pe_int) po_none) (pe_ifExp (pt_cmpR op_eq (pv 6) pe_int (nomark _)) (pe_slice sl_list (pv 5) po_none (po_some pe_int)) (pe_ifExp (pt_cmpR op_eq (pv 6) pe_int (nomark _)) (pe_lst pa_nil) (pv 5))))))
          (pe_lst (pa_cons (pv 4) pa_nil))))) pss_nil)
      (pss_cut (ps_for PassesOwn.never rfl (pi_range1 (by rfl) gRng (pa_cons (pe_call FO hr2 (by rfl) gO kO bO .nil pass0 (pa_cons (pv 0) (pa_cons (pe_lst (pa_cons pe_int (pa_cons pe_int (pa_cons pe_int (pa_cons pe_int (pa_cons pe_int (pa_cons pe_int (pa_cons pe_int (pa_cons pe_int pa_nil))))))))) pa_nil))) pa_nil)) (pg_name (i := 7) nd rfl (Or.inl rfl))
        (pss_one (ps_expr (pe_bm PySem.F.plainAttrs_list PySem.F.slot_list_append PySem.F.type_list_append mt_append (pv 3) (pa_cons (pe_call FR hr (by rfl) gR kR bR .nil pass0 (pa_cons (pv 0) (pa_cons
          (pe_callTy call_tuple_of (by rfl) gTup (by decide +kernel) (pa_cons (pe_callB (cr_sortedSet rfl) (by rfl) gSrt (by decide +kernel) (pa_cons (pe_callTy (cr_setI rfl) (by rfl) gSet (by decide +kernel) (pa_cons (pe_op op_cat (pv 3) (pe_callTy call_list_of (by rfl) gLst (by decide +kernel) (pa_cons (pv 1) pa_nil))) pa_nil)) pa_nil)) pa_nil)) pa_nil))) pa_nil)))))
      (pss_cut (ps_if (pt_cmpR (op_eqD hu) (pv 3) (pe_lst pa_nil) (nomark _)) (pss_one (ps_set (i := 3) nd rfl (Or.inl rfl) (pe_lst (pa_cons (pv 4) pa_nil)))) pss_nil)
      (pss_cons (ps_set (i := 8) nd rfl (Or.inl rfl) (pe_callTy call_tuple_of (by rfl) gTup (by decide +kernel) (pa_cons (pe_callB (cr_sortedSet rfl) (by rfl) gSrt (by decide +kernel) (pa_cons (pe_callTy (cr_setI rfl) (by rfl) gSet (by decide +kernel) (pa_cons (pv 3) pa_nil)) pa_nil)) pa_nil)))
      (pss_cons (ps_if (pt_cmpR op_eq (pv 2) pe_int (nomark _)) (pss_one (ps_ret (pe_tup (pa_cons (pv 8) (pa_cons pe_non (pa_cons pe_non pa_nil)))))) pss_nil)
      (pss_one (ps_ret (pe_ifExp (PW.pt (pw_or (pt_cmpR op_in_seq (pv 2) (pe_lst (pa_cons pe_int (pa_cons pe_int pa_nil))) (by rfl)) (pw_or1 (PW.pt (pw_and (pt_cmpR op_eq (pv 2) pe_int (nomark _)) (pw_and1 (pt_cmpR op_gt (pv 6) pe_int (nomark _))))))))
        (pe_tup (pa_cons (pv 8) (pa_cons (pv 4) (pa_cons pe_non pa_nil)))) (pe_tup (pa_cons (pv 8) (pa_cons pe_non (pa_cons (pv 4) pa_nil)))))))))))))))), ?_⟩
    have sP : ∀ {G : Hp}, Keep b H G → SqT K G p (ks.map V.int) := fun g => seqT_keep g npb hs
    refine ⟨fun σ H' => ∃ (wy : Int) (D : Addr) (xs : List Int), σ = [some (.ref b), some (.ref p), some (.int wy), some (.ref D), none, none, none, none, none, none] ∧ 0 ≤ wy ∧ wy < 5 ∧ H D = none ∧ D ≠ l ∧ Kp b H' D xs 12 ∧ BagL H' b l ∧ Keep b H H', ?_, ?_⟩
    · refine ⟨_, rfl, b, l, _, rfl, B, by decide, by decide, fun wy H1 w0 w1 B1 k1 _ => ?_⟩
      refine ⟨_, rfl, _, rfl, b, l, p, _, rfl, B1, npb, sP k1, by rw [List.length_map]; omega, fun D ys H2 sub hD hy B2 k2 => ?_⟩
      obtain ⟨xs, sx, rfl⟩ := List.sublist_map_iff.mp sub
      refine ⟨_, _, rfl, wy, D, xs, rfl, w0, w1, fresh_of k1 (B1.ne hD) hD, B1.nl hD, ⟨hy, B1.ne hD, fun x hx => ⟨hk.lo x (sx.subset hx), hk.hi x (sx.subset hx)⟩, Nat.le_trans sx.length_le hz⟩, B2, k1.trans k2⟩
    rintro σ H1 ⟨wy, D, xs, rfl, w0, w5, fD, nD, x1, B1, K1⟩
    refine ⟨fun σ H' => ∃ (m : Int), σ = [some (.ref b), some (.ref p), some (.int wy), some (.ref D), some (.int m), none, none, none, none, none] ∧ 0 ≤ m ∧ m ≤ 999 ∧ Kp b H' D xs 12 ∧ BagL H' b l ∧ Keep b H H', ?_, ?_⟩
    · refine ⟨_, rfl, _, rfl, b, l, p, ks, rfl, B1, npb, sP K1, by omega, fun z hz => ⟨hk.lo z hz, hk.hi z hz⟩, fun m H2 m0 m1 B2 k2 => ?_⟩
      exact ⟨m, rfl, m0, m1, x1.keep k2, B2, K1.trans k2⟩
    rintro σ H2 ⟨m0, rfl, m00, m01, x2, B2, K2⟩
    refine ⟨fun σ H' => ∃ (m : Int), σ = [some (.ref b), some (.ref p), some (.int wy), some (.ref D), some (.int m), none, none, none, none, none] ∧ 0 ≤ m ∧ m ≤ 999 ∧ Kp b H' D xs 12 ∧ BagL H' b l ∧ Keep b H H', ?_, ?_⟩
    · refine ⟨_, rfl, (by show 2 ≤ sizeLine; decide), fun q hq => ⟨q, _, rfl, .inl (SqL.of upd_same), rfl, rfl, _, rfl, ite2 (fun _ => ?_) (fun _ => iteF ⟨m0, rfl, m00, m01, x2.new hq, B2.new hq, K2.new hq⟩)⟩⟩
      have K3 := K2.new (o := .lst [.int 2, .int 4]) hq
      refine ⟨_, rfl, (by decide), fun q2 hq2 => ?_⟩
      have K4 := K3.new (o := .tup []) hq2
      have B4 := (B2.new (o := .lst [.int 2, .int 4]) hq).new (o := .tup []) hq2
      have x4 := (x2.new (o := .lst [.int 2, .int 4]) hq).new (o := .tup []) hq2
      refine ⟨.tuple (ks.map .int), .tuple [], .tup (sP K4) (dpAll_ints ks), .tup (SqT.of upd_same) .nil, shaped_tup ks, shaped_tup [], _, rfl, ite2 (fun h => ?_) (fun _ => ⟨m0, rfl, m00, m01, x4, B4, K4⟩)⟩
      have hne : 0 < ks.length := by
        cases ks with
        | nil => cases h
        | cons a r => simp
      refine ⟨_, rfl, _, rfl, of_seqL (E := E0) B4 npb (.inr (sP K4)) (by rw [List.length_map]; exact hne) (by rw [List.length_map]; omega) fun v H5 hv B5 k5 _ => ?_⟩
      obtain ⟨z, rfl, hzm⟩ := mem_ints hv
      exact ⟨z, rfl, hk.lo z hzm, hk.hi z hzm, x4.keep k5, B5, K4.trans k5⟩
    rintro σ H3 ⟨m, rfl, ma, mb, x3, B3, K3⟩
    refine ⟨fun σ H' => ∃ (N : Addr) (ns : List Int), σ = [some (.ref b), some (.ref p), some (.int wy), some (.ref D), some (.int m), some (.ref N), none, none, none, none] ∧ Kp b H' N ns 2 ∧ Kp b H' D xs 12 ∧ BagL H' b l ∧ Keep b H H', ?_, ?_⟩
    · refine ⟨_, rfl, p, rfl, ⟨_, sP K3⟩, fun Da hDa => filt_tup (fun z => decide (z < m)) (sP K3) hDa (by omega) (fun z H' R S hz s1 r1 r2 => ?_) (fun H6 s6 h6 => ?_)⟩
      · exact ⟨rfl, _, rfl, _, rfl, _, _, rfl, rfl, _, rfl, ite2 (fun e => ⟨_, rfl, r1 e⟩) (fun e => r2 (Bool.eq_false_iff.mpr e))⟩
      refine ⟨_, rfl, _, rfl, Da, _, rfl, SqL.of h6, fun q1 hq1 => ?_⟩
      rw [low_cut]
      have s7 := Same.new s6 (o := .lst ((lowL ks m).map V.int)) hq1
      have K7 := K3.same s7
      refine ⟨_, rfl, p, rfl, ⟨_, sP K7⟩, fun Db hDb => filt_tup (fun z => decide (z > m)) (sP K7) hDb (by omega) (fun z H' R S hz s1 r1 r2 => ?_) (fun H8 s8 h8 => ?_)⟩
      · exact ⟨rfl, _, rfl, _, rfl, _, _, rfl, rfl, _, rfl, ite2 (fun e => ⟨_, rfl, r1 e⟩) (fun e => r2 (Bool.eq_false_iff.mpr e))⟩
      refine ⟨_, rfl, Db, _, rfl, SqL.of h8, fun q2 hq2 => ?_⟩
      rw [high_cut]
      have k1 := s8 _ _ (upd_same (H := H6) (a := q1) (o := .lst ((lowL ks m).map V.int)))
      have s9 := Same.new (s7.trans s8) (o := .lst ((highL ks m).map V.int)) hq2
      have ll := lowL_len ks m
      have hl' := highL_len ks m
      refine ⟨q1, q2, _, _, rfl, rfl, by rw [upd_ne (ne_of_none k1 hq2)]; exact k1, upd_same, by rw [List.length_map, List.length_map, sizeLine_eq]; omega, fun q3 hq3 => ?_⟩
      have s10 := Same.new s9 (o := .lst ((lowL ks m).map V.int ++ (highL ks m).map V.int)) hq3
      have n3 := (B3.same s9).ne hq3
      refine ⟨q3, lowL ks m ++ highL ks m, rfl, ⟨by rw [upd_same, List.map_append], n3, fun x hx => ?_, by rw [List.length_append]; omega⟩, x3.keep (Keep.ofSame s10), B3.same s10, K3.same s10⟩
      have hx' : x ∈ ks := (List.mem_append.mp hx).elim lowL_mem highL_mem
      exact ⟨hk.lo x hx', hk.hi x hx'⟩
    rintro σ H4 ⟨N, ns, rfl, n4, x4, B4, K4⟩
    refine ⟨fun σ H' => ∃ (lo : Int), σ = [some (.ref b), some (.ref p), some (.int wy), some (.ref D), some (.int m), some (.ref N), some (.int lo), none, none, none] ∧ Kp b H' N ns 2 ∧ Kp b H' D xs 12 ∧ BagL H' b l ∧ Keep b H H', ?_, ?_⟩
    · refine ⟨_, rfl, b, l, _, rfl, B4, by decide, by decide, fun lo H5 _ _ B5 k5 _ => ?_⟩
      exact ⟨lo, rfl, n4.keep k5, x4.keep k5, B5, K4.trans k5⟩
    rintro σ H5 ⟨lo, rfl, n5, x5, B5, K5⟩
    refine ⟨fun σ H' => ∃ (D2 : Addr) (xs2 : List Int), σ = [some (.ref b), some (.ref p), some (.int wy), some (.ref D2), some (.int m), some (.ref N), some (.int lo), none, none, none] ∧ Kp b H' D2 xs2 15 ∧ D2 ≠ l ∧ (0 < wy → m ∈ xs2) ∧ H D2 = none ∧ BagL H' b l ∧ Keep b H H', ?_, ?_⟩
    · refine ⟨_, rfl, _, _, rfl, rfl, _, rfl, ite2 (fun hw => ?_) (fun hw => ⟨D, xs, rfl, ⟨x5.at_, x5.ne, x5.ok, by have := x5.few; omega⟩, nD, (fun h => absurd (decide_eq_true h) hw), fD, B5, K5⟩)⟩
      refine ⟨_, rfl, D, rfl, ⟨_, SqL.of x5.at_⟩, fun Dc hDc => filt_list (fun z => !decide (z ∈ ns)) (SqL.of x5.at_) hDc (by have := x5.few; omega) (fun z H' R S hz s1 r1 r2 => ?_) (fun H6 s6 h6 => ?_)⟩
      · refine ⟨rfl, _, rfl, _, rfl, N, _, rfl, .inl (SqL.of (s1 _ _ n5.at_)), rfl, flat_ints ns, _, rfl, ?_⟩
        have ein : (if true = true then !inV (V.int z) (ns.map V.int) else inV (V.int z) (ns.map V.int)) = !decide (z ∈ ns) := by
          rw [if_pos rfl, inV_ints]
        rw [ein]
        exact ite2 (fun e => ⟨_, rfl, r1 e⟩) (fun e => r2 (Bool.eq_false_iff.mpr e))
      have n6 := n5.keep (Keep.ofSame s6)
      have fl : (xs.filter fun z => !decide (z ∈ ns)).length ≤ 12 := Nat.le_trans (List.length_filter_le _ _) x5.few
      refine ⟨fun v H' => ∃ (M : Addr) (ms : List Int), v = .ref M ∧ Kp b H' M ms 2 ∧ Same H6 H', ?_, ?_⟩
      · have cutK : ∀ (lo hi : Option Int) (q : Addr), H6 q = none → ∃ (M : Addr) (ms : List Int), V.ref q = .ref M ∧ Kp b (upd H6 q (.lst (cutV (ns.map V.int) lo hi))) M ms 2 ∧ Same H6 (upd H6 q (.lst (cutV (ns.map V.int) lo hi))) := fun lo hi q hq => by
          obtain ⟨ms, e, h1, h2⟩ := cut_ints ns lo hi
          rw [e]
          exact ⟨q, ms, rfl, ⟨upd_same, (B5.same s6).ne hq, fun x hx => n5.ok x (h1 x hx), Nat.le_trans h2 n5.few⟩, Same.new (Same.refl H6) hq⟩
        refine ⟨_, rfl, rfl, _, rfl, ite2 (fun _ => ⟨_, rfl, _, rfl, N, _, rfl, SqL.of n6.at_, fun q hq => cutK _ _ q hq⟩) (fun _ => ?_)⟩
        refine ⟨_, rfl, rfl, _, rfl, ite2 (fun _ => ⟨_, rfl, _, rfl, N, _, rfl, SqL.of n6.at_, fun q hq => cutK _ _ q hq⟩) (fun _ => ?_)⟩
        refine ⟨_, rfl, rfl, _, rfl, ite2 (fun _ => ⟨(by decide), fun q hq => ⟨q, [], rfl, ⟨upd_same, (B5.same s6).ne hq, (fun x hx => by cases hx), by decide⟩, Same.new (Same.refl H6) hq⟩⟩) (fun _ => ⟨_, rfl, N, ns, rfl, n6, Same.refl H6⟩)⟩
      · rintro v H7 ⟨M, ms, rfl, hM, s7⟩
        have few := hM.few
        refine ⟨Dc, M, _, _, rfl, rfl, s7 _ _ h6, hM.at_, by rw [List.length_map, List.length_map, sizeLine_eq]; omega, fun q1 hq1 => ?_⟩
        refine ⟨_, rfl, (by show 1 ≤ sizeLine; decide), fun q2 hq2 => ?_⟩
        have e1 : upd (upd H7 q1 (.lst ((xs.filter fun z => !decide (z ∈ ns)).map V.int ++ ms.map V.int))) q2 (.lst [.int m]) q1 = some (.lst ((xs.filter fun z => !decide (z ∈ ns)).map V.int ++ ms.map V.int)) := by
          rw [upd_ne (ne_of_none upd_same hq2), upd_same]
        refine ⟨q1, q2, _, _, rfl, rfl, e1, upd_same, by rw [List.length_append, List.length_map, List.length_map, sizeLine_eq]; show _ + _ + 1 ≤ _; omega, fun q3 hq3 => ?_⟩
        have s8 := Same.new (Same.new s7 (o := .lst ((xs.filter fun z => !decide (z ∈ ns)).map V.int ++ ms.map V.int)) hq1) (o := .lst [.int m]) hq2
        have s9 := Same.new (s6.trans s8) (o := .lst (((xs.filter fun z => !decide (z ∈ ns)).map V.int ++ ms.map V.int) ++ [.int m])) hq3
        have B8 := B5.same (s6.trans s8)
        have K8 := K5.same (s6.trans s8)
        refine ⟨q3, (xs.filter fun z => !decide (z ∈ ns)) ++ ms ++ [m], rfl, ⟨?_, B8.ne hq3, fun x hx => ?_, ?_⟩, B8.nl hq3, fun _ => by simp, fresh_of K8 (B8.ne hq3) hq3, B5.same s9, K5.same s9⟩
        · rw [upd_same, List.map_append, List.map_append]; rfl
        · rcases List.mem_append.mp hx with hx | hx
          · rcases List.mem_append.mp hx with hx | hx
            · exact x5.ok x (List.mem_filter.mp hx).1
            · exact hM.ok x hx
          · have : x = m := by simpa using hx
            rw [this]; exact ⟨ma, mb⟩
        · rw [List.length_append, List.length_append]
          show _ + _ + 1 ≤ 15
          omega
    rintro σ H6 ⟨D2, xs2, rfl, x6, nl6, m6, f6, B6, K6⟩
    refine ⟨fun σ H' => ∃ (z7 : Option V) (xs3 : List Int), σ = [some (.ref b), some (.ref p), some (.int wy), some (.ref D2), some (.int m), some (.ref N), some (.int lo), z7, none, none] ∧ Kp b H' D2 xs3 17 ∧ (0 < wy → m ∈ xs3) ∧ BagL H' b l ∧ Keep b H H', ?_, ?_⟩
    · refine ⟨_, rfl, (by show 8 ≤ sizeLine; decide), fun q hq => ?_⟩
      refine of_seqL (E := E0) (B6.new hq) (B6.ne hq) (.inl (SqL.of upd_same)) (by show 0 < 8; decide) (by show 8 < 2 ^ 62; decide) fun v H7 hv B7 k7 _ => ?_
      obtain ⟨c, rfl, c0, c2⟩ : ∃ c : Int, v = .int c ∧ 0 ≤ c ∧ c ≤ 2 := by
        simp only [List.mem_cons, List.not_mem_nil, or_false] at hv
        rcases hv with rfl | rfl | rfl | rfl | rfl | rfl | rfl | rfl <;> exact ⟨_, rfl, by decide, by decide⟩
      refine ⟨_, rfl, by omega, by omega, ?_⟩
      refine for_range (n := c.toNat) (fun i σ H' => ∃ (z7 : Option V) (xs3 : List Int), σ = [some (.ref b), some (.ref p), some (.int wy), some (.ref D2), some (.int m), some (.ref N), some (.int lo), z7, none, none] ∧ Kp b H' D2 xs3 (15 + i) ∧ (0 < wy → m ∈ xs3) ∧ BagL H' b l ∧ Keep b H H')
        ⟨none, xs2, rfl, (x6.new hq).keep k7, m6, B7, (K6.new hq).trans k7⟩ ?_ ?_
      · rintro i σ G hi ⟨z7, xs3, rfl, x7, m7, B8, K8⟩
        have few := x7.few
        have ic : i < 2 := by omega
        have sk := sP K8
        refine ⟨_, rfl, .inl ⟨rfl, _, SqL.of x7.at_⟩, _, rfl, _, rfl, _, rfl, p, _, rfl, .inr sk, fun q1 hq1 => ?_⟩
        have y1 := x7.new (o := .lst (ks.map V.int)) hq1
        refine ⟨D2, q1, _, _, rfl, rfl, y1.at_, upd_same, by rw [List.length_map, List.length_map, sizeLine_eq]; omega, fun q2 hq2 => ?_⟩
        rw [← List.map_append]
        refine ⟨q2, xs3 ++ ks, rfl, SqL.of upd_same, by rw [List.length_append]; omega, fun q3 c3 hq3 hc3 => ?_⟩
        rw [List.length_append] at hc3
        refine ⟨q3, _, c3, rfl, upd_same, by omega, fun ns4 q4 up4 mem4 len4 hq4 => ?_⟩
        refine ⟨q4, _, rfl, .inl ⟨SqL.of upd_same, fun q5 hq5 => ?_⟩⟩
        have g1 := (B8.new (o := .lst (ks.map V.int)) hq1).new (o := .lst ((xs3 ++ ks).map V.int)) hq2
        have g2 := (g1.new (o := SetO w q3 (fun j => decide (j ∈ xs3 ++ ks)) c3) hq3).new (o := .lst (ns4.map V.int)) hq4
        have v1 := (K8.new (o := .lst (ks.map V.int)) hq1).new (o := .lst ((xs3 ++ ks).map V.int)) hq2
        have v2 := (v1.new (o := SetO w q3 (fun j => decide (j ∈ xs3 ++ ks)) c3) hq3).new (o := .lst (ns4.map V.int)) hq4
        have z1 := (y1.new (o := .lst ((xs3 ++ ks).map V.int)) hq2).new (o := SetO w q3 (fun j => decide (j ∈ xs3 ++ ks)) c3) hq3
        have z2 := (z1.new (o := .lst (ns4.map V.int)) hq4).new (o := .tup (ns4.map V.int)) hq5
        refine ⟨b, l, q5, ns4, rfl, g2.new hq5, g2.ne hq5, SqT.of upd_same, by omega, fun z hz => ?_, fun k0 G2 k00 k01 B9 k9 => ?_⟩
        · have hm := of_decide_eq_true ((mem4 z).mp hz)
          rcases List.mem_append.mp hm with h | h
          · exact x7.ok z h
          · exact ⟨hk.lo z h, hk.hi z h⟩
        · have z3 := z2.keep k9
          refine ⟨D2, _, _, rfl, rfl, z3.at_, by rw [List.length_map, sizeLine_eq]; omega, ?_⟩
          have K9 := (v2.new (o := .tup (ns4.map V.int)) hq5).trans k9
          refine ⟨_, xs3 ++ [k0], rfl, ⟨by rw [upd_same, List.map_append]; rfl, x7.ne, fun x hx => ?_, by rw [List.length_append]; show _ + 1 ≤ _; omega⟩, fun h => List.mem_append_left _ (m7 h), B9.put x7.ne nl6, fun a o e n => ?_⟩
          · rcases List.mem_append.mp hx with h | h
            · exact x7.ok x h
            · have : x = k0 := by simpa using h
              rw [this]; exact ⟨k00, k01⟩
          · rw [upd_ne (ne_of_none e f6)]
            exact K9 a o e n
      · rintro σ G ⟨z7, xs3, rfl, x7, m7, B8, K8⟩
        exact ⟨z7, xs3, rfl, ⟨x7.at_, x7.ne, x7.ok, by have := x7.few; omega⟩, m7, B8, K8⟩
    rintro σ H7 ⟨z7, xs3, rfl, x7, m7, B7, K7⟩
    refine ⟨fun σ H' => ∃ (D3 : Addr) (xs4 : List Int), σ = [some (.ref b), some (.ref p), some (.int wy), some (.ref D3), some (.int m), some (.ref N), some (.int lo), z7, none, none] ∧ Kp b H' D3 xs4 17 ∧ (0 < wy → m ∈ xs4) ∧ 0 < xs4.length ∧ BagL H' b l ∧ Keep b H H', ?_, ?_⟩
    · refine ⟨_, rfl, (by decide), fun q hq => ?_⟩
      have y7 := x7.new (o := .lst []) hq
      refine ⟨.list (xs3.map .int), .list [], .lst (SqL.of y7.at_) (dpAll_ints xs3), .lst (SqL.of upd_same) .nil, shaped_ints xs3, shaped_ints [], _, rfl, ite2 (fun _ => ?_) (fun h => ?_)⟩
      · refine ⟨_, rfl, (by show 1 ≤ sizeLine; decide), fun q2 hq2 => ?_⟩
        have B8 := B7.new (o := .lst []) hq
        refine ⟨q2, [m], rfl, ⟨upd_same, B8.ne hq2, fun x hx => ?_, by show 1 ≤ 17; decide⟩, fun _ => by simp, by show 0 < 1; decide, B8.new hq2, (K7.new hq).new hq2⟩
        have : x = m := by simpa using hx
        rw [this]; exact ⟨ma, mb⟩
      · refine ⟨D2, xs3, rfl, y7, m7, ?_, B7.new hq, K7.new hq⟩
        cases xs3 with
        | nil => exact absurd rfl h
        | cons a r => simp
    rintro σ H8 ⟨D3, xs4, rfl, x8, m8, l8, B8, K8⟩
    refine ⟨_, rfl, D3, _, rfl, SqL.of x8.at_, by have := x8.few; omega, fun q1 c1 hq1 hc1 => ?_⟩
    have few := x8.few
    refine ⟨q1, _, c1, rfl, upd_same, by omega, fun ls q2 up2 mem2 len2 hq2 => ?_⟩
    refine ⟨q2, _, rfl, .inl ⟨SqL.of upd_same, fun q3 hq3 => ?_⟩⟩
    have g2 := (B8.new (o := SetO w q1 (fun j => decide (j ∈ xs4)) c1) hq1).new (o := .lst (ls.map V.int)) hq2
    have g3 := g2.new (o := .tup (ls.map V.int)) hq3
    have v2 := (K8.new (o := SetO w q1 (fun j => decide (j ∈ xs4)) c1) hq1).new (o := .lst (ls.map V.int)) hq2
    have v3 := v2.new (o := .tup (ls.map V.int)) hq3
    have mem : ∀ z, z ∈ ls ↔ z ∈ xs4 := fun z => by rw [mem2 z, decide_eq_true_eq]
    have KL : KSet ls := ⟨up2, fun z hz => (x8.ok z ((mem z).mp hz)).1, fun z hz => (x8.ok z ((mem z).mp hz)).2⟩
    have ne : 0 < ls.length := by
      cases xs4 with
      | nil => exact absurd l8 (by decide)
      | cons a r => exact List.length_pos_of_mem ((mem a).mpr List.mem_cons_self)
    have fewL : ls.length ≤ 1000 := by omega
    have give : ∀ {G : Hp} (up dn : Option Int) (us : List V), us = [V.ref q3, mV up, mV dn] → Same (upd (upd (upd H8 q1 (SetO w q1 (fun j => decide (j ∈ xs4)) c1)) q2 (.lst (ls.map V.int))) q3 (.tup (ls.map V.int))) G → (∀ a, up = some a → a ∈ ls) → (∀ a, dn = some a → up = none ∧ a ∈ ls) →
        us.length ≤ sizeLine ∧ ∀ t, G t = none → Q (.ref t) (upd G t (.tup us)) := fun {G} up dn us e s' h1 h2 => by
      subst e
      refine ⟨(by show 3 ≤ sizeLine; decide), fun t ht => k t q3 ls up dn _ upd_same ?_ ⟨KL, ne, fewL, h1, h2⟩ ((g3.same s').new ht) ((v3.same s').new ht)⟩
      have hq := s' _ _ (upd_same (H := upd (upd H8 q1 (SetO w q1 (fun j => decide (j ∈ xs4)) c1)) q2 (.lst (ls.map V.int))) (a := q3) (o := .tup (ls.map V.int)))
      rw [upd_ne (ne_of_none hq ht)]
      exact hq
    have e01 : ∀ n : Int, decide (V.int wy = V.int n) = decide (wy = n) := fun n => by
      by_cases h : wy = n
      · rw [h, decide_eq_true rfl, decide_eq_true rfl]
      · rw [decide_eq_false h, decide_eq_false fun e => h (V.int.inj e)]
    refine ⟨_, rfl, rfl, _, rfl, ?_⟩
    rw [e01]
    by_cases hw : wy = 0
    · rw [decide_eq_true hw]
      exact iteT ⟨_, rfl, give none none _ rfl (Same.refl _) (fun a e => nomatch e) (fun a e => nomatch e)⟩
    rw [decide_eq_false hw]
    have mL : m ∈ ls := (mem m).mpr (m8 (by omega))
    refine iteF ⟨_, rfl, (by show 2 ≤ sizeLine; decide), fun q4 hq4 => ⟨q4, _, rfl, .inl (SqL.of upd_same), rfl, rfl, _, rfl, ?_⟩⟩
    have s4 := Same.new (Same.refl (upd (upd (upd H8 q1 (SetO w q1 (fun j => decide (j ∈ xs4)) c1)) q2 (.lst (ls.map V.int))) q3 (.tup (ls.map V.int)))) (o := .lst [.int 1, .int 3]) hq4
    have gu := give (some m) none _ rfl s4 (fun a e => by rw [← Option.some.inj e]; exact mL) (fun a e => nomatch e)
    have gd := give none (some m) _ rfl s4 (fun a e => nomatch e) (fun a e => ⟨rfl, by rw [← Option.some.inj e]; exact mL⟩)
    refine ite2 (fun _ => iteT ⟨_, rfl, _, rfl, gu⟩) (fun _ => ?_)
    refine ⟨_, rfl, rfl, _, rfl, ite2 (fun _ => ?_) (fun _ => iteF ⟨_, rfl, _, rfl, gd⟩)⟩
    exact ⟨_, rfl, _, _, rfl, rfl, _, rfl, ite2 (fun _ => ⟨_, rfl, _, rfl, gu⟩) (fun _ => ⟨_, rfl, _, rfl, gd⟩)⟩
end
end K04

end

section
set_option Elab.async false
set_option linter.all false
set_option maxRecDepth 100000
set_option maxHeartbeats 4000000
namespace K04
open PySem L2 SB RZ
theorem alike_cases {K : PySem.W.Frag} {H : Hp} {n : Nat} {x y : V} (h : Alike K H n x y) : Leaf H x y ∨ ∃ m, n = m + 1 ∧
    ((∃ a b xs ys, x = .ref a ∧ y = .ref b ∧ SqL K H a xs ∧ SqL K H b ys ∧ xs.length < sizeLine ∧ Paired (Alike K H m) xs ys) ∨ ∃ a b xs ys, x = .ref a ∧ y = .ref b ∧ SqT K H a xs ∧ SqT K H b ys ∧ xs.length < sizeLine ∧ Paired (Alike K H m) xs ys) := by
  cases n with
  | zero => exact .inl h
  | succ m =>
    rcases h with h | h | h
    · exact .inl h
    · exact .inr ⟨m, rfl, .inl h⟩
    · exact .inr ⟨m, rfl, .inr h⟩
section
variable {P : Program} {w : World} {K : PySem.W.Frag} {mg : Str → Option Value} {base : Heap}
structure TSame (mg : Str → Option Value) : Prop where
  isi : mg "isinstance" = none
  lst : mg "list" = none
  tup : mg "tuple" = none
  len : mg "len" = none
  all : mg "all" = none
  zip : mg "zip" = none
  bool : mg "bool" = none
  int : mg "int" = none
  str : mg "str" = none
theorem ok_same {f : Addr} {fd : FuncData} (F : Fun K "_law_same" "_law_same" s_l_same f fd) (T : TSame mg) (gS : mg "_law_same" = some (.ref f)) (bS : Binds K fd ["_law_found", "_law_due"] []) :
    ∀ n, FnOk P w K mg base CX0 n f fd ["_law_found", "_law_due"] (spSame K n)
  | 0 => ⟨fun _ _ _ _ h => h.elim, fun _ _ _ _ _ _ _ _ _ _ _ _ _ h => h.elim⟩
  | n + 1 => by
    have G := ok_same F T gS bS n
    refine F.ok sc_l_same (fun vs H Q E h => ?_) (fun cdv A outer s H vs Q E hr h => ?_)
    · obtain ⟨x, y, rfl, _⟩ := h
      rfl
    · obtain ⟨x, y, rfl, al, k⟩ := h
      have nd := sc_l_same.nd
      have hu : (A.deeper (PyProof.Rows.envOfC "_law_same" (defScope s_l_same) s.heap.objs.size f cdv)).units + 64 < cLine := hr.units
      refine ⟨_, pss_cons (ps_if (pt_val (pe_callB call_isiT (by rfl) T.isi (by decide +kernel) (pa_cons (pv 1) (pa_cons (pe_tup (pa_cons (pe_bltn (v := .ty "list") (by rfl) T.lst (by decide +kernel) rfl) (pa_cons (pe_bltn (v := .ty "tuple") (by rfl) T.tup (by decide +kernel) rfl) pa_nil))) pa_nil))))
          (pss_cons (ps_if (PW.pt (pw_or (pt_cmpR op_ne (pe_callB call_isi (by rfl) T.isi (by decide +kernel) (pa_cons (pv 0) (pa_cons (pe_bltn (v := .ty "list") (by rfl) T.lst (by decide +kernel) rfl) pa_nil))) (pe_callB call_isi (by rfl) T.isi (by decide +kernel) (pa_cons (pv 1) (pa_cons (pe_bltn (v := .ty "list") (by rfl) T.lst (by decide +kernel) rfl) pa_nil))) (nomark _))
              (pw_or1 (pt_cmpR op_ne (pe_callB call_isi (by rfl) T.isi (by decide +kernel) (pa_cons (pv 0) (pa_cons (pe_bltn (v := .ty "tuple") (by rfl) T.tup (by decide +kernel) rfl) pa_nil))) (pe_callB call_isi (by rfl) T.isi (by decide +kernel) (pa_cons (pv 1) (pa_cons (pe_bltn (v := .ty "tuple") (by rfl) T.tup (by decide +kernel) rfl) pa_nil))) (nomark _)))))
            (pss_one (ps_ret pe_bl)) pss_nil)
          (pss_one (ps_ret (pe_and (pe_cmpR op_eq (pe_callB call_len_seq (by rfl) T.len PySem.boot_len (pa_cons (pv 0) pa_nil)) (pe_callB call_len_seq (by rfl) T.len PySem.boot_len (pa_cons (pv 1) pa_nil)) (nomark _))
            (pe_one (pe_callB (cr_all rfl) (by rfl) T.all (by decide +kernel) (pa_cons (pe_lc (own := [("_law_p", 2), ("_law_q", 3)]) (g := gTup K 2 (gCons (gName 2) (gCons (gName 3) gNil))) (tt := tYes) (te := tCall (spSame K n) [] E0 (tCons (tVar 2) (tCons (tVar 3) tNil))) rfl nd
              (pi_zipA (by rfl) T.zip (pa_cons (pv 0) (pa_cons (pv 1) pa_nil))) (blkOk_by (N := ["_law_found", "_law_due", "_law_p", "_law_q"]) (sc := defScope s_l_same) (by decide +kernel))
              (fun _ _ _ _ _ => pg_tup rfl (pgs_cons (pg_name (i := 2) nd rfl (Or.inl rfl)) (pgs_cons (pg_name (i := 3) nd rfl (Or.inl rfl)) pgs_nil))) (fun _ _ _ _ _ => pts_nil)
              (fun _ _ _ _ _ => pe_call G hr (by rfl) gS F.kp bS .nil pass0 (pa_cons (pv 2) (pa_cons (pv 3) pa_nil)))) pa_nil)))))))
          pss_nil)
        (pss_cons (ps_if (pt_val (pe_callB call_isiT (by rfl) T.isi (by decide +kernel) (pa_cons (pv 0) (pa_cons (pe_tup (pa_cons (pe_bltn (v := .ty "list") (by rfl) T.lst (by decide +kernel) rfl) (pa_cons (pe_bltn (v := .ty "tuple") (by rfl) T.tup (by decide +kernel) rfl) pa_nil))) pa_nil)))) (pss_one (ps_ret pe_bl)) pss_nil)
        (pss_cons (ps_if (PW.pt (pw_or (pt_cmpR op_isN (pv 1) pe_non (nomark _)) (pw_or1 (pt_cmpR op_isN (pv 0) pe_non (nomark _))))) (pss_one (ps_ret (pe_and (pe_cmpR op_isN (pv 1) pe_non (nomark _)) (pe_one (pe_cmpR op_isN (pv 0) pe_non (nomark _)))))) pss_nil)
        (pss_cons (ps_if (PW.pt (pw_or (pt_val (pe_callB call_isi (by rfl) T.isi (by decide +kernel) (pa_cons (pv 1) (pa_cons (pe_bltn (v := .ty "bool") (by rfl) T.bool (by decide +kernel) rfl) pa_nil)))) (pw_or1 (pt_val (pe_callB call_isi (by rfl) T.isi (by decide +kernel) (pa_cons (pv 0) (pa_cons (pe_bltn (v := .ty "bool") (by rfl) T.bool (by decide +kernel) rfl) pa_nil)))))))
            (pss_one (ps_ret (pe_and (pe_callB call_isi (by rfl) T.isi (by decide +kernel) (pa_cons (pv 1) (pa_cons (pe_bltn (v := .ty "bool") (by rfl) T.bool (by decide +kernel) rfl) pa_nil))) (pe_and (pe_callB call_isi (by rfl) T.isi (by decide +kernel) (pa_cons (pv 0) (pa_cons (pe_bltn (v := .ty "bool") (by rfl) T.bool (by decide +kernel) rfl) pa_nil))) (pe_one (pe_cmpR op_eq (pv 0) (pv 1) (nomark _))))))) pss_nil)
        (pss_cons (ps_if (PW.pt (pw_or (pt_val (pe_callB call_isi (by rfl) T.isi (by decide +kernel) (pa_cons (pv 1) (pa_cons (pe_bltn (v := .ty "int") (by rfl) T.int (by decide +kernel) rfl) pa_nil)))) (pw_or1 (pt_val (pe_callB call_isi (by rfl) T.isi (by decide +kernel) (pa_cons (pv 0) (pa_cons (pe_bltn (v := .ty "int") (by rfl) T.int (by decide +kernel) rfl) pa_nil)))))))
            (pss_one (ps_ret (pe_and (pe_callB call_isi (by rfl) T.isi (by decide +kernel) (pa_cons (pv 1) (pa_cons (pe_bltn (v := .ty "int") (by rfl) T.int (by decide +kernel) rfl) pa_nil))) (pe_and (pe_callB call_isi (by rfl) T.isi (by decide +kernel) (pa_cons (pv 0) (pa_cons (pe_bltn (v := .ty "int") (by rfl) T.int (by decide +kernel) rfl) pa_nil))) (pe_one (pe_cmpR op_eq (pv 0) (pv 1) (nomark _))))))) pss_nil)
        (pss_cons (ps_if (PW.pt (pw_or (pt_val (pe_callB call_isi (by rfl) T.isi (by decide +kernel) (pa_cons (pv 1) (pa_cons (pe_bltn (v := .ty "str") (by rfl) T.str (by decide +kernel) rfl) pa_nil)))) (pw_or1 (pt_val (pe_callB call_isi (by rfl) T.isi (by decide +kernel) (pa_cons (pv 0) (pa_cons (pe_bltn (v := .ty "str") (by rfl) T.str (by decide +kernel) rfl) pa_nil)))))))
            (pss_one (ps_ret (pe_and (pe_callB call_isi (by rfl) T.isi (by decide +kernel) (pa_cons (pv 1) (pa_cons (pe_bltn (v := .ty "str") (by rfl) T.str (by decide +kernel) rfl) pa_nil))) (pe_and (pe_callB call_isi (by rfl) T.isi (by decide +kernel) (pa_cons (pv 0) (pa_cons (pe_bltn (v := .ty "str") (by rfl) T.str (by decide +kernel) rfl) pa_nil))) (pe_one (pe_cmpR op_eq (pv 0) (pv 1) (nomark _))))))) pss_nil)
        (pss_one (ps_ret (pe_cmpR (op_eqV hu) (pv 0) (pv 1) (nomark _))))))))), ?_⟩
      have same0 : Same H H := Same.refl H
      have atoms : ∀ {U : String}, x = y → TyX K H x (.type U) → kitB U "list" = some false → kitB U "tuple" = some false → True := fun _ _ _ _ => trivial
      rcases alike_cases al with (⟨rfl, fl⟩ | ⟨a, kvs, rfl, rfl, ha, hk⟩) | ⟨m, rfl, ⟨a, b, xs, ys, rfl, rfl, h1, h2, hz, hp⟩ | ⟨a, b, xs, ys, rfl, rfl, h1, h2, hz, hp⟩⟩
      · cases x with
        | non =>
          have ty : ∀ H', TyX K H' V.non (.type "NoneType") := fun H' => .base .non
          refine rd_isLT (i := 1) rfl (ty _) (lt_of (b := false) (c := false) (by decide +kernel) (by decide +kernel)) fun H1 s1 => ⟨_, rfl, iteF ?_⟩
          refine rd_isLT (i := 0) rfl (ty _) (lt_of (b := false) (c := false) (by decide +kernel) (by decide +kernel)) fun H2 s2 => ⟨_, rfl, iteF ?_⟩
          refine ⟨_, rfl, rfl, _, rfl, iteT (iteT ?_)⟩
          exact ⟨_, rfl, rfl, _, rfl, iteT ⟨_, rfl, rfl, k _ (s1.trans s2)⟩⟩
        | bl q =>
          have ty : ∀ H', TyX K H' (V.bl q) (.type "bool") := fun H' => .base (.bl q)
          refine rd_isLT (i := 1) rfl (ty _) (lt_of (b := false) (c := false) (by decide +kernel) (by decide +kernel)) fun H1 s1 => ⟨_, rfl, iteF ?_⟩
          refine rd_isLT (i := 0) rfl (ty _) (lt_of (b := false) (c := false) (by decide +kernel) (by decide +kernel)) fun H2 s2 => ⟨_, rfl, iteF ?_⟩
          refine ⟨_, rfl, rfl, _, rfl, iteF ⟨_, rfl, rfl, _, rfl, iteF ?_⟩⟩
          refine rd_is (i := 1) rfl (ty _) (by decide +kernel) ⟨_, rfl, iteT (iteT ?_)⟩
          refine rd_is (i := 1) rfl (ty _) (by decide +kernel) ⟨_, rfl, iteT (rd_is (i := 0) rfl (ty _) (by decide +kernel) ⟨_, rfl, iteT ?_⟩)⟩
          refine ⟨_, rfl, _, rfl, by cases q <;> rfl, ?_⟩
          rw [decide_eq_true rfl]
          exact k _ (s1.trans s2)
        | int q =>
          have ty : ∀ H', TyX K H' (V.int q) (.type "int") := fun H' => .base (.int q)
          refine rd_isLT (i := 1) rfl (ty _) (lt_of (b := false) (c := false) (by decide +kernel) (by decide +kernel)) fun H1 s1 => ⟨_, rfl, iteF ?_⟩
          refine rd_isLT (i := 0) rfl (ty _) (lt_of (b := false) (c := false) (by decide +kernel) (by decide +kernel)) fun H2 s2 => ⟨_, rfl, iteF ?_⟩
          refine ⟨_, rfl, rfl, _, rfl, iteF ⟨_, rfl, rfl, _, rfl, iteF ?_⟩⟩
          refine rd_is (i := 1) rfl (ty _) (by decide +kernel) ⟨_, rfl, iteF (rd_is (i := 0) rfl (ty _) (by decide +kernel) ⟨_, rfl, iteF ?_⟩)⟩
          refine rd_is (i := 1) rfl (ty _) (by decide +kernel) ⟨_, rfl, iteT (iteT ?_)⟩
          refine rd_is (i := 1) rfl (ty _) (by decide +kernel) ⟨_, rfl, iteT (rd_is (i := 0) rfl (ty _) (by decide +kernel) ⟨_, rfl, iteT ?_⟩)⟩
          refine ⟨_, rfl, _, rfl, rfl, ?_⟩
          rw [decide_eq_true rfl]
          exact k _ (s1.trans s2)
        | str q =>
          have ty : ∀ H', TyX K H' (V.str q) (.type "str") := fun H' => .base (.str q)
          refine rd_isLT (i := 1) rfl (ty _) (lt_of (b := false) (c := false) (by decide +kernel) (by decide +kernel)) fun H1 s1 => ⟨_, rfl, iteF ?_⟩
          refine rd_isLT (i := 0) rfl (ty _) (lt_of (b := false) (c := false) (by decide +kernel) (by decide +kernel)) fun H2 s2 => ⟨_, rfl, iteF ?_⟩
          refine ⟨_, rfl, rfl, _, rfl, iteF ⟨_, rfl, rfl, _, rfl, iteF ?_⟩⟩
          refine rd_is (i := 1) rfl (ty _) (by decide +kernel) ⟨_, rfl, iteF (rd_is (i := 0) rfl (ty _) (by decide +kernel) ⟨_, rfl, iteF ?_⟩)⟩
          refine rd_is (i := 1) rfl (ty _) (by decide +kernel) ⟨_, rfl, iteF (rd_is (i := 0) rfl (ty _) (by decide +kernel) ⟨_, rfl, iteF ?_⟩)⟩
          refine rd_is (i := 1) rfl (ty _) (by decide +kernel) ⟨_, rfl, iteT (iteT ?_)⟩
          refine rd_is (i := 1) rfl (ty _) (by decide +kernel) ⟨_, rfl, iteT (rd_is (i := 0) rfl (ty _) (by decide +kernel) ⟨_, rfl, iteT ?_⟩)⟩
          refine ⟨_, rfl, _, rfl, rfl, ?_⟩
          rw [decide_eq_true rfl]
          exact k _ (s1.trans s2)
        | byt q => cases fl
        | flt q => cases fl
        | ref q => cases fl
        | ty q => cases fl
      · have ty : ∀ H', Same H H' → TyX K H' (V.ref a) (.type "dict") := fun H' ss => .base (.dK (ss _ _ ha))
        refine rd_isLT (i := 1) rfl (ty _ same0) (lt_of (b := false) (c := false) (by decide +kernel) (by decide +kernel)) fun H1 s1 => ⟨_, rfl, iteF ?_⟩
        refine rd_isLT (i := 0) rfl (ty _ s1) (lt_of (b := false) (c := false) (by decide +kernel) (by decide +kernel)) fun H2 s2 => ⟨_, rfl, iteF ?_⟩
        have t2 := ty _ (s1.trans s2)
        refine ⟨_, rfl, rfl, _, rfl, iteF ⟨_, rfl, rfl, _, rfl, iteF ?_⟩⟩
        refine rd_is (i := 1) rfl t2 (by decide +kernel) ⟨_, rfl, iteF (rd_is (i := 0) rfl t2 (by decide +kernel) ⟨_, rfl, iteF ?_⟩)⟩
        refine rd_is (i := 1) rfl t2 (by decide +kernel) ⟨_, rfl, iteF (rd_is (i := 0) rfl t2 (by decide +kernel) ⟨_, rfl, iteF ?_⟩)⟩
        refine rd_is (i := 1) rfl t2 (by decide +kernel) ⟨_, rfl, iteF (rd_is (i := 0) rfl t2 (by decide +kernel) ⟨_, rfl, iteF ?_⟩)⟩
        have ha2 := (s1.trans s2) _ _ ha
        exact ⟨_, rfl, _, rfl, 1, by decide, .inr ⟨a, a, kvs, kvs, rfl, rfl, ha2, ha2, rfl, fun p hp => ⟨_, (hk p hp).1, .inl ⟨rfl, (hk p hp).2⟩⟩⟩, k _ (s1.trans s2)⟩
      · refine rd_isLT (i := 1) rfl (ty_list h2) (lt_of (b := true) (c := false) (by decide +kernel) (by decide +kernel)) fun H1 s1 => ⟨_, rfl, iteT ?_⟩
        have g1 := (s1.seq h1)
        have g2 := (s1.seq h2)
        refine rd_is (b := true) (i := 0) rfl (ty_list g1) (by decide +kernel) (rd_is (b := true) (i := 1) rfl (ty_list g2) (by decide +kernel) ⟨rfl, _, rfl, iteNS rfl ?_⟩)
        refine rd_is (b := false) (i := 0) rfl (ty_list g1) (by decide +kernel) (rd_is (b := false) (i := 1) rfl (ty_list g2) (by decide +kernel) ⟨rfl, _, rfl, iteNS rfl ?_⟩)
        have el := paired_len hp
        refine ⟨_, rfl, a, xs, rfl, .inl g1, _, rfl, b, ys, rfl, .inl g2, rfl, true, congrArg V.bl (decide_eq_true (by rw [el])), iteT ?_⟩
        refine ⟨_, rfl, _, rfl, a, b, xs, ys, rfl, .inl ⟨g1, g2, fun D hD => ?_⟩⟩
        refine lc_walk (n := xs.length) (fun i H' => Same H1 H' ∧ H' D = some (.lst ((List.replicate i true).map V.bl))) ⟨Same.new (Same.refl H1) hD, upd_same⟩ (fun i H' hi p => ?_) (fun H' p => ?_) (fun i v H' H'' hi p yl => ?_) (fun H' p => ?_)
        · exact ⟨xs, ys, xs[i], ys[i]'(by omega), (p.1.seq g1), (p.1.seq g2), List.getElem?_eq_getElem hi, List.getElem?_eq_getElem (by omega)⟩
        · exact ⟨xs, ys, (p.1.seq g1), (p.1.seq g2), .inl (Nat.le_refl _)⟩
        · obtain ⟨T', u, v', rfl, hT, rfl, q1, q2⟩ := yl
          have e1 := q1 xs (p.1.seq g1)
          have e2 := q2 ys (p.1.seq g2)
          have s3 : Same H' (upd H' T' (.tup [u, v'])) := Same.new (Same.refl H') hT
          refine ⟨T', [u, v'], rfl, SqT.of upd_same, rfl, u, [v'], rfl, v', [], rfl, rfl, rfl, ?_⟩
          refine ⟨_, rfl, _, rfl, u, v', rfl, (paired_at hp e1 e2).same ((s1.trans p.1).trans s3), fun H4 s4 => ?_⟩
          refine ⟨_, s4 _ _ (s3 _ _ p.2), by rw [List.length_map, List.length_replicate]; omega, (fun c o e => ?_), ?_⟩
          · have e' := s4 _ _ (s3 _ _ (p.1 _ _ e))
            rw [upd_ne (ne_of_none e hD)]
            exact e'
          · rw [upd_same, List.replicate_succ', List.map_append]
            rfl
        · refine ⟨D, List.replicate xs.length true, rfl, SqL.of p.2, ?_⟩
          have e : (List.replicate xs.length true).all id = true := by simp
          rw [e]
          exact k _ (s1.trans p.1)
      · refine rd_isLT (i := 1) rfl (ty_tup h2) (lt_of (b := false) (c := true) (by decide +kernel) (by decide +kernel)) fun H1 s1 => ⟨_, rfl, iteT ?_⟩
        have g1 := (sqT_same s1 h1)
        have g2 := (sqT_same s1 h2)
        refine rd_is (b := false) (i := 0) rfl (ty_tup g1) (by decide +kernel) (rd_is (b := false) (i := 1) rfl (ty_tup g2) (by decide +kernel) ⟨rfl, _, rfl, iteNS rfl ?_⟩)
        refine rd_is (b := true) (i := 0) rfl (ty_tup g1) (by decide +kernel) (rd_is (b := true) (i := 1) rfl (ty_tup g2) (by decide +kernel) ⟨rfl, _, rfl, iteNS rfl ?_⟩)
        have el := paired_len hp
        refine ⟨_, rfl, a, xs, rfl, .inr g1, _, rfl, b, ys, rfl, .inr g2, rfl, true, congrArg V.bl (decide_eq_true (by rw [el])), iteT ?_⟩
        refine ⟨_, rfl, _, rfl, a, b, xs, ys, rfl, .inr ⟨g1, g2, fun D hD => ?_⟩⟩
        refine lc_walk (n := xs.length) (fun i H' => Same H1 H' ∧ H' D = some (.lst ((List.replicate i true).map V.bl))) ⟨Same.new (Same.refl H1) hD, upd_same⟩ (fun i H' hi p => ?_) (fun H' p => ?_) (fun i v H' H'' hi p yl => ?_) (fun H' p => ?_)
        · exact ⟨xs, ys, xs[i], ys[i]'(by omega), (sqT_same p.1 g1), (sqT_same p.1 g2), List.getElem?_eq_getElem hi, List.getElem?_eq_getElem (by omega)⟩
        · exact ⟨xs, ys, (sqT_same p.1 g1), (sqT_same p.1 g2), .inl (Nat.le_refl _)⟩
        · obtain ⟨T', u, v', rfl, hT, rfl, q1, q2⟩ := yl
          have e1 := q1 xs (sqT_same p.1 g1)
          have e2 := q2 ys (sqT_same p.1 g2)
          have s3 : Same H' (upd H' T' (.tup [u, v'])) := Same.new (Same.refl H') hT
          refine ⟨T', [u, v'], rfl, SqT.of upd_same, rfl, u, [v'], rfl, v', [], rfl, rfl, rfl, ?_⟩
          refine ⟨_, rfl, _, rfl, u, v', rfl, (paired_at hp e1 e2).same ((s1.trans p.1).trans s3), fun H4 s4 => ?_⟩
          refine ⟨_, s4 _ _ (s3 _ _ p.2), by rw [List.length_map, List.length_replicate]; omega, (fun c o e => ?_), ?_⟩
          · have e' := s4 _ _ (s3 _ _ (p.1 _ _ e))
            rw [upd_ne (ne_of_none e hD)]
            exact e'
          · rw [upd_same, List.replicate_succ', List.map_append]
            rfl
        · refine ⟨D, List.replicate xs.length true, rfl, SqL.of p.2, ?_⟩
          have e : (List.replicate xs.length true).all id = true := by simp
          rw [e]
          exact k _ (s1.trans p.1)
end
end K04

end

section
set_option Elab.async false
set_option linter.all false
set_option maxRecDepth 100000
set_option maxHeartbeats 4000000
namespace K04
open PySem L2 SB
theorem sorted_one : ∀ {xs ys : List Int}, List.Perm xs ys → xs.Pairwise (· ≤ ·) → ys.Pairwise (· ≤ ·) → xs = ys
  | [], ys, p, _, _ => (List.Perm.eq_nil p.symm).symm
  | x :: xs, [], p, _, _ => by have := p.length_eq; simp at this
  | x :: xs, y :: ys, p, h1, h2 => by
    have a1 := List.pairwise_cons.mp h1
    have a2 := List.pairwise_cons.mp h2
    have e : x = y := by
      have m1 : x ∈ y :: ys := p.mem_iff.mp List.mem_cons_self
      have m2 : y ∈ x :: xs := p.mem_iff.mpr List.mem_cons_self
      rcases List.mem_cons.mp m1 with e | m1
      · exact e
      · rcases List.mem_cons.mp m2 with e | m2
        · exact e.symm
        · have := a1.1 y m2
          have := a2.1 x m1
          omega
    subst e
    rw [sorted_one (List.Perm.cons_inv p) a1.2 a2.2]
theorem Sorted.one {xs ys l : List Int} (a : Sorted xs l) (b : Sorted ys l) : xs = ys := sorted_one (a.1.trans b.1.symm) a.2 b.2
theorem kset_le {ks : List Int} (h : KSet ks) : ks.Pairwise (· ≤ ·) := h.up.imp fun a => by omega
theorem kset_nd {ks : List Int} (h : KSet ks) : ks.Nodup := h.up.imp fun a => by omega
theorem dec_mv (z : Int) (o : Option Int) : decide (V.int z = mV o) = decide (o = some z) := by
  cases o with
  | none => rfl
  | some k =>
    by_cases h : z = k
    · subst h; simp [mV]
    · have h1 : ¬ (V.int z = mV (some k)) := fun e => h (V.int.inj e)
      have h2 : ¬ (some k = some z) := fun e => h (Option.some.inj e).symm
      rw [decide_eq_false h1, decide_eq_false h2]
theorem lows_same {ks bs : List Int} {k : Int} (h1 : ks.Pairwise (· ≤ ·)) (h2 : bs.Pairwise (· ≤ ·)) (h : List.Perm (bs.filter fun z => decide (z ≠ k)) (ks.filter fun z => decide (z ≠ k))) : lowV bs k = lowV ks k ∧ highV bs k = highV ks k := by
  have f1 : ∀ l : List Int, (l.filter fun z => decide (z < k)) = (l.filter fun z => decide (z ≠ k)).filter fun z => decide (z < k) := fun l => by
    rw [List.filter_filter]
    congr 1
    funext z
    by_cases hz : z < k
    · have : z ≠ k := by omega
      simp [hz, this]
    · simp [hz]
  have f2 : ∀ l : List Int, (l.filter fun z => decide (z > k)) = (l.filter fun z => decide (z ≠ k)).filter fun z => decide (z > k) := fun l => by
    rw [List.filter_filter]
    congr 1
    funext z
    by_cases hz : z > k
    · have : z ≠ k := by omega
      simp [hz, this]
    · simp [hz]
  have e : (bs.filter fun z => decide (z ≠ k)) = ks.filter fun z => decide (z ≠ k) := sorted_one h (h2.filter _) (h1.filter _)
  unfold lowV highV
  rw [f1 bs, f1 ks, f2 bs, f2 ks, e]
  exact ⟨rfl, rfl⟩
theorem strange_none {ks ls : List Int} {up : Option Int} (h : KSet ks) : strange ks (bef ls up) = none ↔ ∀ z ∈ ls, up ≠ some z → z ∈ ks := by
  rw [strange_head h, List.head?_eq_none_iff, List.filter_eq_nil_iff]
  constructor
  · intro g z hz hu
    have := g z hz
    rw [dec_mv, decide_eq_false hu] at this
    simpa using this
  · intro g z hz
    rw [dec_mv]
    by_cases hu : up = some z
    · rw [decide_eq_true hu]; simp
    · rw [decide_eq_false hu]
      have := g z hz hu
      simp [this]
theorem nearR_ok {ks ls : List Int} {k : Int} : nearR ks ls k = .ok ↔ missed ks ls k = none := by
  unfold nearR
  cases missed ks ls k with
  | none => simp
  | some z => simp
theorem fnone (l : List Int) : (l.filter fun z => decide ((none : Option Int) ≠ some z)) = l := List.filter_eq_self.mpr fun z _ => by simp
theorem back_ok {ks bs ls : List Int} {up dn : Option Int} (hk : KSet ks) (hz : ks.length ≤ 12) (L : Lot ls up dn) (e : fitR ks ls up dn = .ok) (hb : Sorted bs (stay ks up dn)) : KSet bs ∧ fitR bs ls dn up = .ok ∧ Sorted ks (stay bs dn up) := by
  have e0 : strange ks (bef ls up) = none := by
    unfold fitR at e
    cases h : strange ks (bef ls up) with
    | none => rfl
    | some z => rw [h] at e; cases e
  have em : fitM ks ls up dn = .ok := by unfold fitR at e; rw [e0] at e; exact e
  have s0 := (strange_none hk).mp e0
  have fl : ∀ (l : List Int) (o : Option Int), (l.filter fun z => !decide (V.int z = mV o)) = l.filter fun z => decide (o ≠ some z) := fun l o => by
    congr 1
    funext z
    rw [dec_mv]
    by_cases h : o = some z <;> simp [h]
  obtain ⟨pb, sb⟩ := hb
  have stay_eq : ∀ (l : List Int) (a o : Option Int), stay l a o = (l.filter fun z => decide (o ≠ some z)) ++ upl a := fun l a o => by unfold stay; rw [fl]
  rw [stay_eq] at pb ⊢
  cases up with
  | none =>
    cases dn with
    | none =>
      have pb' : List.Perm bs ks := by rw [fnone] at pb; simpa [upl] using pb
      have : bs = ks := sorted_one pb' sb (kset_le hk)
      subst this
      exact ⟨hk, e, by rw [fnone]; unfold upl; rw [List.append_nil], sb⟩
    | some d =>
      have dl := (L.d d rfl).2
      have dk : d ∈ ks := s0 d dl (by simp)
      have pb' : List.Perm bs (ks.filter fun z => decide (z ≠ d)) := by
        have : (ks.filter fun z => decide (some d ≠ some z)) = ks.filter fun z => decide (z ≠ d) := by
          congr 1; funext z
          by_cases h : z = d
          · subst h; simp
          · have : ¬ d = z := fun e => h e.symm
            simp [h, this]
        rw [this] at pb
        simpa [upl] using pb
      have eb : bs = ks.filter fun z => decide (z ≠ d) := sorted_one pb' sb ((kset_le hk).filter _)
      have KB : KSet bs := by
        rw [eb]
        exact ⟨hk.up.filter _, fun z h => hk.lo z (List.mem_filter.mp h).1, fun z h => hk.hi z (List.mem_filter.mp h).1⟩
      have nd : d ∉ bs := by rw [eb]; simp
      have pk : List.Perm (bs ++ [d]) ks := by
        rw [eb]
        have h1 := List.filter_append_perm (fun z => decide (z ≠ d)) ks
        have h2 : (ks.filter fun z => !decide (z ≠ d)) = [d] := by
          have hn := kset_nd hk
          have : (ks.filter fun z => !decide (z ≠ d)) = ks.filter fun z => z == d := by
            congr 1; funext z; by_cases h : z = d <;> simp [h]
          rw [this, List.filter_beq, List.Nodup.count hn, if_pos dk]
          rfl
        rw [h2] at h1
        exact h1
      have low := lows_same (k := d) (kset_le hk) sb (by rw [eb, List.filter_filter]; simp)
      refine ⟨KB, ?_, ?_, kset_le hk⟩
      · have s1 : strange bs (bef ls (some d)) = none := (strange_none KB).mpr fun z hz' hd => by
          rw [eb]
          exact List.mem_filter.mpr ⟨s0 z hz' (by simp), by simpa using fun h => hd (by rw [h])⟩
        have lb : bs.length + 1 = ks.length := by
          have := pk.length_eq
          rw [List.length_append] at this
          exact this
        unfold fitR
        rw [s1]
        show (if d ∈ bs then Res.alr d else if (12 : Int) < (bs.length : Int) + 1 then .many ((bs.length : Int) + 1) else nearR bs ls d) = .ok
        rw [if_neg nd, if_neg (by omega), nearR_ok]
        unfold missed
        rw [low.1, low.2]
        exact nearR_ok.mp em
      · rw [fnone]
        exact pk.symm
  | some u =>
    have dn0 : dn = none := by
      cases dn with
      | none => rfl
      | some d => have := (L.d d rfl).1; cases this
    subst dn0
    have em' : (if u ∈ ks then Res.alr u else if (12 : Int) < (ks.length : Int) + 1 then .many ((ks.length : Int) + 1) else nearR ks ls u) = .ok := em
    have nu : u ∉ ks := fun h => by rw [if_pos h] at em'; cases em'
    rw [if_neg nu] at em'
    have n12 : ¬ (12 : Int) < (ks.length : Int) + 1 := fun h => by rw [if_pos h] at em'; cases em'
    rw [if_neg n12] at em'
    have pb' : List.Perm bs (ks ++ [u]) := by rw [fnone] at pb; exact pb
    have mb : ∀ z, z ∈ bs ↔ z ∈ ks ∨ z = u := fun z => by rw [pb'.mem_iff]; simp
    have ul := L.u u rfl
    have ndb : bs.Nodup := pb'.symm.nodup (List.nodup_append.mpr ⟨kset_nd hk, by simp, fun a ha b' hb' e => by
      have : b' = u := by simpa using hb'
      exact nu (by rw [← this, ← e]; exact ha)⟩)
    have KB : KSet bs := ⟨(sb.and ndb).imp fun ⟨a, b⟩ => by omega, fun z h => ((mb z).mp h).elim (hk.lo z) (fun e => by rw [e]; exact L.ks.lo u ul), fun z h => ((mb z).mp h).elim (hk.hi z) (fun e => by rw [e]; exact L.ks.hi u ul)⟩
    have kf : (ks.filter fun z => decide (z ≠ u)) = ks := List.filter_eq_self.mpr fun z hz' => by
      have : z ≠ u := fun e => nu (e ▸ hz')
      simp [this]
    have pf : List.Perm (bs.filter fun z => decide (z ≠ u)) ks := by
      have := pb'.filter fun z => decide (z ≠ u)
      rw [List.filter_append, kf] at this
      simpa using this
    have low := lows_same (k := u) (kset_le hk) sb (by rw [kf]; exact pf)
    refine ⟨KB, ?_, ?_, kset_le hk⟩
    · have s1 : strange bs (bef ls none) = none := (strange_none KB).mpr fun z hz' _ => (mb z).mpr (by
        by_cases h : z = u
        · exact .inr h
        · exact .inl (s0 z hz' fun e => h (Option.some.inj e).symm))
      unfold fitR
      rw [s1]
      show nearR bs ls u = .ok
      rw [nearR_ok]
      unfold missed
      rw [low.1, low.2]
      exact nearR_ok.mp em'
    · have : (bs.filter fun z => decide (some u ≠ some z)) = bs.filter fun z => decide (z ≠ u) := by
        congr 1; funext z
        by_cases h : z = u
        · subst h; simp
        · have : ¬ u = z := fun e => h e.symm
          simp [h, this]
      rw [this]
      simpa [upl] using pf.symm
end K04

end

section
set_option Elab.async false
set_option linter.all false
set_option maxRecDepth 100000
set_option maxHeartbeats 8000000
namespace K04
open PySem L2 SB
theorem bag_ne {H : Hp} {b l x : Addr} {xs : List V} (B : BagL H b l) (h : H x = some (.tup xs)) : x ≠ b := fun e => by
  obtain ⟨ns, i, g, m, c, hb, _⟩ := B
  rw [e, hb] at h
  cases h
theorem RowAt.keep {C r q b l : Addr} {H H' : Hp} {up dn : Option Int} (x : RowAt C H r q up dn) (B : BagL H b l) (k : Keep b H H') : RowAt C H' r q up dn := by
  obtain ⟨dx, h⟩ := x
  refine ⟨dx, k _ _ h fun e => ?_⟩
  obtain ⟨ns, i, g, m, c, hb, _⟩ := B
  rw [e, hb] at h
  cases h
theorem ResT.keep {b l t : Addr} {H H' : Hp} {r : Res} {st : List Int} (x : ResT H t r st) (B : BagL H b l) (k : Keep b H H') : ResT H' t r st := by
  cases r with
  | ok =>
    obtain ⟨y, bs, h1, h2, h3⟩ := x
    exact ⟨y, bs, k _ _ h1 (bag_ne B h1), k _ _ h2 (bag_ne B h2), h3⟩
  | row0 => exact k _ _ x (bag_ne B x)
  | unk z => exact k _ _ x (bag_ne B x)
  | alr z => exact k _ _ x (bag_ne B x)
  | many z => exact k _ _ x (bag_ne B x)
  | miss a z => exact k _ _ x (bag_ne B x)
/-- what is told, its shape -/
def TellR (H : Hp) (t : Addr) (way : Int) (r : Res) (st : List Int) : Prop := match r with
  | .ok => if way < 2 then H t = some (.tup [.str "made", .non]) else ResT H t .ok st
  | r => H t = some (.tup (ofRes r))
theorem TellR.of {H : Hp} {t : Addr} {way : Int} {ks ls : List Int} {up dn : Option Int} (x : TellT H t way ks (some (ls, up, dn))) : TellR H t way (fitR ks ls up dn) (stay ks up dn) := by
  unfold TellT at x
  have e : fitO ks (some (ls, up, dn)) = fitR ks ls up dn := rfl
  rw [e] at x
  cases h : fitR ks ls up dn with
  | ok =>
    rw [h] at x
    show if way < 2 then _ else _
    by_cases hw : way < 2
    · rw [if_pos hw]; exact x.1 hw
    · rw [if_neg hw]
      obtain ⟨y, bs, ls', up', dn', eo, h1, h2, h3⟩ := x.2 (by omega)
      cases eo
      exact ⟨y, bs, h1, h2, h3⟩
  | row0 => rw [h] at x; exact x
  | unk z => rw [h] at x; exact x
  | alr z => rw [h] at x; exact x
  | many z => rw [h] at x; exact x
  | miss a z => rw [h] at x; exact x
theorem TellR.sm {H H' : Hp} {t : Addr} {way : Int} {r : Res} {st : List Int} (x : TellR H t way r st) (s : Same H H') : TellR H' t way r st := by
  cases r with
  | ok =>
    show if way < 2 then _ else _
    have x : if way < 2 then H t = some (.tup [.str "made", .non]) else ResT H t .ok st := x
    by_cases hw : way < 2
    · rw [if_pos hw] at x ⊢; exact s _ _ x
    · rw [if_neg hw] at x ⊢
      obtain ⟨y, bs, h1, h2, h3⟩ := x
      exact ⟨y, bs, s _ _ h1, s _ _ h2, h3⟩
  | row0 => exact s _ _ x
  | unk z => exact s _ _ x
  | alr z => exact s _ _ x
  | many z => exact s _ _ x
  | miss a z => exact s _ _ x
/-- what is due of the two that give nothing back -/
def NoneT (H : Hp) (t : Addr) (r : Res) : Prop := match r with
  | .ok => H t = some (.tup [.str "made", .non])
  | r => H t = some (.tup (ofRes r))
theorem NoneT.keep {b l t : Addr} {H H' : Hp} {r : Res} (x : NoneT H t r) (B : BagL H b l) (k : Keep b H H') : NoneT H' t r := by
  cases r <;> exact k _ _ x (bag_ne B x)
section
variable {K : PySem.W.Frag} {H : Hp}
theorem al_flat {t u : Addr} {us : List V} (h1 : H t = some (.tup us)) (h2 : H u = some (.tup us)) (hf : us.all flatV = true) (hz : us.length < sizeLine) (n : Nat) : Alike K H (n + 1) (.ref t) (.ref u) := by
  refine .inr (.inr ⟨t, u, us, us, rfl, rfl, SqT.of h1, SqT.of h2, hz, ?_⟩)
  clear h1 h2 hz
  induction us with
  | nil => exact .nil
  | cons a r ih =>
    rw [List.all_cons, Bool.and_eq_true] at hf
    exact .cons (by
      cases n with
      | zero => exact .inl ⟨rfl, hf.1⟩
      | succ m => exact .inl (.inl ⟨rfl, hf.1⟩)) (ih hf.2)
theorem al_leaf {x : V} (hf : flatV x = true) (n : Nat) : Alike K H n x x := by
  cases n with
  | zero => exact .inl ⟨rfl, hf⟩
  | succ m => exact .inl (.inl ⟨rfl, hf⟩)
theorem ofRes_flat (r : Res) : (ofRes r).all flatV = true ∧ (ofRes r).length < sizeLine := by
  cases r <;> first
    | exact ⟨rfl, by show 0 < sizeLine; decide⟩
    | exact ⟨rfl, by show 2 < sizeLine; decide⟩
    | exact ⟨rfl, by show 3 < sizeLine; decide⟩
theorem al_tell {t u : Addr} {way : Int} {r : Res} {st : List Int} (hw : 2 ≤ way) (x : TellR H t way r st) (y : ResT H u r st) (hz : st.length < sizeLine) : Alike K H 2 (.ref t) (.ref u) := by
  cases r with
  | ok =>
    have x : if way < 2 then H t = some (.tup [.str "made", .non]) else ResT H t .ok st := x
    rw [if_neg (by omega)] at x
    obtain ⟨b1, bs1, a1, a2, a3⟩ := x
    obtain ⟨b2, bs2, c1, c2, c3⟩ := y
    have e := a3.one c3
    subst e
    have hl : (bs1.map V.int).length < sizeLine := by rw [List.length_map, a3.1.length_eq]; exact hz
    exact .inr (.inr ⟨t, u, _, _, rfl, rfl, SqT.of a1, SqT.of c1, (by show 2 < sizeLine; decide), .cons (al_leaf rfl 1) (.cons (al_flat a2 c2 (flat_ints bs1) hl 0) .nil)⟩)
  | row0 => exact al_flat x y (ofRes_flat _).1 (ofRes_flat _).2 1
  | unk z => exact al_flat x y (ofRes_flat _).1 (ofRes_flat _).2 1
  | alr z => exact al_flat x y (ofRes_flat _).1 (ofRes_flat _).2 1
  | many z => exact al_flat x y (ofRes_flat _).1 (ofRes_flat _).2 1
  | miss a z => exact al_flat x y (ofRes_flat _).1 (ofRes_flat _).2 1
theorem al_none {t u : Addr} {way : Int} {r : Res} {st : List Int} (hw : way < 2) (x : TellR H t way r st) (y : NoneT H u r) : Alike K H 2 (.ref t) (.ref u) := by
  cases r with
  | ok =>
    have x : if way < 2 then H t = some (.tup [.str "made", .non]) else ResT H t .ok st := x
    rw [if_pos hw] at x
    exact al_flat x y rfl (by show 2 < sizeLine; decide) 1
  | row0 => exact al_flat x y (ofRes_flat _).1 (ofRes_flat _).2 1
  | unk z => exact al_flat x y (ofRes_flat _).1 (ofRes_flat _).2 1
  | alr z => exact al_flat x y (ofRes_flat _).1 (ofRes_flat _).2 1
  | many z => exact al_flat x y (ofRes_flat _).1 (ofRes_flat _).2 1
  | miss a z => exact al_flat x y (ofRes_flat _).1 (ofRes_flat _).2 1
end
def nameR : Res → Str
  | .ok => "made"
  | .row0 => "InvalidRow"
  | .unk _ => "UnknownKey"
  | .alr _ => "AlreadyLiving"
  | .many _ => "TooMany"
  | .miss _ _ => "NeighbourMissed"
theorem ResT.head {H : Hp} {t : Addr} {r : Res} {st : List Int} (x : ResT H t r st) : ∃ us, H t = some (.tup us) ∧ us[0]? = some (V.str (nameR r)) := by
  cases r with
  | ok => obtain ⟨y, bs, h1, _⟩ := x; exact ⟨_, h1, rfl⟩
  | row0 => exact ⟨_, x, rfl⟩
  | unk z => exact ⟨_, x, rfl⟩
  | alr z => exact ⟨_, x, rfl⟩
  | many z => exact ⟨_, x, rfl⟩
  | miss a z => exact ⟨_, x, rfl⟩
theorem made_iff (r : Res) : decide (V.str (nameR r) = V.str "made") = true ↔ r = .ok := by
  cases r with
  | ok => simp [nameR]
  | row0 => simp only [reduceCtorEq, iff_false]; decide +kernel
  | unk z =>
    simp only [reduceCtorEq, iff_false]
    show ¬ decide (V.str ("UnknownKey" : Str) = V.str "made") = true
    decide +kernel
  | alr z =>
    simp only [reduceCtorEq, iff_false]
    show ¬ decide (V.str ("AlreadyLiving" : Str) = V.str "made") = true
    decide +kernel
  | many z =>
    simp only [reduceCtorEq, iff_false]
    show ¬ decide (V.str ("TooMany" : Str) = V.str "made") = true
    decide +kernel
  | miss a z =>
    simp only [reduceCtorEq, iff_false]
    show ¬ decide (V.str ("NeighbourMissed" : Str) = V.str "made") = true
    decide +kernel
theorem ResT.none {H : Hp} {t : Addr} {r : Res} {st : List Int} (x : ResT H t r st) (n : r ≠ .ok) : NoneT H t r := by
  cases r with
  | ok => exact absurd rfl n
  | row0 => exact x
  | unk z => exact x
  | alr z => exact x
  | many z => exact x
  | miss a z => exact x
theorem TellR.put {H : Hp} {D t : Addr} {xs : List V} {way : Int} {r : Res} {st : List Int} {o : HO} (x : TellR H t way r st) (hD : H D = some (.lst xs)) : TellR (upd H D o) t way r st := by
  have ne : ∀ {c : Addr} {ys : List V}, H c = some (.tup ys) → upd H D o c = some (.tup ys) := fun {c ys} h => by
    rw [upd_ne (fun e => by rw [e, hD] at h; cases h)]
    exact h
  cases r with
  | ok =>
    show if way < 2 then _ else _
    have x : if way < 2 then H t = some (.tup [.str "made", .non]) else ResT H t .ok st := x
    by_cases hw : way < 2
    · rw [if_pos hw] at x ⊢; exact ne x
    · rw [if_neg hw] at x ⊢
      obtain ⟨y, bs, h1, h2, h3⟩ := x
      exact ⟨y, bs, ne h1, ne h2, h3⟩
  | row0 => exact ne x
  | unk z => exact ne x
  | alr z => exact ne x
  | many z => exact ne x
  | miss a z => exact ne x
/-- the bag, the living keys, the drawn row -/
structure Fx (b l p tv q : Addr) (ks ls : List Int) (up dn : Option Int) (H : Hp) : Prop where
  B : BagL H b l
  p : H p = some (.tup (ks.map V.int))
  t : H tv = some (.tup [.ref q, mV up, mV dn])
  q : H q = some (.tup (ls.map V.int))
theorem Fx.keep {b l p tv q : Addr} {ks ls : List Int} {up dn : Option Int} {H H' : Hp} (x : Fx b l p tv q ks ls up dn H) (B : BagL H' b l) (k : Keep b H H') : Fx b l p tv q ks ls up dn H' :=
  ⟨B, k _ _ x.p (bag_ne x.B x.p), k _ _ x.t (bag_ne x.B x.t), k _ _ x.q (bag_ne x.B x.q)⟩
theorem Fx.sm {b l p tv q : Addr} {ks ls : List Int} {up dn : Option Int} {H H' : Hp} (x : Fx b l p tv q ks ls up dn H) (s : Same H H') : Fx b l p tv q ks ls up dn H' := x.keep (x.B.same s) (Keep.ofSame s)
theorem Odd.keep {b C : Addr} {K : PySem.W.Frag} {H H' : Hp} {v : V} (x : Odd b K C H v) (k : Keep b H H') : Odd b K C H' v := fun H2 k2 => x H2 (k.trans k2)
theorem odd_str {b C : Addr} {K : PySem.W.Frag} {H : Hp} (O : NotRow K C) (z : Str) : Odd b K C H (.str z) := fun H' k =>
  ⟨⟨_, .base (.str z), O "str" (by simp [tyN])⟩, .inl ⟨_, .base (.str z), kit_ty (by decide +kernel), rfl⟩⟩
theorem odd_tup {b C p : Addr} {K : PySem.W.Frag} {H : Hp} {xs : List V} {os : List (Option Int)} (O : NotRow K C) (h : H p = some (.tup xs)) (n : p ≠ b) (hz : xs.length ≤ 2000) (hp : ∀ H', Keep b H H' → Paired (NV K H') xs os) (hs : (setB os && decide (0 < xs.length)) = false) : Odd b K C H (.ref p) := fun H' k =>
  ⟨⟨_, ty_tup (SqT.of (k _ _ h n)), O "tuple" (by simp [tyN])⟩, .inr ⟨p, xs, os, rfl, SqT.of (k _ _ h n), hz, hp H' k, hs.symm⟩⟩
theorem nv_mv {K : PySem.W.Frag} {H : Hp} (o : Option Int) : NV K H (mV o) o := by
  cases o with
  | none => exact .no _ false false (.base .non) (kit_ty (by decide +kernel)) (kit_ty (by decide +kernel)) rfl
  | some k => exact .int k
theorem row_new2 {K : PySem.W.Frag} {C x dx q : Addr} {H : Hp} {ls : List Int} {up dn : Option Int} {R : VK} {E : XK} (hx : H x = none) (hdx : H dx = none) (ne : dx ≠ x) (hs : SqT K H q (ls.map V.int)) (L : Lot ls up dn)
    (k : ∀ H', Same H H' → RowAt C H' x q up dn → R .non H') : spRow K C [.ref x, .ref q, mV up, mV dn] (upd (upd H dx (.own x)) x (.ins C dx [])) R E := by
  have s1 : Same H (upd (upd H dx (.own x)) x (.ins C dx [])) := Same.new (Same.new (Same.refl H) hdx) (by rw [upd_ne (fun e => ne e.symm)]; exact hx)
  exact ⟨x, dx, q, ls, up, dn, rfl, upd_same, sqT_same s1 hs, L, fun H' h1 kk => k H' (fun c o e => kk c o (s1 c o e) (ne_of_none e hx)) ⟨dx, h1⟩⟩
end K04

end

section
set_option Elab.async false
set_option linter.all false
set_option maxRecDepth 100000
set_option maxHeartbeats 8000000
namespace K04
open PySem L2 SB
structure Defs (P : Program) (w : World) (K : PySem.W.Frag) (mg : Str → Option Value) (base : Heap) (C : Addr) : Prop where
  bg : ∃ f fd, mg "_law_bag" = some (.ref f) ∧ PySem.W.keepIn K (.ref f) = true ∧ Binds K fd ["_law_script"] [] ∧ FnOk P w K mg base CX0 1 f fd ["_law_script"] (spBagL K)
  dr : ∃ f fd, mg "_law_draw" = some (.ref f) ∧ PySem.W.keepIn K (.ref f) = true ∧ Binds K fd ["_law_bag_here", "_law_top"] [] ∧ FnOk P w K mg base CX0 1 f fd ["_law_bag_here", "_law_top"] spDrawL
  of : ∃ f fd, mg "_law_of" = some (.ref f) ∧ PySem.W.keepIn K (.ref f) = true ∧ Binds K fd ["_law_bag_here", "_law_some"] [] ∧ FnOk P w K mg base CX0 2 f fd ["_law_bag_here", "_law_some"] (spOfL K)
  ky : ∃ f fd, mg "_law_keys" = some (.ref f) ∧ PySem.W.keepIn K (.ref f) = true ∧ Binds K fd ["_law_bag_here", "_law_many"] [] ∧ FnOk P w K mg base CX0 3 f fd ["_law_bag_here", "_law_many"] (spKeys K)
  so : ∃ f fd, mg "_law_some_row" = some (.ref f) ∧ PySem.W.keepIn K (.ref f) = true ∧ Binds K fd ["_law_bag_here", "_law_ks"] [] ∧ FnOk P w K mg base CX0 4 f fd ["_law_bag_here", "_law_ks"] (spSome K)
  ft : ∃ f fd, mg "_law_fits" = some (.ref f) ∧ PySem.W.keepIn K (.ref f) = true ∧ Binds K fd ["_law_ks", "_law_v"] [] ∧ FnOk P w K mg base CX0 1 f fd ["_law_ks", "_law_v"] (spFits K)
  fd : ∃ f fd, mg "_law_fitted" = some (.ref f) ∧ PySem.W.keepIn K (.ref f) = true ∧ Binds K fd ["_law_way", "_law_ks", "_law_v"] [] ∧ FnOk P w K mg base CX0 10 f fd ["_law_way", "_law_ks", "_law_v"] (spFitted K C)
  sm : ∃ f fd, mg "_law_same" = some (.ref f) ∧ PySem.W.keepIn K (.ref f) = true ∧ Binds K fd ["_law_found", "_law_due"] [] ∧ FnOk P w K mg base CX0 4 f fd ["_law_found", "_law_due"] (spSame K 4)
  od : ∃ f fd, mg "_law_odd_set" = some (.ref f) ∧ PySem.W.keepIn K (.ref f) = true ∧ Binds K fd ["_law_bag_here", "_law_ks", "_law_more"] [] ∧ FnOk P w K mg base CX0 3 f fd ["_law_bag_here", "_law_ks", "_law_more"] (spOdd K C)
  T : RowT K C
  O : NotRow K C
  gC : mg "Row" = some (.ref C)
  row : ∃ fR fdR, Mk K C fR ∧ FnOk P w K mg base CX0 5 fR fdR ["self", "lot", "coming", "going"] (spRow K C) ∧ KBn K fdR ["self", "lot", "coming", "going"] 2 ["coming", "going"] gR gR
  back : ∃ f fd, Meth K C "backward" f ∧ Binds K fd ["self"] [] ∧ FnOk P w K mg base CX0 7 f fd ["self"] (spBack K C)
  text : ∃ f fd, Meth K C "text" f ∧ Binds K fd ["self"] [] ∧ FnOk P w K mg base CX0 2 f fd ["self"] (spText K C)
  cint : PySem.W.kitOne K (.ref C) (.type "int") = some false
  cbool : PySem.W.kitOne K (.ref C) (.type "bool") = some false
  int : mg "int" = none
  lst : mg "list" = none
  rng : mg "range" = none
def spLaw (K : PySem.W.Frag) : Sp := fun vs H Q _ => ∃ (a : Addr) (ns : List Int), vs = [.ref a] ∧ SqL K H a (ns.map V.int) ∧ ns.length ≤ 63 ∧ ∀ H', Q (.bl true) H'
def sg (a b : Addr) (x2 x3 x4 x5 x6 x7 x8 x9 x10 x11 : Option V) : L2.St := [some (.ref a), some (.ref b), x2, x3, x4, x5, x6, x7, x8, x9, x10, x11, none]
section
variable {P : Program} {w : World} {K : PySem.W.Frag} {mg : Str → Option Value} {base : Heap}
theorem ok_law {f C : Addr} {fd : FuncData} (F : Fun K "law" "law" s_law f fd) (M0 : Defs P w K mg base C) : AtCaller P w K mg base f fd "_law_script" (spLaw K) := by
  obtain ⟨fBg, dBg, gBg, kBg, bBg, Dbg⟩ := M0.bg
  obtain ⟨fDr, dDr, gDr, kDr, bDr, Ddr⟩ := M0.dr
  obtain ⟨fOf, dOf, gOf, kOf, bOf, Dof⟩ := M0.of
  obtain ⟨fKy, dKy, gKy, kKy, bKy, Dky⟩ := M0.ky
  obtain ⟨fSo, dSo, gSo, kSo, bSo, Dso⟩ := M0.so
  obtain ⟨fFt, dFt, gFt, kFt, bFt, Dft⟩ := M0.ft
  obtain ⟨fFd, dFd, gFd, kFd, bFd, Dfd⟩ := M0.fd
  obtain ⟨fSm, dSm, gSm, kSm, bSm, Dsm⟩ := M0.sm
  obtain ⟨fOd, dOd, gOd, kOd, bOd, Dod⟩ := M0.od
  obtain ⟨fR, dR, mk, DR, kbR⟩ := M0.row
  obtain ⟨fBa, dBa, mBa, bBa, Dba⟩ := M0.back
  obtain ⟨fTx, dTx, mTx, bTx, Dtx⟩ := M0.text
  refine caller_ok (k := 12) F sc_law ⟨rfl, by decide, by decide⟩ (fun cdv s H v Q hr h => ?_)
  have hr1 : Room 1 _ := hr.mono (by decide)
  have hr2 : Room 2 _ := hr.mono (by decide)
  have hr3 : Room 3 _ := hr.mono (by decide)
  have hr4 : Room 4 _ := hr.mono (by decide)
  have hr6 : Room 6 _ := hr.mono (by decide)
  have hr7 : Room 7 _ := hr.mono (by decide)
  have hr10 : Room 10 _ := hr.mono (by decide)
  obtain ⟨a, ns, e, hS, hlen, k⟩ := h
  obtain rfl : v = .ref a := List.head_eq_of_cons_eq e
  refine ⟨_, pss_cons (ps_set (i := 1) sc_law.nd rfl (Or.inl rfl) (pe_call Dbg hr1 (by rfl) gBg kBg bBg .nil pass0 (pa_cons (pv 0) pa_nil)))
      (pss_cons (ps_for PassesOwn.never rfl (pi_range1 (by rfl) M0.rng (pa_cons pe_int pa_nil)) (pg_name (i := 2) sc_law.nd rfl (Or.inl rfl))
        (pss_cut (ps_set (i := 3) sc_law.nd rfl (Or.inr rfl) (pe_call Dky hr3 (by rfl) gKy kKy bKy .nil pass0 (pa_cons (pv 1) (pa_cons (pe_call Dof hr2 (by rfl) gOf kOf bOf .nil pass0 (pa_cons (pv 1) (pa_cons (pe_lst (pa_cons pe_int (pa_cons pe_int (pa_cons pe_int (pa_cons pe_int (pa_cons pe_int (pa_cons pe_int (pa_cons pe_int (pa_cons pe_int (pa_cons pe_int (pa_cons pe_int (pa_cons pe_int (pa_cons pe_int pa_nil))))))))))))) pa_nil))) pa_nil))))
        (pss_cut (ps_set (i := 4) sc_law.nd rfl (Or.inl rfl) (pe_call Dso hr4 (by rfl) gSo kSo bSo .nil pass0 (pa_cons (pv 1) (pa_cons (pv 3) pa_nil))))
        (pss_cut (ps_set (i := 5) sc_law.nd rfl (Or.inl rfl) (pe_call Dft hr1 (by rfl) gFt kFt bFt .nil pass0 (pa_cons (pv 3) (pa_cons (pv 4) pa_nil))))
        (pss_cut (ps_set (i := 6) sc_law.nd rfl (Or.inl rfl) (pe_ifExp (pt_cmpR op_eq (pe_ix ix_tup (pv 5) pe_int (fun _ _ => rfl)) pe_str (nomark _)) (pe_tup (pa_cons pe_str (pa_cons pe_non pa_nil))) (pv 5)))
        (pss_cut (ps_set (i := 7) sc_law.nd rfl (Or.inr rfl) (pe_makeK mk DR hr6 (by rfl) M0.gC kbR pass0 (pa_cons (pe_ix ix_tup (pv 4) pe_int (fun _ _ => rfl)) pa_nil) (pk_cons (pe_ix ix_tup (pv 4) pe_int (fun _ _ => rfl)) (pk_cons (pe_ix ix_tup (pv 4) pe_int (fun _ _ => rfl)) pk_nil))))
        (pss_cut (ps_setLc (i := 8) (own := [("_law_way", 12)]) (g := gName 12) (tt := tYes) (te := tCall (spFitted K C) [] E0 (tCons (tVar 12) (tCons (tVar 3) (tCons (tVar 7) tNil)))) rfl sc_law.nd rfl rfl (sw_true rfl rfl rfl (by decide +kernel)) (pi_range1 (by rfl) M0.rng (pa_cons pe_int pa_nil)) (blkOk_by (N := N_law) (sc := defScope s_law) (by decide +kernel)) (fun _ _ _ _ _ => pg_name (i := 12) sc_law.nd rfl (Or.inl rfl)) (fun _ _ _ _ _ => pts_nil) (fun _ _ _ _ _ => (pe_call Dfd hr10 (by rfl) gFd kFd bFd .nil pass0 (pa_cons (pv 12) (pa_cons (pv 3) (pa_cons (pv 7) pa_nil))))))
        (pss_cut (ps_if (pt_not (pt_val (pe_call Dsm hr4 (by rfl) gSm kSm bSm .nil pass0 (pa_cons (pv 8) (pa_cons (pe_lst (pa_cons (pv 6) (pa_cons (pv 6) (pa_cons (pv 5) (pa_cons (pv 5) pa_nil))))) pa_nil))))) (pss_one (ps_ret pe_bl)) pss_nil)
        (pss_cut (ps_if (pt_cmpR op_eq (pe_ix ix_tup (pv 5) pe_int (fun _ _ => rfl)) pe_str (nomark _)) (pss_cons (ps_set (i := 9) sc_law.nd rfl (Or.inl rfl) (pe_call Dfd hr10 (by rfl) gFd kFd bFd .nil pass0 (pa_cons pe_int (pa_cons (pe_ix ix_tup (pv 5) pe_int (fun _ _ => rfl)) (pa_cons (pe_meth0 (pv 7) M0.T.c.cl mBa Dba hr7 bBa .nil pass0) pa_nil))))) (pss_one (ps_if (pt_not (pt_val (pe_call Dsm hr4 (by rfl) gSm kSm bSm .nil pass0 (pa_cons (pv 9) (pa_cons (pe_tup (pa_cons pe_str (pa_cons (pv 3) pa_nil))) pa_nil))))) (pss_one (ps_ret pe_bl)) pss_nil))) pss_nil)
        (pss_cut (ps_set (i := 10) sc_law.nd rfl (Or.inl rfl) (pe_call Dft hr1 (by rfl) gFt kFt bFt .nil pass0 (pa_cons (pv 3) (pa_cons (pe_tup (pa_cons (pe_ix ix_tup (pv 4) pe_int (fun _ _ => rfl)) (pa_cons pe_non (pa_cons pe_non pa_nil)))) pa_nil))))
        (pss_cut (ps_set (i := 8) sc_law.nd rfl (Or.inl rfl) (pe_lst (pa_cons (pe_call Dfd hr10 (by rfl) gFd kFd bFd .nil pass0 (pa_cons (pe_op op_mod (pe_callTy call_int1 (by rfl) M0.int (by decide +kernel) (pa_cons (pv 2) pa_nil)) pe_int) (pa_cons (pv 3) (pa_cons (pe_ix ix_tup (pv 4) pe_int (fun _ _ => rfl)) pa_nil)))) (pa_cons (pe_call Dfd hr10 (by rfl) gFd kFd bFd .nil pass0 (pa_cons (pe_op op_add pe_int (pe_op op_mod (pe_callTy call_int1 (by rfl) M0.int (by decide +kernel) (pa_cons (pv 2) pa_nil)) pe_int)) (pa_cons (pv 3) (pa_cons (pe_ix ix_tup (pv 4) pe_int (fun _ _ => rfl)) pa_nil)))) pa_nil))))
        (pss_cut (ps_if (pt_not (pt_val (pe_call Dsm hr4 (by rfl) gSm kSm bSm .nil pass0 (pa_cons (pv 8) (pa_cons (pe_lst (pa_cons (pe_ifExp (pt_cmpR op_eq (pe_ix ix_tup (pv 10) pe_int (fun _ _ => rfl)) pe_str (nomark _)) (pe_tup (pa_cons pe_str (pa_cons pe_non pa_nil))) (pv 10)) (pa_cons (pv 10) pa_nil))) pa_nil))))) (pss_one (ps_ret pe_bl)) pss_nil)
        (pss_cut (ps_set (i := 11) sc_law.nd rfl (Or.inr rfl) (pe_call Dof hr2 (by rfl) gOf kOf bOf .nil pass0 (pa_cons (pv 1) (pa_cons (pe_lst (pa_cons (pe_call Dod hr3 (by rfl) gOd kOd bOd .nil pass0 (pa_cons (pv 1) (pa_cons (pe_ix ix_tup (pv 4) pe_int (fun _ _ => rfl)) (pa_cons (pe_lst pa_nil) pa_nil)))) (pa_cons (pe_meth0 (pv 7) M0.T.c.cl mTx Dtx hr2 bTx .nil pass0) (pa_cons (pe_lst (pa_cons (pv 7) pa_nil)) (pa_cons (pe_tup (pa_cons (pv 7) pa_nil)) (pa_cons (pv 4) (pa_cons (pe_tup pa_nil) (pa_cons (pe_callTy call_list_of (by rfl) M0.lst (by decide +kernel) (pa_cons (pv 3) pa_nil)) pa_nil)))))))) pa_nil))))
        (pss_cut (ps_if (pt_not (pt_val (pe_call Dsm hr4 (by rfl) gSm kSm bSm .nil pass0 (pa_cons (pe_lc (own := [("_law_way", 12)]) (g := gName 12) (tt := tYes) (te := tCall (spFitted K C) [] E0 (tCons (tVar 12) (tCons (tVar 3) (tCons (tVar 11) tNil)))) rfl sc_law.nd (pi_range1 (by rfl) M0.rng (pa_cons pe_int pa_nil)) (blkOk_by (N := N_law) (sc := defScope s_law) (by decide +kernel)) (fun _ _ _ _ _ => pg_name (i := 12) sc_law.nd rfl (Or.inl rfl)) (fun _ _ _ _ _ => pts_nil) (fun _ _ _ _ _ => (pe_call Dfd hr10 (by rfl) gFd kFd bFd .nil pass0 (pa_cons (pv 12) (pa_cons (pv 3) (pa_cons (pv 11) pa_nil)))))) (pa_cons (pe_op op_rep (pe_lst (pa_cons (pe_tup (pa_cons pe_str (pa_cons pe_int pa_nil))) pa_nil)) pe_int) pa_nil))))) (pss_one (ps_ret pe_bl)) pss_nil)
        (pss_one (ps_if (pt_not (pt_val (pe_call Dsm hr4 (by rfl) gSm kSm bSm .nil pass0 (pa_cons (pe_lst (pa_cons (pe_fld (pv 7) rfl) (pa_cons (pe_fld (pv 7) rfl) (pa_cons (pe_fld (pv 7) rfl) pa_nil)))) (pa_cons (pe_lst (pa_cons (pe_ix ix_tup (pv 4) pe_int (fun _ _ => rfl)) (pa_cons (pe_ix ix_tup (pv 4) pe_int (fun _ _ => rfl)) (pa_cons (pe_ix ix_tup (pv 4) pe_int (fun _ _ => rfl)) pa_nil)))) pa_nil))))) (pss_one (ps_ret pe_bl)) pss_nil))))))))))))))))
      (pss_one (ps_ret pe_bl))), ?_⟩
  refine ⟨_, rfl, a, ns, rfl, hS, by omega, fun b l H0 hb0 hl0 s0 B0 => ?_⟩
  refine ⟨12, rfl, by decide, by decide, for_range (n := 12) (fun i σ H => (∃ x2 x3 x4 x5 x6 x7 x8 x9 x10 x11, σ = sg a b x2 x3 x4 x5 x6 x7 x8 x9 x10 x11) ∧ BagL H b l) ⟨⟨_, _, _, _, _, _, _, _, _, _, rfl⟩, B0⟩ ?_ (fun σ H _ => k H)⟩
  rintro i σ H hi ⟨⟨y2, y3, y4, y5, y6, y7, y8, y9, y10, y11, rfl⟩, B1⟩
  refine ⟨fun σ H => ∃ (p : Addr) (ks : List Int), σ = sg a b (some (.int (0 + i))) (some (.ref p)) y4 y5 y6 y7 y8 y9 y10 y11 ∧ KSet ks ∧ ks.length ≤ 12 ∧ H p = some (.tup (ks.map V.int)) ∧ BagL H b l, ?_, ?_⟩
  · refine ⟨_, rfl, _, rfl, (by show 12 ≤ sizeLine; decide), fun q hq => ?_⟩
    refine of_seqL (E := E0) (B1.new hq) (B1.ne hq) (.inl (SqL.of upd_same)) (by show 0 < 12; decide) (by show 12 < 2 ^ 62; decide) fun v H1 hv B2 k1 _ => ?_
    obtain ⟨n, rfl, hn⟩ : ∃ n : Nat, v = .int (n : Int) ∧ n ≤ 12 := by
      simp only [List.mem_cons, List.not_mem_nil, or_false] at hv
      rcases hv with rfl | rfl | rfl | rfl | rfl | rfl | rfl | rfl | rfl | rfl | rfl | rfl
      · exact ⟨0, rfl, by decide⟩
      · exact ⟨1, rfl, by decide⟩
      · exact ⟨2, rfl, by decide⟩
      · exact ⟨3, rfl, by decide⟩
      · exact ⟨4, rfl, by decide⟩
      · exact ⟨6, rfl, by decide⟩
      · exact ⟨5, rfl, by decide⟩
      · exact ⟨3, rfl, by decide⟩
      · exact ⟨2, rfl, by decide⟩
      · exact ⟨11, rfl, by decide⟩
      · exact ⟨12, rfl, by decide⟩
      · exact ⟨1, rfl, by decide⟩
    exact ⟨b, l, n, rfl, B2, by omega, fun p ks H2 hk hl hp hp2 B3 k2 => ⟨p, ks, rfl, hk, by omega, hp2, B3⟩⟩
  rintro σ H1 ⟨p, ks, rfl, hk, hz, hp1, B1⟩
  refine ⟨fun σ H => ∃ (tv q : Addr) (ls : List Int) (up dn : Option Int), σ = sg a b (some (.int (0 + i))) (some (.ref p)) (some (.ref tv)) y5 y6 y7 y8 y9 y10 y11 ∧ Lot ls up dn ∧ Fx b l p tv q ks ls up dn H, ?_, ?_⟩
  · refine ⟨_, rfl, _, rfl, b, l, p, ks, rfl, B1, bag_ne B1 hp1, SqT.of hp1, hk, hz, fun t q ls up dn H2 ht hq L B2 k2 => ?_⟩
    exact ⟨t, q, ls, up, dn, rfl, L, B2, k2 _ _ hp1 (bag_ne B1 hp1), ht, hq⟩
  rintro σ H2 ⟨tv, q, ls, up, dn, rfl, L, X2⟩
  have few := L.few
  refine ⟨fun σ H => ∃ td, σ = sg a b (some (.int (0 + i))) (some (.ref p)) (some (.ref tv)) (some (.ref td)) y6 y7 y8 y9 y10 y11 ∧ ResT H td (fitR ks ls up dn) (stay ks up dn) ∧ Fx b l p tv q ks ls up dn H, ?_, ?_⟩
  · exact ⟨_, rfl, _, rfl, p, tv, q, ks, ls, up, dn, rfl, SqT.of X2.p, hk, hz, X2.t, SqT.of X2.q, L, fun t H3 hn s3 rs => ⟨t, rfl, rs, X2.sm s3⟩⟩
  rintro σ H3 ⟨td, rfl, R3, X3⟩
  have headT : ∀ {H : Hp} {t : Addr} {r : Res} {st : List Int}, ResT H t r st → ∃ us, SqT K H t us ∧ atI us 0 = some (V.str (nameR r)) := fun x => by
    obtain ⟨us, h1, h2⟩ := x.head
    exact ⟨us, SqT.of h1, at_of (j := 0) rfl h2⟩
  refine ⟨fun σ H => ∃ tn, σ = sg a b (some (.int (0 + i))) (some (.ref p)) (some (.ref tv)) (some (.ref td)) (some (.ref tn)) y7 y8 y9 y10 y11 ∧ NoneT H tn (fitR ks ls up dn) ∧ ResT H td (fitR ks ls up dn) (stay ks up dn) ∧ Fx b l p tv q ks ls up dn H, ?_, ?_⟩
  · obtain ⟨us, h1, h2⟩ := headT R3
    refine ⟨_, rfl, td, us, 0, _, rfl, rfl, h1, h2, rfl, _, rfl, ite2 (fun e => ⟨(by show 2 ≤ sizeLine; decide), fun t ht => ⟨t, rfl, ?_, R3.keep X3.B (Keep.new (Keep.refl b H3) ht), X3.sm (Same.new (Same.refl H3) ht)⟩⟩) (fun e => ⟨_, rfl, td, rfl, ?_, R3, X3⟩)⟩
    · rw [(made_iff _).mp e]; exact upd_same
    · exact R3.none fun h => e ((made_iff _).mpr h)
  rintro σ H4 ⟨tn, rfl, N4, R4, X4⟩
  refine ⟨fun σ H => ∃ r0, σ = sg a b (some (.int (0 + i))) (some (.ref p)) (some (.ref tv)) (some (.ref td)) (some (.ref tn)) (some (.ref r0)) y8 y9 y10 y11 ∧ RowAt C H r0 q up dn ∧ NoneT H tn (fitR ks ls up dn) ∧ ResT H td (fitR ks ls up dn) (stay ks up dn) ∧ Fx b l p tv q ks ls up dn H, ?_, ?_⟩
  · refine ⟨_, rfl, tv, _, 0, _, rfl, rfl, SqT.of X4.t, at_of (j := 0) rfl rfl, _, rfl, tv, _, 1, _, rfl, rfl, SqT.of X4.t, at_of (j := 1) rfl rfl, _, rfl, tv, _, 2, _, rfl, rfl, SqT.of X4.t, at_of (j := 2) rfl rfl, rfl, rfl, fun x dx hx hdx ne => ?_⟩
    refine row_new2 hx hdx ne (SqT.of X4.q) L ?_
    exact fun H5 s5 ra => ⟨rfl, x, rfl, ra, N4.keep X4.B (Keep.ofSame s5), R4.keep X4.B (Keep.ofSame s5), X4.sm s5⟩
  rintro σ H5 ⟨r0, rfl, W5, N5, R5, X5⟩
  refine ⟨fun σ H => ∃ (D : Addr) (ts : List Addr), σ = sg a b (some (.int (0 + i))) (some (.ref p)) (some (.ref tv)) (some (.ref td)) (some (.ref tn)) (some (.ref r0)) (some (.ref D)) y9 y10 y11 ∧ H D = some (.lst (ts.map V.ref)) ∧ ts.length = 4 ∧ (∀ (j : Nat) (T : Addr), ts[j]? = some T → TellR H T j (fitR ks ls up dn) (stay ks up dn)) ∧
      RowAt C H r0 q up dn ∧ NoneT H tn (fitR ks ls up dn) ∧ ResT H td (fitR ks ls up dn) (stay ks up dn) ∧ Fx b l p tv q ks ls up dn H, ?_, ?_⟩
  · refine ⟨4, rfl, by decide, by decide, fun D hD => lc_range (lo := 0) (n := 4) (fun i H' => Same H5 H' ∧ ∃ ts : List Addr, ts.length = i ∧ H' D = some (.lst (ts.map V.ref)) ∧ ∀ (j : Nat) (T : Addr), ts[j]? = some T → TellR H' T j (fitR ks ls up dn) (stay ks up dn))
      ⟨Same.new (Same.refl H5) hD, [], rfl, upd_same, fun j T h => by simp at h⟩ (fun j H' hj p => ?_) (fun H' p => ?_)⟩
    · obtain ⟨s1, ts, tl, hd, tt⟩ := p
      refine ⟨rfl, _, rfl, _, rfl, _, rfl, 0 + j, _, ks, .ref r0, some (ls, up, dn), rfl, by omega, SqT.of (s1 _ _ X5.p), by omega, .inl ⟨r0, q, rfl, W5.sm s1, SqT.of (s1 _ _ X5.q), L⟩, fun T H6 s6 te => ?_⟩
      have te' : TellR H6 T j (fitR ks ls up dn) (stay ks up dn) := by
        have := TellR.of te
        rw [Int.zero_add] at this
        exact this
      have hd6 := s6 _ _ hd
      refine ⟨_, hd6, by rw [List.length_map, tl, sizeLine_eq]; omega, (fun c o e => ?_), ts ++ [T], by rw [List.length_append, tl]; rfl, by rw [upd_same, List.map_append]; rfl, fun j' T' h => ?_⟩
      · rw [upd_ne (ne_of_none e hD)]
        exact s6 _ _ (s1 _ _ e)
      · by_cases hj' : j' < ts.length
        · rw [List.getElem?_append_left hj'] at h
          exact ((tt j' T' h).sm s6).put hd6
        · rw [List.getElem?_append_right (by omega)] at h
          have hj0 : j' - ts.length = 0 := by
            cases e : j' - ts.length with
            | zero => rfl
            | succ n => rw [e] at h; simp at h
          rw [hj0] at h
          cases Option.some.inj h
          have : j' = j := by omega
          rw [this]
          exact te'.put hd6
    · obtain ⟨s1, ts, tl, hd, tt⟩ := p
      exact ⟨D, ts, rfl, hd, tl, tt, W5.sm s1, N5.keep X5.B (Keep.ofSame s1), R5.keep X5.B (Keep.ofSame s1), X5.sm s1⟩
  rintro σ H6 ⟨D, ts, rfl, hD, htl, tt, W6, N6, R6, X6⟩
  have stl : ∀ {up dn : Option Int}, (stay ks up dn).length < sizeLine := fun {up dn} => by
    have h1 := List.length_filter_le (fun z => !decide (V.int z = mV dn)) ks
    have h2 : (upl up).length ≤ 1 := by cases up <;> simp [upl]
    unfold stay
    rw [List.length_append, sizeLine_eq]
    omega
  refine ⟨fun σ H => (∃ x8, σ = sg a b (some (.int (0 + i))) (some (.ref p)) (some (.ref tv)) (some (.ref td)) (some (.ref tn)) (some (.ref r0)) x8 y9 y10 y11) ∧ RowAt C H r0 q up dn ∧ ResT H td (fitR ks ls up dn) (stay ks up dn) ∧ Fx b l p tv q ks ls up dn H, ?_, ?_⟩
  · refine ⟨_, rfl, _, rfl, _, rfl, _, rfl, _, rfl, (by show 4 ≤ sizeLine; decide), fun q1 hq1 => ?_⟩
    have s7 := Same.new (Same.refl H6) (o := .lst [.ref tn, .ref tn, .ref td, .ref td]) hq1
    refine ⟨_, _, rfl, ?_, fun H7 s8 => ⟨true, rfl, iteF ⟨⟨_, rfl⟩, W6.sm (s7.trans s8), R6.keep X6.B (Keep.ofSame (s7.trans s8)), X6.sm (s7.trans s8)⟩⟩⟩
    match ts, htl with
    | [t0, t1, t2, t3], _ =>
      refine .inr (.inl ⟨D, q1, _, _, rfl, rfl, SqL.of (s7 _ _ hD), SqL.of upd_same, (by show 4 < sizeLine; decide), ?_⟩)
      have N7 := N6.keep X6.B (Keep.ofSame s7)
      have R7 := R6.keep X6.B (Keep.ofSame s7)
      exact .cons (al_none (by decide) ((tt 0 t0 rfl).sm s7) N7) (.cons (al_none (by decide) ((tt 1 t1 rfl).sm s7) N7) (.cons (al_tell (by decide) ((tt 2 t2 rfl).sm s7) R7 stl) (.cons (al_tell (by decide) ((tt 3 t3 rfl).sm s7) R7 stl) .nil)))
  rintro σ H7 ⟨⟨x8, rfl⟩, W7, R7, X7⟩
  refine ⟨fun σ H => (∃ x8 x9, σ = sg a b (some (.int (0 + i))) (some (.ref p)) (some (.ref tv)) (some (.ref td)) (some (.ref tn)) (some (.ref r0)) x8 x9 y10 y11) ∧ RowAt C H r0 q up dn ∧ Fx b l p tv q ks ls up dn H, ?_, ?_⟩
  · obtain ⟨us, h1, h2⟩ := headT R7
    refine ⟨_, rfl, td, us, 0, _, rfl, rfl, h1, h2, rfl, _, rfl, ite2 (fun e => ?_) (fun e => ⟨⟨_, _, rfl⟩, W7, X7⟩)⟩
    have eok := (made_iff _).mp e
    rw [eok] at R7
    obtain ⟨y, bs, g1, g2, g3⟩ := R7
    obtain ⟨dx, ha⟩ := id W7
    obtain ⟨KB, bk1, bk2⟩ := back_ok hk hz L eok g3
    have bl : bs.length ≤ 60 := by
      rw [g3.1.length_eq]
      have h1 := List.length_filter_le (fun z => !decide (V.int z = mV dn)) ks
      have h2 : (upl up).length ≤ 1 := by cases up <;> simp [upl]
      unfold stay
      rw [List.length_append]
      omega
    refine ⟨_, rfl, td, _, 1, _, rfl, rfl, SqT.of g1, at_of (j := 1) rfl rfl, _, rfl, r0, dx, _, rfl, ha, rfl, r0, q, ls, up, dn, rfl, W7, SqT.of X7.q, L, fun r' H8 hr' s8 ra' => ?_⟩
    refine ⟨2, y, bs, .ref r', some (ls, dn, up), rfl, by decide, SqT.of (s8 _ _ g2), bl, .inl ⟨r', q, rfl, ra', SqT.of (s8 _ _ X7.q), back_lot L⟩, fun T H9 s9 te => ?_⟩
    have te' := TellR.of te
    rw [bk1] at te'
    obtain ⟨y2, bs2, c1, c2, c3⟩ : ResT H9 T .ok (stay bs dn up) := te'
    have e2 : bs2 = ks := c3.one bk2
    subst e2
    refine ⟨_, rfl, _, rfl, (by show 2 ≤ sizeLine; decide), fun q1 hq1 => ?_⟩
    have s89 := s8.trans s9
    have s10 := Same.new (Same.refl H9) (o := .tup [.str "made", .ref p]) hq1
    refine ⟨_, _, rfl, ?_, fun H10 s11 => ⟨true, rfl, iteF ⟨⟨_, _, rfl⟩, W7.sm ((s89.trans s10).trans s11), X7.sm ((s89.trans s10).trans s11)⟩⟩⟩
    exact .inr (.inr ⟨T, q1, _, _, rfl, rfl, SqT.of (s10 _ _ c1), SqT.of upd_same, (by show 2 < sizeLine; decide), .cons (al_leaf rfl 2) (.cons (al_flat (s10 _ _ c2) (s10 _ _ (s89 _ _ X7.p)) (flat_ints _) (by rw [List.length_map, sizeLine_eq]; omega) 1) .nil)⟩)
  rintro σ H8 ⟨⟨x8', x9, rfl⟩, W8, X8⟩
  have L0 : Lot ls none none := ⟨L.ks, L.ne, L.few, (fun k e => by cases e), (fun k e => by cases e)⟩
  refine ⟨fun σ H => ∃ tb, σ = sg a b (some (.int (0 + i))) (some (.ref p)) (some (.ref tv)) (some (.ref td)) (some (.ref tn)) (some (.ref r0)) x8' x9 (some (.ref tb)) y11 ∧ ResT H tb (fitR ks ls none none) (stay ks none none) ∧ RowAt C H r0 q up dn ∧ Fx b l p tv q ks ls up dn H, ?_, ?_⟩
  · refine ⟨_, rfl, _, rfl, tv, _, 0, _, rfl, rfl, SqT.of X8.t, at_of (j := 0) rfl rfl, (by show 3 ≤ sizeLine; decide), fun t2 ht2 => ?_⟩
    have s9 := Same.new (Same.refl H8) (o := .tup [.ref q, .non, .non]) ht2
    exact ⟨p, t2, q, ks, ls, none, none, rfl, SqT.of (s9 _ _ X8.p), hk, hz, upd_same, SqT.of (s9 _ _ X8.q), L0, fun t3 H9 hn s10 rs => ⟨t3, rfl, rs, W8.sm (s9.trans s10), X8.sm (s9.trans s10)⟩⟩
  rintro σ H9 ⟨tb, rfl, R9, W9, X9⟩
  have oddq : ∀ {H : Hp}, H q = some (.tup (ls.map V.int)) → OddV K C H (.ref q) := fun h => ⟨_, ty_tup (SqT.of h), M0.O "tuple" (by simp [tyN])⟩
  refine ⟨fun σ H => ∃ (D T1 T2 : Addr) (w1 w2 : Int), σ = sg a b (some (.int (0 + i))) (some (.ref p)) (some (.ref tv)) (some (.ref td)) (some (.ref tn)) (some (.ref r0)) (some (.ref D)) x9 (some (.ref tb)) y11 ∧ H D = some (.lst [.ref T1, .ref T2]) ∧ w1 < 2 ∧ 2 ≤ w2 ∧ TellR H T1 w1 (fitR ks ls none none) (stay ks none none) ∧ TellR H T2 w2 (fitR ks ls none none) (stay ks none none) ∧
      ResT H tb (fitR ks ls none none) (stay ks none none) ∧ RowAt C H r0 q up dn ∧ Fx b l p tv q ks ls up dn H, ?_, ?_⟩
  · have m0 := Int.emod_nonneg (0 + (i : Int)) (show (2 : Int) ≠ 0 by decide)
    have m1 := Int.emod_lt_of_pos (0 + (i : Int)) (show (0 : Int) < 2 by decide)
    refine ⟨_, rfl, .inl ⟨_, rfl, _, _, rfl, rfl, (by show (0 : Int) < 2; decide), _, rfl, _, rfl, tv, _, 0, _, rfl, rfl, SqT.of X9.t, at_of (j := 0) rfl rfl, ?_⟩⟩
    refine ⟨_, p, ks, .ref q, some (ls, none, none), rfl, m0, SqT.of X9.p, by omega, .inr ⟨q, rfl, rfl, rfl, SqT.of X9.q, L0, oddq X9.q⟩, fun T1 H10 s10 te1 => ?_⟩
    have X10 := X9.sm s10
    refine ⟨_, rfl, .inl ⟨_, rfl, _, _, rfl, rfl, (by show (0 : Int) < 2; decide), _, _, rfl, rfl, _, rfl, _, rfl, tv, _, 0, _, rfl, rfl, SqT.of X10.t, at_of (j := 0) rfl rfl, ?_⟩⟩
    refine ⟨_, p, ks, .ref q, some (ls, none, none), rfl, by omega, SqT.of X10.p, by omega, .inr ⟨q, rfl, rfl, rfl, SqT.of X10.q, L0, oddq X10.q⟩, fun T2 H11 s11 te2 => ?_⟩
    refine ⟨(by show 2 ≤ sizeLine; decide), fun D hD => ?_⟩
    have s12 := Same.new (Same.refl H11) (o := .lst [.ref T1, .ref T2]) hD
    have sA := (s10.trans s11).trans s12
    exact ⟨D, T1, T2, _, _, rfl, upd_same, m1, by omega, (TellR.of te1).sm (s11.trans s12), (TellR.of te2).sm s12, R9.keep X9.B (Keep.ofSame sA), W9.sm sA, X9.sm sA⟩
  rintro σ H10 ⟨D2, T1, T2, w1, w2, rfl, hD2, hw1, hw2, t1, t2, R10, W10, X10⟩
  refine ⟨fun σ H => (∃ x8 x10, σ = sg a b (some (.int (0 + i))) (some (.ref p)) (some (.ref tv)) (some (.ref td)) (some (.ref tn)) (some (.ref r0)) x8 x9 x10 y11) ∧ RowAt C H r0 q up dn ∧ Fx b l p tv q ks ls up dn H, ?_, ?_⟩
  · obtain ⟨us, h1, h2⟩ := headT R10
    have al : ∀ {H' : Hp} {tn' q1 : Addr}, Same H10 H' → NoneT H' tn' (fitR ks ls none none) → H' q1 = some (.lst [.ref tn', .ref tb]) → Alike K H' 3 (.ref D2) (.ref q1) := fun s hn hq => by
      refine .inr (.inl ⟨D2, _, _, _, rfl, rfl, SqL.of (s _ _ hD2), SqL.of hq, (by show 2 < sizeLine; decide), ?_⟩)
      exact .cons (al_none hw1 (t1.sm s) hn) (.cons (al_tell hw2 (t2.sm s) (R10.keep X10.B (Keep.ofSame s)) stl) .nil)
    refine ⟨_, rfl, _, rfl, tb, us, 0, _, rfl, rfl, h1, h2, rfl, _, rfl, ite2 (fun e => ⟨(by show 2 ≤ sizeLine; decide), fun t ht => ?_⟩) (fun e => ?_)⟩
    · have s11 := Same.new (Same.refl H10) (o := .tup [.str "made", .non]) ht
      refine ⟨_, rfl, (by show 2 ≤ sizeLine; decide), fun q1 hq1 => ?_⟩
      have s12 := Same.new s11 (o := .lst [.ref t, .ref tb]) hq1
      refine ⟨_, _, rfl, al s12 ?_ upd_same, fun H12 s13 => ⟨true, rfl, iteF ⟨⟨_, _, rfl⟩, W10.sm (s12.trans s13), X10.sm (s12.trans s13)⟩⟩⟩
      rw [(made_iff _).mp e]
      show upd _ q1 _ t = _
      rw [upd_ne (ne_of_none upd_same hq1), upd_same]
    · refine ⟨_, rfl, _, rfl, (by show 2 ≤ sizeLine; decide), fun q1 hq1 => ?_⟩
      have s12 := Same.new (Same.refl H10) (o := .lst [.ref tb, .ref tb]) hq1
      exact ⟨_, _, rfl, al s12 ((R10.none fun h => e ((made_iff _).mpr h)).keep X10.B (Keep.ofSame s12)) upd_same, fun H12 s13 => ⟨true, rfl, iteF ⟨⟨_, _, rfl⟩, W10.sm (s12.trans s13), X10.sm (s12.trans s13)⟩⟩⟩
  rintro σ H11 ⟨⟨z8, z10, rfl⟩, W11, X11⟩
  refine ⟨fun σ H => ∃ vo, σ = sg a b (some (.int (0 + i))) (some (.ref p)) (some (.ref tv)) (some (.ref td)) (some (.ref tn)) (some (.ref r0)) z8 x9 z10 (some vo) ∧ Odd b K C H vo ∧ RowAt C H r0 q up dn ∧ Fx b l p tv q ks ls up dn H, ?_, ?_⟩
  · have sm : ∀ {m : Addr}, H11 m = none → Same H11 (upd H11 m (.lst [])) := fun hm => Same.new (Same.refl H11) hm
    refine ⟨_, rfl, _, rfl, _, rfl, tv, _, 0, _, rfl, rfl, SqT.of X11.t, at_of (j := 0) rfl rfl, (by decide), fun m hm => ?_⟩
    have Y1 := X11.sm (sm hm)
    refine ⟨b, l, q, m, ls, rfl, Y1.B, bag_ne Y1.B Y1.q, SqT.of Y1.q, L.ne, L.few, upd_same, X11.B.ne hm, fun v1 H14 o1 B14 k14 => ?_⟩
    have Y2 := Y1.keep B14 k14
    have V2 := (W11.sm (sm hm)).keep Y1.B k14
    obtain ⟨dx, ha⟩ := id V2
    refine ⟨_, rfl, r0, dx, _, rfl, ha, rfl, r0, q, ls, up, dn, rfl, V2, SqT.of Y2.q, L, fun z H15 s15 => ?_⟩
    have Y3 := Y2.sm s15
    have V3 := V2.sm s15
    refine ⟨_, rfl, (by show 1 ≤ sizeLine; decide), fun a1 h1 => ?_⟩
    have n1 := Same.new (Same.refl H15) (o := .lst [.ref r0]) h1
    have Y4 := Y3.sm n1
    have V4 := V3.sm n1
    refine ⟨_, rfl, (by show 1 ≤ sizeLine; decide), fun a2 h2 => ?_⟩
    have n2 := Same.new (Same.refl _) (o := .tup [.ref r0]) h2
    have Y5 := Y4.sm n2
    have V5 := V4.sm n2
    refine ⟨_, rfl, (by decide), fun a3 h3 => ?_⟩
    have n3 := Same.new (Same.refl _) (o := .tup []) h3
    have Y6 := Y5.sm n3
    have V6 := V5.sm n3
    refine ⟨_, rfl, p, _, rfl, .inr (SqT.of Y6.p), fun a4 h4 => ?_⟩
    have n4 := Same.new (Same.refl _) (o := .lst (ks.map V.int)) h4
    have Y7 := Y6.sm n4
    have V7 := V6.sm n4
    refine ⟨(by show 7 ≤ sizeLine; decide), fun qq hqq => ?_⟩
    have n5 := Same.new (Same.refl _) (o := .lst [v1, .str z, .ref a1, .ref a2, .ref tv, .ref a3, .ref a4]) hqq
    refine of_seqL (E := E0) (Y7.sm n5).B (Y7.B.ne hqq) (.inl (SqL.of upd_same)) (by show 0 < 7; decide) (by show 7 < 2 ^ 62; decide) fun v H5 hv B5 k5 _ => ?_
    refine ⟨v, rfl, ?_, (V7.sm n5).keep (Y7.sm n5).B k5, (Y7.sm n5).keep B5 k5⟩
    have e5 := (Keep.ofSame (b := b) n5).trans k5
    have e4 := (Keep.ofSame (b := b) n4).trans e5
    have e3 := (Keep.ofSame (b := b) n3).trans e4
    have e2 := (Keep.ofSame (b := b) n2).trans e3
    simp only [List.mem_cons, List.not_mem_nil, or_false] at hv
    rcases hv with rfl | rfl | rfl | rfl | rfl | rfl | rfl
    · exact o1.keep ((Keep.ofSame (s15.trans n1)).trans e2)
    · exact odd_str M0.O z
    · exact (odd_lst M0.O upd_same (Y3.B.ne h1)).keep e2
    · refine (odd_tup (os := [none]) M0.O upd_same (Y4.B.ne h2) (by show 1 ≤ 2000; decide) (fun H' kk => .cons (.no (.ref C) false false (M0.T.ty (V5.keep Y5.B kk)) M0.cint M0.cbool rfl) .nil) rfl).keep e3
    · refine (odd_tup (os := [none, up, dn]) M0.O Y7.t (bag_ne Y7.B Y7.t) (by show 3 ≤ 2000; decide) (fun H' kk => .cons (.no (.type "tuple") false false (ty_tup (SqT.of (kk _ _ Y7.q (bag_ne Y7.B Y7.q)))) (kit_ty (by decide +kernel)) (kit_ty (by decide +kernel)) rfl) (.cons (nv_mv up) (.cons (nv_mv dn) .nil))) rfl).keep e5
    · refine (odd_tup (os := []) M0.O upd_same (Y5.B.ne h3) (by decide) (fun H' kk => .nil) rfl).keep e4
    · exact (odd_lst M0.O upd_same (Y6.B.ne h4)).keep e5
  rintro σ H12 ⟨vo, rfl, O12, W12, X12⟩
  refine ⟨fun σ H => (∃ x8 x11, σ = sg a b (some (.int (0 + i))) (some (.ref p)) (some (.ref tv)) (some (.ref td)) (some (.ref tn)) (some (.ref r0)) x8 x9 z10 x11) ∧ RowAt C H r0 q up dn ∧ Fx b l p tv q ks ls up dn H, ?_, ?_⟩
  · have inv : ∀ {H' : Hp} {T : Addr} {w : Int}, TellT H' T w ks none → H' T = some (.tup [.str "InvalidRow", .int 0]) := fun te => te
    refine ⟨4, rfl, by decide, by decide, fun D hD => lc_range (lo := 0) (n := 4) (fun i H' => Same H12 H' ∧ ∃ ts : List Addr, ts.length = i ∧ H' D = some (.lst (ts.map V.ref)) ∧ ∀ (j : Nat) (T : Addr), ts[j]? = some T → H' T = some (.tup [.str "InvalidRow", .int 0]))
      ⟨Same.new (Same.refl H12) hD, [], rfl, upd_same, fun j T h => by simp at h⟩ (fun j H' hj p => ?_) (fun H' p => ?_)⟩
    · obtain ⟨s1, ts, tl, hd, tt⟩ := p
      refine ⟨rfl, _, rfl, _, rfl, _, rfl, 0 + j, _, ks, vo, none, rfl, by omega, SqT.of (s1 _ _ X12.p), by omega, O12 H' (Keep.ofSame s1), fun T H6 s6 te => ?_⟩
      have te' := inv te
      have hd6 := s6 _ _ hd
      have put : ∀ {c : Addr} {ys : List V} {o : HO}, H6 c = some (.tup ys) → upd H6 D o c = some (.tup ys) := fun {c ys o} h => by
        rw [upd_ne (fun e => by rw [e, hd6] at h; cases h)]
        exact h
      refine ⟨_, hd6, by rw [List.length_map, tl, sizeLine_eq]; omega, (fun c o e => ?_), ts ++ [T], by rw [List.length_append, tl]; rfl, by rw [upd_same, List.map_append]; rfl, fun j' T' h => ?_⟩
      · rw [upd_ne (ne_of_none e hD)]
        exact s6 _ _ (s1 _ _ e)
      · by_cases hj' : j' < ts.length
        · rw [List.getElem?_append_left hj'] at h
          exact put (s6 _ _ (tt j' T' h))
        · rw [List.getElem?_append_right (by omega)] at h
          have hj0 : j' - ts.length = 0 := by
            cases e : j' - ts.length with
            | zero => rfl
            | succ n => rw [e] at h; simp at h
          rw [hj0] at h
          cases Option.some.inj h
          exact put te'
    · obtain ⟨s1, ts, tl, hd, tt⟩ := p
      refine ⟨(by show 2 ≤ sizeLine; decide), fun t ht => ⟨(by show 1 ≤ sizeLine; decide), fun l1 hl1 => ?_⟩⟩
      have n1 := Same.new (Same.refl H') (o := .tup [.str "InvalidRow", .int 0]) ht
      have n2 := Same.new n1 (o := .lst [.ref t]) hl1
      refine ⟨l1, 4, _, rfl, rfl, upd_same, by decide, by decide, (by show 1 * 4 ≤ sizeLine; decide), fun q2 hq2 => ?_⟩
      have n3 := Same.new n2 (o := .lst (List.replicate (4 : Int).toNat [V.ref t]).flatten) hq2
      have sA := s1.trans n3
      refine ⟨_, _, rfl, ?_, fun H14 s14 => ⟨true, rfl, iteF ⟨⟨_, _, rfl⟩, W12.sm (sA.trans s14), X12.sm (sA.trans s14)⟩⟩⟩
      have et := n3 _ _ hd
      have et2 : upd (upd (upd H' t (.tup [.str "InvalidRow", .int 0])) l1 (.lst [.ref t])) q2 (.lst (List.replicate (4 : Int).toNat [V.ref t]).flatten) t = some (.tup [.str "InvalidRow", .int 0]) := by
        have h1 : upd (upd H' t (.tup [.str "InvalidRow", .int 0])) l1 (.lst [.ref t]) t = some (.tup [.str "InvalidRow", .int 0]) := by rw [upd_ne (ne_of_none upd_same hl1), upd_same]
        rw [upd_ne (ne_of_none h1 hq2)]
        exact h1
      match ts, tl with
      | [t0, t1, t2, t3], _ =>
        refine .inr (.inl ⟨D, q2, _, [.ref t, .ref t, .ref t, .ref t], rfl, rfl, SqL.of et, SqL.of upd_same, (by show 4 < sizeLine; decide), ?_⟩)
        have f : ∀ {T : Addr}, H' T = some (.tup [.str "InvalidRow", .int 0]) → Alike K _ 2 (.ref T) (.ref t) := fun h => al_flat (n3 _ _ h) et2 rfl (by show 2 < sizeLine; decide) 1
        exact .cons (f (tt 0 t0 rfl)) (.cons (f (tt 1 t1 rfl)) (.cons (f (tt 2 t2 rfl)) (.cons (f (tt 3 t3 rfl)) .nil)))
  rintro σ H13 ⟨⟨v8, v11, rfl⟩, W13, X13⟩
  obtain ⟨dx, ha⟩ := id W13
  have fm : ∀ o : Option Int, flatV (mV o) = true := fun o => by cases o <;> rfl
  refine ⟨_, rfl, r0, C, dx, _, _, rfl, ha, M0.T.c.cl, M0.T.c.nL, rfl, _, rfl, r0, C, dx, _, _, rfl, ha, M0.T.c.cl, M0.T.c.nC, rfl, _, rfl, r0, C, dx, _, _, rfl, ha, M0.T.c.cl, M0.T.c.nG, rfl, (by show 3 ≤ sizeLine; decide), fun q1 hq1 => ?_⟩
  have n1 := Same.new (Same.refl H13) (o := .lst [.ref q, mV up, mV dn]) hq1
  have Z := X13.sm n1
  refine ⟨_, rfl, tv, _, 0, _, rfl, rfl, SqT.of Z.t, at_of (j := 0) rfl rfl, _, rfl, tv, _, 1, _, rfl, rfl, SqT.of Z.t, at_of (j := 1) rfl rfl, _, rfl, tv, _, 2, _, rfl, rfl, SqT.of Z.t, at_of (j := 2) rfl rfl, (by show 3 ≤ sizeLine; decide), fun q2 hq2 => ?_⟩
  have n2 := Same.new n1 (o := .lst [.ref q, mV up, mV dn]) hq2
  refine ⟨_, _, rfl, ?_, fun H14 s14 => ⟨true, rfl, iteF ⟨⟨_, _, _, _, _, _, _, _, _, _, rfl⟩, (X13.sm (n2.trans s14)).B⟩⟩⟩
  have e1 : upd (upd H13 q1 (.lst [.ref q, mV up, mV dn])) q2 (.lst [.ref q, mV up, mV dn]) q1 = some (.lst [.ref q, mV up, mV dn]) := by rw [upd_ne (ne_of_none upd_same hq2), upd_same]
  refine .inr (.inl ⟨q1, q2, _, _, rfl, rfl, SqL.of e1, SqL.of upd_same, (by show 3 < sizeLine; decide), ?_⟩)
  exact .cons (al_flat (n2 _ _ X13.q) (n2 _ _ X13.q) (flat_ints ls) (by rw [List.length_map, sizeLine_eq]; omega) 1) (.cons (al_leaf (fm up) 2) (.cons (al_leaf (fm dn) 2) .nil))

end
end K04

end

section
set_option Elab.async false
set_option linter.all false
set_option maxRecDepth 100000
set_option maxHeartbeats 16000000
namespace K04
open PySem L2 SB
theorem gF_rel {vs : List V} {us : List Value} {zs : List V} {ws : List Value} (r : Vals vs us) (q : Vals zs ws) : Vals (gF vs zs) (gF us ws) := by
  cases r with
  | nil =>
    cases q with
    | nil => exact .nil
    | cons a q =>
      cases q with
      | nil => exact .nil
      | cons b q =>
        cases q with
        | nil => exact .cons b (.cons a .nil)
        | cons c q => exact .nil
  | cons a r => exact .nil
theorem all_mk {l : PySem.W.OpenLaw} {w : World} {K : PySem.W.Frag} {h : Heap} {mg : Str → Option Value} {fa L CR gI DK f0 f1 f2 f3 f4 f5 f6 f7 f8 f9 f10 f11 f12 f13 f14 f15 f16 f17 f18 f19 f20 f21 f22 f23 f24 f25 f26 f27 m0 m1 m2 m3 CI gR CU gU CA gA CT gT CN gN : Addr} (X : K.In h) (G : h.Ns mainGlobals mg) (hfa : mg "law" = some (.ref fa))
    {od0 an0 od1 an1 od2 an2 od3 an3 od4 an4 od5 an5 od6 an6 od7 an7 od8 an8 od9 an9 od10 an10 od11 an11 od12 an12 od13 an13 od14 an14 od15 an15 od16 an16 od17 an17 od18 an18 od19 an19 od20 an20 od21 an21 od22 an22 od23 an23 od24 an24 od25 an25 od26 an26 od27 an27 odm0 anm0 odm1 anm1 odm2 anm2 odm3 anm3 odgi angi odxR anxR odxU anxU odxA anxA odxT anxT odxN anxN : Option Addr} {sl0 sl1 sl2 sl3 sl4 sl5 sl6 sl7 sl8 sl9 sl10 sl11 sl12 sl13 sl14 sl15 sl16 sl17 sl18 sl19 sl20 sl21 sl22 sl23 sl24 sl25 sl26 sl27 slm0 slm1 slm2 slm3 slgi slxR slxU slxA slxT slxN : Array (Option Value)} {oc0 dc0 pm0 cd0 ct0 kV0 oc1 dc1 pm1 cd1 ct1 kV1 oc2 dc2 pm2 cd2 ct2 kV2 oc3 dc3 pm3 cd3 ct3 kV3 oc4 dc4 pm4 cd4 ct4 kV4 oc5 dc5 pm5 cd5 ct5 kV5 oc6 dc6 pm6 cd6 ct6 kV6 oc7 dc7 pm7 cd7 ct7 kV7 oc8 dc8 pm8 cd8 ct8 kV8 oc9 dc9 pm9 cd9 ct9 kV9 oc10 dc10 pm10 cd10 ct10 kV10 oc11 dc11 pm11 cd11 ct11 kV11 oc12 dc12 pm12 cd12 ct12 kV12 oc13 dc13 pm13 cd13 ct13 kV13 oc14 dc14 pm14 cd14 ct14 kV14 oc15 dc15 pm15 cd15 ct15 kV15 oc16 dc16 pm16 cd16 ct16 kV16 oc17 dc17 pm17 cd17 ct17 kV17 oc18 dc18 pm18 cd18 ct18 kV18 oc19 dc19 pm19 cd19 ct19 kV19 oc20 dc20 pm20 cd20 ct20 kV20 oc21 dc21 pm21 cd21 ct21 kV21 oc22 dc22 pm22 cd22 ct22 kV22 oc23 dc23 pm23 cd23 ct23 kV23 oc24 dc24 pm24 cd24 ct24 kV24 oc25 dc25 pm25 cd25 ct25 kV25 oc26 dc26 pm26 cd26 ct26 kV26 oc27 dc27 pm27 cd27 ct27 kV27 ocm0 dcm0 pmm0 cdm0 ctm0 kVm0 ocm1 dcm1 pmm1 cdm1 ctm1 kVm1 ocm2 dcm2 pmm2 cdm2 ctm2 kVm2 ocm3 dcm3 pmm3 cdm3 ctm3 kVm3 ocgi dcgi pmgi cdgi ctgi ocxR dcxR pmxR cdxR ctxR kVxR ocxU dcxU pmxU cdxU ctxU kVxU ocxA dcxA pmxA cdxA ctxA kVxA ocxT dcxT pmxT cdxT ctxT kVxT ocxN dcxN pmxN cdxN ctxN kVxN : Value} {tG tL : Tok} {nL : Nat} {esL : Array DictEntry}
    (a0 : PySem.W.nsIn K mainGlobals "limit_of" = some (some (.ref f0)))
    (l0 : K.lookup f0 = some ⟨oc0, od0, .func (PySem.W.fnOf "limit_of" "limit_of" (defArgs s_limit_of) (defBody s_limit_of) (defScope s_limit_of) .none kV0 dc0 pm0 an0 cd0 ct0), sl0⟩)
    (c0 : PySem.W.codeIn K cd0 "limit_of" = true)
    (k0 : PySem.W.keepIn K (.ref f0) = true)
    (a1 : PySem.W.nsIn K mainGlobals "check_limit" = some (some (.ref f1)))
    (l1 : K.lookup f1 = some ⟨oc1, od1, .func (PySem.W.fnOf "check_limit" "check_limit" (defArgs s_check_limit) (defBody s_check_limit) (defScope s_check_limit) .none kV1 dc1 pm1 an1 cd1 ct1), sl1⟩)
    (c1 : PySem.W.codeIn K cd1 "check_limit" = true)
    (k1 : PySem.W.keepIn K (.ref f1) = true)
    (a2 : PySem.W.nsIn K mainGlobals "is_number" = some (some (.ref f2)))
    (l2 : K.lookup f2 = some ⟨oc2, od2, .func (PySem.W.fnOf "is_number" "is_number" (defArgs s_is_number) (defBody s_is_number) (defScope s_is_number) .none kV2 dc2 pm2 an2 cd2 ct2), sl2⟩)
    (c2 : PySem.W.codeIn K cd2 "is_number" = true)
    (k2 : PySem.W.keepIn K (.ref f2) = true)
    (a3 : PySem.W.nsIn K mainGlobals "is_key" = some (some (.ref f3)))
    (l3 : K.lookup f3 = some ⟨oc3, od3, .func (PySem.W.fnOf "is_key" "is_key" (defArgs s_is_key) (defBody s_is_key) (defScope s_is_key) .none kV3 dc3 pm3 an3 cd3 ct3), sl3⟩)
    (c3 : PySem.W.codeIn K cd3 "is_key" = true)
    (k3 : PySem.W.keepIn K (.ref f3) = true)
    (a4 : PySem.W.nsIn K mainGlobals "is_key_set" = some (some (.ref f4)))
    (l4 : K.lookup f4 = some ⟨oc4, od4, .func (PySem.W.fnOf "is_key_set" "is_key_set" (defArgs s_is_key_set) (defBody s_is_key_set) (defScope s_is_key_set) .none kV4 dc4 pm4 an4 cd4 ct4), sl4⟩)
    (c4 : PySem.W.codeIn K cd4 "is_key_set" = true)
    (k4 : PySem.W.keepIn K (.ref f4) = true)
    (a5 : PySem.W.nsIn K mainGlobals "is_lot" = some (some (.ref f5)))
    (l5 : K.lookup f5 = some ⟨oc5, od5, .func (PySem.W.fnOf "is_lot" "is_lot" (defArgs s_is_lot) (defBody s_is_lot) (defScope s_is_lot) .none kV5 dc5 pm5 an5 cd5 ct5), sl5⟩)
    (c5 : PySem.W.codeIn K cd5 "is_lot" = true)
    (k5 : PySem.W.keepIn K (.ref f5) = true)
    (a6 : PySem.W.nsIn K mainGlobals "lives_in" = some (some (.ref f6)))
    (l6 : K.lookup f6 = some ⟨oc6, od6, .func (PySem.W.fnOf "lives_in" "lives_in" (defArgs s_lives_in) (defBody s_lives_in) (defScope s_lives_in) .none kV6 dc6 pm6 an6 cd6 ct6), sl6⟩)
    (c6 : PySem.W.codeIn K cd6 "lives_in" = true)
    (k6 : PySem.W.keepIn K (.ref f6) = true)
    (a7 : PySem.W.nsIn K mainGlobals "check_lives" = some (some (.ref f7)))
    (l7 : K.lookup f7 = some ⟨oc7, od7, .func (PySem.W.fnOf "check_lives" "check_lives" (defArgs s_check_lives) (defBody s_check_lives) (defScope s_check_lives) .none kV7 dc7 pm7 an7 cd7 ct7), sl7⟩)
    (c7 : PySem.W.codeIn K cd7 "check_lives" = true)
    (k7 : PySem.W.keepIn K (.ref f7) = true)
    (a8 : PySem.W.nsIn K mainGlobals "check_all_live" = some (some (.ref f8)))
    (l8 : K.lookup f8 = some ⟨oc8, od8, .func (PySem.W.fnOf "check_all_live" "check_all_live" (defArgs s_check_all_live) (defBody s_check_all_live) (defScope s_check_all_live) .none kV8 dc8 pm8 an8 cd8 ct8), sl8⟩)
    (c8 : PySem.W.codeIn K cd8 "check_all_live" = true)
    (k8 : PySem.W.keepIn K (.ref f8) = true)
    (a9 : PySem.W.nsIn K mainGlobals "neighbours_of" = some (some (.ref f9)))
    (l9 : K.lookup f9 = some ⟨oc9, od9, .func (PySem.W.fnOf "neighbours_of" "neighbours_of" (defArgs s_neighbours_of) (defBody s_neighbours_of) (defScope s_neighbours_of) .none kV9 dc9 pm9 an9 cd9 ct9), sl9⟩)
    (c9 : PySem.W.codeIn K cd9 "neighbours_of" = true)
    (k9 : PySem.W.keepIn K (.ref f9) = true)
    (a10 : PySem.W.nsIn K mainGlobals "as_row" = some (some (.ref f10)))
    (l10 : K.lookup f10 = some ⟨oc10, od10, .func (PySem.W.fnOf "as_row" "as_row" (defArgs s_as_row) (defBody s_as_row) (defScope s_as_row) .none kV10 dc10 pm10 an10 cd10 ct10), sl10⟩)
    (c10 : PySem.W.codeIn K cd10 "as_row" = true)
    (k10 : PySem.W.keepIn K (.ref f10) = true)
    (a11 : PySem.W.nsIn K mainGlobals "check_fits" = some (some (.ref f11)))
    (l11 : K.lookup f11 = some ⟨oc11, od11, .func (PySem.W.fnOf "check_fits" "check_fits" (defArgs s_check_fits) (defBody s_check_fits) (defScope s_check_fits) .none kV11 dc11 pm11 an11 cd11 ct11), sl11⟩)
    (c11 : PySem.W.codeIn K cd11 "check_fits" = true)
    (k11 : PySem.W.keepIn K (.ref f11) = true)
    (a12 : PySem.W.nsIn K mainGlobals "check_neighbours" = some (some (.ref f12)))
    (l12 : K.lookup f12 = some ⟨oc12, od12, .func (PySem.W.fnOf "check_neighbours" "check_neighbours" (defArgs s_check_neighbours) (defBody s_check_neighbours) (defScope s_check_neighbours) .none kV12 dc12 pm12 an12 cd12 ct12), sl12⟩)
    (c12 : PySem.W.codeIn K cd12 "check_neighbours" = true)
    (k12 : PySem.W.keepIn K (.ref f12) = true)
    (a13 : PySem.W.nsIn K mainGlobals "living_behind" = some (some (.ref f13)))
    (l13 : K.lookup f13 = some ⟨oc13, od13, .func (PySem.W.fnOf "living_behind" "living_behind" (defArgs s_living_behind) (defBody s_living_behind) (defScope s_living_behind) .none kV13 dc13 pm13 an13 cd13 ct13), sl13⟩)
    (c13 : PySem.W.codeIn K cd13 "living_behind" = true)
    (k13 : PySem.W.keepIn K (.ref f13) = true)
    (a14 : PySem.W.nsIn K mainGlobals "_law_bag" = some (some (.ref f14)))
    (l14 : K.lookup f14 = some ⟨oc14, od14, .func (PySem.W.fnOf "_law_bag" "_law_bag" (defArgs s_l_bag) (defBody s_l_bag) (defScope s_l_bag) .none kV14 dc14 pm14 an14 cd14 ct14), sl14⟩)
    (c14 : PySem.W.codeIn K cd14 "_law_bag" = true)
    (k14 : PySem.W.keepIn K (.ref f14) = true)
    (a15 : PySem.W.nsIn K mainGlobals "_law_draw" = some (some (.ref f15)))
    (l15 : K.lookup f15 = some ⟨oc15, od15, .func (PySem.W.fnOf "_law_draw" "_law_draw" (defArgs s_l_draw) (defBody s_l_draw) (defScope s_l_draw) .none kV15 dc15 pm15 an15 cd15 ct15), sl15⟩)
    (c15 : PySem.W.codeIn K cd15 "_law_draw" = true)
    (k15 : PySem.W.keepIn K (.ref f15) = true)
    (a16 : PySem.W.nsIn K mainGlobals "_law_of" = some (some (.ref f16)))
    (l16 : K.lookup f16 = some ⟨oc16, od16, .func (PySem.W.fnOf "_law_of" "_law_of" (defArgs s_l_of) (defBody s_l_of) (defScope s_l_of) .none kV16 dc16 pm16 an16 cd16 ct16), sl16⟩)
    (c16 : PySem.W.codeIn K cd16 "_law_of" = true)
    (k16 : PySem.W.keepIn K (.ref f16) = true)
    (a17 : PySem.W.nsIn K mainGlobals "_law_part" = some (some (.ref f17)))
    (l17 : K.lookup f17 = some ⟨oc17, od17, .func (PySem.W.fnOf "_law_part" "_law_part" (defArgs s_l_part) (defBody s_l_part) (defScope s_l_part) .none kV17 dc17 pm17 an17 cd17 ct17), sl17⟩)
    (c17 : PySem.W.codeIn K cd17 "_law_part" = true)
    (k17 : PySem.W.keepIn K (.ref f17) = true)
    (a18 : PySem.W.nsIn K mainGlobals "_law_same" = some (some (.ref f18)))
    (l18 : K.lookup f18 = some ⟨oc18, od18, .func (PySem.W.fnOf "_law_same" "_law_same" (defArgs s_l_same) (defBody s_l_same) (defScope s_l_same) .none kV18 dc18 pm18 an18 cd18 ct18), sl18⟩)
    (c18 : PySem.W.codeIn K cd18 "_law_same" = true)
    (k18 : PySem.W.keepIn K (.ref f18) = true)
    (a19 : PySem.W.nsIn K mainGlobals "_law_keys" = some (some (.ref f19)))
    (l19 : K.lookup f19 = some ⟨oc19, od19, .func (PySem.W.fnOf "_law_keys" "_law_keys" (defArgs s_l_keys) (defBody s_l_keys) (defScope s_l_keys) .none kV19 dc19 pm19 an19 cd19 ct19), sl19⟩)
    (c19 : PySem.W.codeIn K cd19 "_law_keys" = true)
    (k19 : PySem.W.keepIn K (.ref f19) = true)
    (a20 : PySem.W.nsIn K mainGlobals "_law_stranger" = some (some (.ref f20)))
    (l20 : K.lookup f20 = some ⟨oc20, od20, .func (PySem.W.fnOf "_law_stranger" "_law_stranger" (defArgs s_l_stranger) (defBody s_l_stranger) (defScope s_l_stranger) .none kV20 dc20 pm20 an20 cd20 ct20), sl20⟩)
    (c20 : PySem.W.codeIn K cd20 "_law_stranger" = true)
    (k20 : PySem.W.keepIn K (.ref f20) = true)
    (a21 : PySem.W.nsIn K mainGlobals "_law_is_key" = some (some (.ref f21)))
    (l21 : K.lookup f21 = some ⟨oc21, od21, .func (PySem.W.fnOf "_law_is_key" "_law_is_key" (defArgs s_l_is_key) (defBody s_l_is_key) (defScope s_l_is_key) .none kV21 dc21 pm21 an21 cd21 ct21), sl21⟩)
    (c21 : PySem.W.codeIn K cd21 "_law_is_key" = true)
    (k21 : PySem.W.keepIn K (.ref f21) = true)
    (a22 : PySem.W.nsIn K mainGlobals "_law_is_set" = some (some (.ref f22)))
    (l22 : K.lookup f22 = some ⟨oc22, od22, .func (PySem.W.fnOf "_law_is_set" "_law_is_set" (defArgs s_l_is_set) (defBody s_l_is_set) (defScope s_l_is_set) .none kV22 dc22 pm22 an22 cd22 ct22), sl22⟩)
    (c22 : PySem.W.codeIn K cd22 "_law_is_set" = true)
    (k22 : PySem.W.keepIn K (.ref f22) = true)
    (a23 : PySem.W.nsIn K mainGlobals "_law_odd_set" = some (some (.ref f23)))
    (l23 : K.lookup f23 = some ⟨oc23, od23, .func (PySem.W.fnOf "_law_odd_set" "_law_odd_set" (defArgs s_l_odd_set) (defBody s_l_odd_set) (defScope s_l_odd_set) .none kV23 dc23 pm23 an23 cd23 ct23), sl23⟩)
    (c23 : PySem.W.codeIn K cd23 "_law_odd_set" = true)
    (k23 : PySem.W.keepIn K (.ref f23) = true)
    (a24 : PySem.W.nsIn K mainGlobals "_law_fits" = some (some (.ref f24)))
    (l24 : K.lookup f24 = some ⟨oc24, od24, .func (PySem.W.fnOf "_law_fits" "_law_fits" (defArgs s_l_fits) (defBody s_l_fits) (defScope s_l_fits) .none kV24 dc24 pm24 an24 cd24 ct24), sl24⟩)
    (c24 : PySem.W.codeIn K cd24 "_law_fits" = true)
    (k24 : PySem.W.keepIn K (.ref f24) = true)
    (a25 : PySem.W.nsIn K mainGlobals "_law_fitted" = some (some (.ref f25)))
    (l25 : K.lookup f25 = some ⟨oc25, od25, .func (PySem.W.fnOf "_law_fitted" "_law_fitted" (defArgs s_l_fitted) (defBody s_l_fitted) (defScope s_l_fitted) .none kV25 dc25 pm25 an25 cd25 ct25), sl25⟩)
    (c25 : PySem.W.codeIn K cd25 "_law_fitted" = true)
    (k25 : PySem.W.keepIn K (.ref f25) = true)
    (a26 : PySem.W.nsIn K mainGlobals "_law_some_row" = some (some (.ref f26)))
    (l26 : K.lookup f26 = some ⟨oc26, od26, .func (PySem.W.fnOf "_law_some_row" "_law_some_row" (defArgs s_l_some_row) (defBody s_l_some_row) (defScope s_l_some_row) .none kV26 dc26 pm26 an26 cd26 ct26), sl26⟩)
    (c26 : PySem.W.codeIn K cd26 "_law_some_row" = true)
    (k26 : PySem.W.keepIn K (.ref f26) = true)
    (a27 : PySem.W.nsIn K mainGlobals "law" = some (some (.ref f27)))
    (l27 : K.lookup f27 = some ⟨oc27, od27, .func (PySem.W.fnOf "law" "law" (defArgs s_law) (defBody s_law) (defScope s_law) .none kV27 dc27 pm27 an27 cd27 ct27), sl27⟩)
    (c27 : PySem.W.codeIn K cd27 "law" = true)
    (k27 : PySem.W.keepIn K (.ref f27) = true)
    (ra : PySem.W.nsIn K mainGlobals "Row" = some (some (.ref CR)))
    (rm1 : PySem.W.findIn K (.ref CR) "__init__" = some (some (.ref gI)))
    (ma0 : PySem.W.findIn K (.ref CR) "lot_before" = some (some (.ref m0)))
    (mf0 : PySem.W.isFn K (.ref m0) = true)
    (lm0 : K.lookup m0 = some ⟨ocm0, odm0, .func (PySem.W.fnOf "lot_before" "Row.lot_before" (defArgs s_Row_lot_before) (defBody s_Row_lot_before) (defScope s_Row_lot_before) .none kVm0 dcm0 pmm0 anm0 cdm0 ctm0), slm0⟩)
    (cm0 : PySem.W.codeIn K cdm0 "Row.lot_before" = true)
    (km0 : PySem.W.keepIn K (.ref m0) = true)
    (ma1 : PySem.W.findIn K (.ref CR) "backward" = some (some (.ref m1)))
    (mf1 : PySem.W.isFn K (.ref m1) = true)
    (lm1 : K.lookup m1 = some ⟨ocm1, odm1, .func (PySem.W.fnOf "backward" "Row.backward" (defArgs s_Row_backward) (defBody s_Row_backward) (defScope s_Row_backward) .none kVm1 dcm1 pmm1 anm1 cdm1 ctm1), slm1⟩)
    (cm1 : PySem.W.codeIn K cdm1 "Row.backward" = true)
    (km1 : PySem.W.keepIn K (.ref m1) = true)
    (ma2 : PySem.W.findIn K (.ref CR) "text" = some (some (.ref m2)))
    (mf2 : PySem.W.isFn K (.ref m2) = true)
    (lm2 : K.lookup m2 = some ⟨ocm2, odm2, .func (PySem.W.fnOf "text" "Row.text" (defArgs s_Row_text) (defBody s_Row_text) (defScope s_Row_text) .none kVm2 dcm2 pmm2 anm2 cdm2 ctm2), slm2⟩)
    (cm2 : PySem.W.codeIn K cdm2 "Row.text" = true)
    (km2 : PySem.W.keepIn K (.ref m2) = true)
    (ma3 : PySem.W.findIn K (.ref CR) "_sign" = some (some (.ref m3)))
    (mf3 : PySem.W.isFn K (.ref m3) = true)
    (lm3 : K.lookup m3 = some ⟨ocm3, odm3, .func (PySem.W.fnOf "_sign" "Row._sign" (defArgs s_Row_sign) (defBody s_Row_sign) (defScope s_Row_sign) .none kVm3 dcm3 pmm3 anm3 cdm3 ctm3), slm3⟩)
    (cm3 : PySem.W.codeIn K cdm3 "Row._sign" = true)
    (km3 : PySem.W.keepIn K (.ref m3) = true)
    (lgi : K.lookup gI = some ⟨ocgi, odgi, .func (PySem.W.fnOf "__init__" "Row.__init__" (defArgs s_Row_init) (defBody s_Row_init) (defScope s_Row_init) .none (.ref DK) dcgi pmgi angi cdgi ctgi), slgi⟩)
    (cgi : PySem.W.codeIn K cdgi "Row.__init__" = true)
    (kgi : PySem.W.keepIn K (.ref gI) = true)
    (rd0 : PySem.W.nsIn K DK "coming" = some (some .none))
    (rd1 : PySem.W.nsIn K DK "going" = some (some .none))
    (rc0 : PySem.W.plainGet K CR Str.empty = true)
    (rc1 : PySem.W.hasDictIn K CR = true)
    (rc2 : PySem.W.plainOver K CR = true)
    (rc3 : PySem.W.findIn K (.ref CR) "__setattr__" = some (some (.builtin "object.__setattr__")))
    (rn0 : PySem.W.findIn K (.ref CR) "lot" = some none)
    (rn1 : PySem.W.findIn K (.ref CR) "coming" = some none)
    (rn2 : PySem.W.findIn K (.ref CR) "going" = some none)
    (rt0 : PySem.W.findIn K (.ref CR) "__class__" = some (some (.builtin "object.__class__")))
    (rt1 : PySem.W.specialIn K (.builtin "object.__class__") "__get__" = some (some (.builtin "getset_descriptor.__get__")))
    (rt2 : PySem.W.takesIn K (.builtin "object.__class__") = some true)
    (rt3 : PySem.W.mroIn K CR (.type "object") = some true)
    (rm0 : PySem.W.makesIn K CR = true)
    (rm2 : PySem.W.isFn K (.ref gI) = true)
    (rm3 : PySem.W.keepIn K (.ref CR) = true)
    (ro_NoneType : PySem.W.kitOne K (.type "NoneType") (.ref CR) = some false)
    (ro_bool : PySem.W.kitOne K (.type "bool") (.ref CR) = some false)
    (ro_int : PySem.W.kitOne K (.type "int") (.ref CR) = some false)
    (ro_str : PySem.W.kitOne K (.type "str") (.ref CR) = some false)
    (ro_list : PySem.W.kitOne K (.type "list") (.ref CR) = some false)
    (ro_dict : PySem.W.kitOne K (.type "dict") (.ref CR) = some false)
    (ro_tuple : PySem.W.kitOne K (.type "tuple") (.ref CR) = some false)
    (rk0 : PySem.W.kitOne K (.ref CR) (.type "int") = some false)
    (rk1 : PySem.W.kitOne K (.ref CR) (.type "bool") = some false)
    (xaR : PySem.W.nsIn K mainGlobals "InvalidRow" = some (some (.ref CI)))
    (xmR : PySem.W.excInitIn K CI bmVE "ValueError.__new__" = true)
    (xoR : PySem.W.excOver K CI bmVE = true)
    (xhR : PySem.W.hasDictIn K CI = true)
    (xsR : PySem.W.findIn K (.ref CI) "__setattr__" = some (some (.builtin "object.__setattr__")))
    (xeR : PySem.W.subIn K (.ref CI) (.type "BaseException") = some true)
    (xtR : PySem.W.typeIn K (.ref CI) = some (.type "type"))
    (xkR : PySem.W.keepIn K (.ref CI) = true)
    (xgR : PySem.W.findIn K (.ref CI) "__getattribute__" = some (some (.builtin "BaseException.__getattribute__")))
    (xqR : PySem.W.findIn K (.ref CI) "__getattr__" = some none)
    (xiR : PySem.W.findIn K (.ref CI) "__init__" = some (some (.ref gR)))
    (xfR : PySem.W.typeIn K (.ref gR) = some (.type "function"))
    (lxR : K.lookup gR = some ⟨ocxR, odxR, .func (PySem.W.fnOf "__init__" "InvalidRow.__init__" (defArgs s_InvalidRow_init) (defBody s_InvalidRow_init) (defScope s_InvalidRow_init) .none kVxR dcxR pmxR anxR cdxR ctxR), slxR⟩)
    (cxR : PySem.W.codeIn K cdxR "InvalidRow.__init__" = true)
    (kxR : PySem.W.keepIn K (.ref gR) = true)
    (xnR : PySem.W.findIn K (.ref CI) "code" = some none)
    (xzR : PySem.W.subIn K (.ref CI) (.ref CI) = some true)
    (xyRat : PySem.W.findIn K (.ref CI) "at" = some none)
    (xaU : PySem.W.nsIn K mainGlobals "UnknownKey" = some (some (.ref CU)))
    (xmU : PySem.W.excInitIn K CU bmLE "LookupError.__new__" = true)
    (xoU : PySem.W.excOver K CU bmLE = true)
    (xhU : PySem.W.hasDictIn K CU = true)
    (xsU : PySem.W.findIn K (.ref CU) "__setattr__" = some (some (.builtin "object.__setattr__")))
    (xeU : PySem.W.subIn K (.ref CU) (.type "BaseException") = some true)
    (xtU : PySem.W.typeIn K (.ref CU) = some (.type "type"))
    (xkU : PySem.W.keepIn K (.ref CU) = true)
    (xgU : PySem.W.findIn K (.ref CU) "__getattribute__" = some (some (.builtin "BaseException.__getattribute__")))
    (xqU : PySem.W.findIn K (.ref CU) "__getattr__" = some none)
    (xiU : PySem.W.findIn K (.ref CU) "__init__" = some (some (.ref gU)))
    (xfU : PySem.W.typeIn K (.ref gU) = some (.type "function"))
    (lxU : K.lookup gU = some ⟨ocxU, odxU, .func (PySem.W.fnOf "__init__" "UnknownKey.__init__" (defArgs s_UnknownKey_init) (defBody s_UnknownKey_init) (defScope s_UnknownKey_init) .none kVxU dcxU pmxU anxU cdxU ctxU), slxU⟩)
    (cxU : PySem.W.codeIn K cdxU "UnknownKey.__init__" = true)
    (kxU : PySem.W.keepIn K (.ref gU) = true)
    (xnU : PySem.W.findIn K (.ref CU) "code" = some none)
    (xzU : PySem.W.subIn K (.ref CU) (.ref CU) = some true)
    (xyUkey : PySem.W.findIn K (.ref CU) "key" = some none)
    (xaA : PySem.W.nsIn K mainGlobals "AlreadyLiving" = some (some (.ref CA)))
    (xmA : PySem.W.excInitIn K CA bmVE "ValueError.__new__" = true)
    (xoA : PySem.W.excOver K CA bmVE = true)
    (xhA : PySem.W.hasDictIn K CA = true)
    (xsA : PySem.W.findIn K (.ref CA) "__setattr__" = some (some (.builtin "object.__setattr__")))
    (xeA : PySem.W.subIn K (.ref CA) (.type "BaseException") = some true)
    (xtA : PySem.W.typeIn K (.ref CA) = some (.type "type"))
    (xkA : PySem.W.keepIn K (.ref CA) = true)
    (xgA : PySem.W.findIn K (.ref CA) "__getattribute__" = some (some (.builtin "BaseException.__getattribute__")))
    (xqA : PySem.W.findIn K (.ref CA) "__getattr__" = some none)
    (xiA : PySem.W.findIn K (.ref CA) "__init__" = some (some (.ref gA)))
    (xfA : PySem.W.typeIn K (.ref gA) = some (.type "function"))
    (lxA : K.lookup gA = some ⟨ocxA, odxA, .func (PySem.W.fnOf "__init__" "AlreadyLiving.__init__" (defArgs s_AlreadyLiving_init) (defBody s_AlreadyLiving_init) (defScope s_AlreadyLiving_init) .none kVxA dcxA pmxA anxA cdxA ctxA), slxA⟩)
    (cxA : PySem.W.codeIn K cdxA "AlreadyLiving.__init__" = true)
    (kxA : PySem.W.keepIn K (.ref gA) = true)
    (xnA : PySem.W.findIn K (.ref CA) "code" = some none)
    (xzA : PySem.W.subIn K (.ref CA) (.ref CA) = some true)
    (xyAkey : PySem.W.findIn K (.ref CA) "key" = some none)
    (xaT : PySem.W.nsIn K mainGlobals "TooMany" = some (some (.ref CT)))
    (xmT : PySem.W.excInitIn K CT bmVE "ValueError.__new__" = true)
    (xoT : PySem.W.excOver K CT bmVE = true)
    (xhT : PySem.W.hasDictIn K CT = true)
    (xsT : PySem.W.findIn K (.ref CT) "__setattr__" = some (some (.builtin "object.__setattr__")))
    (xeT : PySem.W.subIn K (.ref CT) (.type "BaseException") = some true)
    (xtT : PySem.W.typeIn K (.ref CT) = some (.type "type"))
    (xkT : PySem.W.keepIn K (.ref CT) = true)
    (xgT : PySem.W.findIn K (.ref CT) "__getattribute__" = some (some (.builtin "BaseException.__getattribute__")))
    (xqT : PySem.W.findIn K (.ref CT) "__getattr__" = some none)
    (xiT : PySem.W.findIn K (.ref CT) "__init__" = some (some (.ref gT)))
    (xfT : PySem.W.typeIn K (.ref gT) = some (.type "function"))
    (lxT : K.lookup gT = some ⟨ocxT, odxT, .func (PySem.W.fnOf "__init__" "TooMany.__init__" (defArgs s_TooMany_init) (defBody s_TooMany_init) (defScope s_TooMany_init) .none kVxT dcxT pmxT anxT cdxT ctxT), slxT⟩)
    (cxT : PySem.W.codeIn K cdxT "TooMany.__init__" = true)
    (kxT : PySem.W.keepIn K (.ref gT) = true)
    (xnT : PySem.W.findIn K (.ref CT) "code" = some none)
    (xzT : PySem.W.subIn K (.ref CT) (.ref CT) = some true)
    (xyTwhat : PySem.W.findIn K (.ref CT) "what" = some none)
    (xyTcount : PySem.W.findIn K (.ref CT) "count" = some none)
    (xaN : PySem.W.nsIn K mainGlobals "NeighbourMissed" = some (some (.ref CN)))
    (xmN : PySem.W.excInitIn K CN bmVE "ValueError.__new__" = true)
    (xoN : PySem.W.excOver K CN bmVE = true)
    (xhN : PySem.W.hasDictIn K CN = true)
    (xsN : PySem.W.findIn K (.ref CN) "__setattr__" = some (some (.builtin "object.__setattr__")))
    (xeN : PySem.W.subIn K (.ref CN) (.type "BaseException") = some true)
    (xtN : PySem.W.typeIn K (.ref CN) = some (.type "type"))
    (xkN : PySem.W.keepIn K (.ref CN) = true)
    (xgN : PySem.W.findIn K (.ref CN) "__getattribute__" = some (some (.builtin "BaseException.__getattribute__")))
    (xqN : PySem.W.findIn K (.ref CN) "__getattr__" = some none)
    (xiN : PySem.W.findIn K (.ref CN) "__init__" = some (some (.ref gN)))
    (xfN : PySem.W.typeIn K (.ref gN) = some (.type "function"))
    (lxN : K.lookup gN = some ⟨ocxN, odxN, .func (PySem.W.fnOf "__init__" "NeighbourMissed.__init__" (defArgs s_NeighbourMissed_init) (defBody s_NeighbourMissed_init) (defScope s_NeighbourMissed_init) .none kVxN dcxN pmxN anxN cdxN ctxN), slxN⟩)
    (cxN : PySem.W.codeIn K cdxN "NeighbourMissed.__init__" = true)
    (kxN : PySem.W.keepIn K (.ref gN) = true)
    (xnN : PySem.W.findIn K (.ref CN) "code" = some none)
    (xzN : PySem.W.subIn K (.ref CN) (.ref CN) = some true)
    (xyNkey : PySem.W.findIn K (.ref CN) "key" = some none)
    (xyNneighbour : PySem.W.findIn K (.ref CN) "neighbour" = some none)
    (apUR : PySem.W.subIn K (.ref CU) (.ref CI) = some false)
    (apAR : PySem.W.subIn K (.ref CA) (.ref CI) = some false)
    (apAU : PySem.W.subIn K (.ref CA) (.ref CU) = some false)
    (apTR : PySem.W.subIn K (.ref CT) (.ref CI) = some false)
    (apTU : PySem.W.subIn K (.ref CT) (.ref CU) = some false)
    (apTA : PySem.W.subIn K (.ref CT) (.ref CA) = some false)
    (apNR : PySem.W.subIn K (.ref CN) (.ref CI) = some false)
    (apNU : PySem.W.subIn K (.ref CN) (.ref CU) = some false)
    (apNA : PySem.W.subIn K (.ref CN) (.ref CA) = some false)
    (apNT : PySem.W.subIn K (.ref CN) (.ref CT) = some false)
    (z_int : PySem.W.nsIn K mainGlobals "int" = some none)
    (z_list : PySem.W.nsIn K mainGlobals "list" = some none)
    (z_len : PySem.W.nsIn K mainGlobals "len" = some none)
    (z_abs : PySem.W.nsIn K mainGlobals "abs" = some none)
    (z_isinstance : PySem.W.nsIn K mainGlobals "isinstance" = some none)
    (z_tuple : PySem.W.nsIn K mainGlobals "tuple" = some none)
    (z_all : PySem.W.nsIn K mainGlobals "all" = some none)
    (z_zip : PySem.W.nsIn K mainGlobals "zip" = some none)
    (z_bool : PySem.W.nsIn K mainGlobals "bool" = some none)
    (z_str : PySem.W.nsIn K mainGlobals "str" = some none)
    (z_range : PySem.W.nsIn K mainGlobals "range" = some none)
    (z_max : PySem.W.nsIn K mainGlobals "max" = some none)
    (z_sorted : PySem.W.nsIn K mainGlobals "sorted" = some none)
    (z_set : PySem.W.nsIn K mainGlobals "set" = some none)
    (gk : PySem.W.nsIn K mainGlobals "GREATEST_KEY" = some (some (.int 999 tG)))
    (ia : PySem.W.nsIn K mainGlobals "LIMITS" = some (some (.ref L)))
    (il : K.lookup L = some ⟨.type "dict", none, .dict esL nL, #[]⟩)
    (ik : PySem.W.KeysLit w.params esL.toList)
    (io : (L == sysModules) = false)
    (iw : PySem.W.nsIn K L "keys" = some (some (.int 12 tL))) :
    ∃ fd : FuncData, (∀ (s : Shared) (v : Value), BindsTo s fd ⟨[v], []⟩ [("_law_script", v)]) ∧ ∀ base : Heap, K.In base → base.Ns mainGlobals mg → AtCaller l.prog w K mg base fa fd "_law_script" (spLaw K) := by
  have e := hfa.symm.trans (PySem.W.mg_of X G a27)
  cases e
  have q0 := PySem.W.mg_of X G a0
  have F0 := fun_mk (st := s_limit_of) l0 c0 k0
  have b0 := F0.binds (ps := ["what"]) fun _ _ _ _ _ _ us hl => match us, hl with | [_], _ => rfl
  have q1 := PySem.W.mg_of X G a1
  have F1 := fun_mk (st := s_check_limit) l1 c1 k1
  have b1 := F1.binds (ps := ["what", "count"]) fun _ _ _ _ _ _ us hl => match us, hl with | [_, _], _ => rfl
  have q2 := PySem.W.mg_of X G a2
  have F2 := fun_mk (st := s_is_number) l2 c2 k2
  have b2 := F2.binds (ps := ["value"]) fun _ _ _ _ _ _ us hl => match us, hl with | [_], _ => rfl
  have q3 := PySem.W.mg_of X G a3
  have F3 := fun_mk (st := s_is_key) l3 c3 k3
  have b3 := F3.binds (ps := ["value"]) fun _ _ _ _ _ _ us hl => match us, hl with | [_], _ => rfl
  have q4 := PySem.W.mg_of X G a4
  have F4 := fun_mk (st := s_is_key_set) l4 c4 k4
  have b4 := F4.binds (ps := ["value"]) fun _ _ _ _ _ _ us hl => match us, hl with | [_], _ => rfl
  have q5 := PySem.W.mg_of X G a5
  have F5 := fun_mk (st := s_is_lot) l5 c5 k5
  have b5 := F5.binds (ps := ["value"]) fun _ _ _ _ _ _ us hl => match us, hl with | [_], _ => rfl
  have q6 := PySem.W.mg_of X G a6
  have F6 := fun_mk (st := s_lives_in) l6 c6 k6
  have b6 := F6.binds (ps := ["living", "value"]) fun _ _ _ _ _ _ us hl => match us, hl with | [_, _], _ => rfl
  have q7 := PySem.W.mg_of X G a7
  have F7 := fun_mk (st := s_check_lives) l7 c7 k7
  have b7 := F7.binds (ps := ["living", "value"]) fun _ _ _ _ _ _ us hl => match us, hl with | [_, _], _ => rfl
  have q8 := PySem.W.mg_of X G a8
  have F8 := fun_mk (st := s_check_all_live) l8 c8 k8
  have b8 := F8.binds (ps := ["living", "lot"]) fun _ _ _ _ _ _ us hl => match us, hl with | [_, _], _ => rfl
  have q9 := PySem.W.mg_of X G a9
  have F9 := fun_mk (st := s_neighbours_of) l9 c9 k9
  have b9 := F9.binds (ps := ["living", "key"]) fun _ _ _ _ _ _ us hl => match us, hl with | [_, _], _ => rfl
  have q10 := PySem.W.mg_of X G a10
  have F10 := fun_mk (st := s_as_row) l10 c10 k10
  have b10 := F10.binds (ps := ["value"]) fun _ _ _ _ _ _ us hl => match us, hl with | [_], _ => rfl
  have q11 := PySem.W.mg_of X G a11
  have F11 := fun_mk (st := s_check_fits) l11 c11 k11
  have b11 := F11.binds (ps := ["living", "row"]) fun _ _ _ _ _ _ us hl => match us, hl with | [_, _], _ => rfl
  have q12 := PySem.W.mg_of X G a12
  have F12 := fun_mk (st := s_check_neighbours) l12 c12 k12
  have b12 := F12.binds (ps := ["living", "row", "key"]) fun _ _ _ _ _ _ us hl => match us, hl with | [_, _, _], _ => rfl
  have q13 := PySem.W.mg_of X G a13
  have F13 := fun_mk (st := s_living_behind) l13 c13 k13
  have b13 := F13.binds (ps := ["living", "row"]) fun _ _ _ _ _ _ us hl => match us, hl with | [_, _], _ => rfl
  have q14 := PySem.W.mg_of X G a14
  have F14 := fun_mk (st := s_l_bag) l14 c14 k14
  have b14 := F14.binds (ps := ["_law_script"]) fun _ _ _ _ _ _ us hl => match us, hl with | [_], _ => rfl
  have q15 := PySem.W.mg_of X G a15
  have F15 := fun_mk (st := s_l_draw) l15 c15 k15
  have b15 := F15.binds (ps := ["_law_bag_here", "_law_top"]) fun _ _ _ _ _ _ us hl => match us, hl with | [_, _], _ => rfl
  have q16 := PySem.W.mg_of X G a16
  have F16 := fun_mk (st := s_l_of) l16 c16 k16
  have b16 := F16.binds (ps := ["_law_bag_here", "_law_some"]) fun _ _ _ _ _ _ us hl => match us, hl with | [_, _], _ => rfl
  have q17 := PySem.W.mg_of X G a17
  have F17 := fun_mk (st := s_l_part) l17 c17 k17
  have b17 := F17.binds (ps := ["_law_bag_here", "_law_some"]) fun _ _ _ _ _ _ us hl => match us, hl with | [_, _], _ => rfl
  have q18 := PySem.W.mg_of X G a18
  have F18 := fun_mk (st := s_l_same) l18 c18 k18
  have b18 := F18.binds (ps := ["_law_found", "_law_due"]) fun _ _ _ _ _ _ us hl => match us, hl with | [_, _], _ => rfl
  have q19 := PySem.W.mg_of X G a19
  have F19 := fun_mk (st := s_l_keys) l19 c19 k19
  have b19 := F19.binds (ps := ["_law_bag_here", "_law_many"]) fun _ _ _ _ _ _ us hl => match us, hl with | [_, _], _ => rfl
  have q20 := PySem.W.mg_of X G a20
  have F20 := fun_mk (st := s_l_stranger) l20 c20 k20
  have b20 := F20.binds (ps := ["_law_bag_here", "_law_ks"]) fun _ _ _ _ _ _ us hl => match us, hl with | [_, _], _ => rfl
  have q21 := PySem.W.mg_of X G a21
  have F21 := fun_mk (st := s_l_is_key) l21 c21 k21
  have b21 := F21.binds (ps := ["_law_v"]) fun _ _ _ _ _ _ us hl => match us, hl with | [_], _ => rfl
  have q22 := PySem.W.mg_of X G a22
  have F22 := fun_mk (st := s_l_is_set) l22 c22 k22
  have b22 := F22.binds (ps := ["_law_v"]) fun _ _ _ _ _ _ us hl => match us, hl with | [_], _ => rfl
  have q23 := PySem.W.mg_of X G a23
  have F23 := fun_mk (st := s_l_odd_set) l23 c23 k23
  have b23 := F23.binds (ps := ["_law_bag_here", "_law_ks", "_law_more"]) fun _ _ _ _ _ _ us hl => match us, hl with | [_, _, _], _ => rfl
  have q24 := PySem.W.mg_of X G a24
  have F24 := fun_mk (st := s_l_fits) l24 c24 k24
  have b24 := F24.binds (ps := ["_law_ks", "_law_v"]) fun _ _ _ _ _ _ us hl => match us, hl with | [_, _], _ => rfl
  have q25 := PySem.W.mg_of X G a25
  have F25 := fun_mk (st := s_l_fitted) l25 c25 k25
  have b25 := F25.binds (ps := ["_law_way", "_law_ks", "_law_v"]) fun _ _ _ _ _ _ us hl => match us, hl with | [_, _, _], _ => rfl
  have q26 := PySem.W.mg_of X G a26
  have F26 := fun_mk (st := s_l_some_row) l26 c26 k26
  have b26 := F26.binds (ps := ["_law_bag_here", "_law_ks"]) fun _ _ _ _ _ _ us hl => match us, hl with | [_, _], _ => rfl
  have q27 := PySem.W.mg_of X G a27
  have F27 := fun_mk (st := s_law) l27 c27 k27
  have Fm0 := fun_mk (st := s_Row_lot_before) lm0 cm0 km0
  have bm0 := Fm0.binds (ps := ["self"]) fun _ _ _ _ _ _ us hl => match us, hl with | [_], _ => rfl
  have Me0 : Meth K CR "lot_before" m0 := ⟨ma0, mf0, km0⟩
  have Fm1 := fun_mk (st := s_Row_backward) lm1 cm1 km1
  have bm1 := Fm1.binds (ps := ["self"]) fun _ _ _ _ _ _ us hl => match us, hl with | [_], _ => rfl
  have Me1 : Meth K CR "backward" m1 := ⟨ma1, mf1, km1⟩
  have Fm2 := fun_mk (st := s_Row_text) lm2 cm2 km2
  have bm2 := Fm2.binds (ps := ["self"]) fun _ _ _ _ _ _ us hl => match us, hl with | [_], _ => rfl
  have Me2 : Meth K CR "text" m2 := ⟨ma2, mf2, km2⟩
  have Fm3 := fun_mk (st := s_Row_sign) lm3 cm3 km3
  have bm3 := Fm3.binds (ps := ["self", "key"]) fun _ _ _ _ _ _ us hl => match us, hl with | [_, _], _ => rfl
  have Me3 : Meth K CR "_sign" m3 := ⟨ma3, mf3, km3⟩
  have n_int := PySem.W.mg_none_of X G z_int
  have n_list := PySem.W.mg_none_of X G z_list
  have n_len := PySem.W.mg_none_of X G z_len
  have n_abs := PySem.W.mg_none_of X G z_abs
  have n_isinstance := PySem.W.mg_none_of X G z_isinstance
  have n_tuple := PySem.W.mg_none_of X G z_tuple
  have n_all := PySem.W.mg_none_of X G z_all
  have n_zip := PySem.W.mg_none_of X G z_zip
  have n_bool := PySem.W.mg_none_of X G z_bool
  have n_str := PySem.W.mg_none_of X G z_str
  have n_range := PySem.W.mg_none_of X G z_range
  have n_max := PySem.W.mg_none_of X G z_max
  have n_sorted := PySem.W.mg_none_of X G z_sorted
  have n_set := PySem.W.mg_none_of X G z_set
  have ER := fun_mk (st := s_InvalidRow_init) lxR cxR kxR
  have bxR := ER.binds (ps := ["self", "at"]) fun _ _ _ _ _ _ us hl => match us, hl with | [_, _], _ => rfl
  have XR : XFacts K mg "InvalidRow" CI gR bmVE "ValueError.__new__" := ⟨⟨xmR, xoR, xhR, xsR, xeR, xtR, xkR⟩, ⟨xgR, xqR, xeR, xhR⟩, PySem.W.mg_of X G xaR, xiR, xfR, xnR, PySem.W.exm_ref xeR xhR xtR xzR⟩
  have EU := fun_mk (st := s_UnknownKey_init) lxU cxU kxU
  have bxU := EU.binds (ps := ["self", "key"]) fun _ _ _ _ _ _ us hl => match us, hl with | [_, _], _ => rfl
  have XU : XFacts K mg "UnknownKey" CU gU bmLE "LookupError.__new__" := ⟨⟨xmU, xoU, xhU, xsU, xeU, xtU, xkU⟩, ⟨xgU, xqU, xeU, xhU⟩, PySem.W.mg_of X G xaU, xiU, xfU, xnU, PySem.W.exm_ref xeU xhU xtU xzU⟩
  have EA := fun_mk (st := s_AlreadyLiving_init) lxA cxA kxA
  have bxA := EA.binds (ps := ["self", "key"]) fun _ _ _ _ _ _ us hl => match us, hl with | [_, _], _ => rfl
  have XA : XFacts K mg "AlreadyLiving" CA gA bmVE "ValueError.__new__" := ⟨⟨xmA, xoA, xhA, xsA, xeA, xtA, xkA⟩, ⟨xgA, xqA, xeA, xhA⟩, PySem.W.mg_of X G xaA, xiA, xfA, xnA, PySem.W.exm_ref xeA xhA xtA xzA⟩
  have ET := fun_mk (st := s_TooMany_init) lxT cxT kxT
  have bxT := ET.binds (ps := ["self", "what", "count"]) fun _ _ _ _ _ _ us hl => match us, hl with | [_, _, _], _ => rfl
  have XT : XFacts K mg "TooMany" CT gT bmVE "ValueError.__new__" := ⟨⟨xmT, xoT, xhT, xsT, xeT, xtT, xkT⟩, ⟨xgT, xqT, xeT, xhT⟩, PySem.W.mg_of X G xaT, xiT, xfT, xnT, PySem.W.exm_ref xeT xhT xtT xzT⟩
  have EN := fun_mk (st := s_NeighbourMissed_init) lxN cxN kxN
  have bxN := EN.binds (ps := ["self", "key", "neighbour"]) fun _ _ _ _ _ _ us hl => match us, hl with | [_, _, _], _ => rfl
  have XN : XFacts K mg "NeighbourMissed" CN gN bmVE "ValueError.__new__" := ⟨⟨xmN, xoN, xhN, xsN, xeN, xtN, xkN⟩, ⟨xgN, xqN, xeN, xhN⟩, PySem.W.mg_of X G xaN, xiN, xfN, xnN, PySem.W.exm_ref xeN xhN xtN xzN⟩
  have lim : Lim12 K w mg L := ⟨PySem.W.mg_of X G ia, ⟨esL, nL, ⟨il, ik, io⟩⟩, tL, iw⟩
  have RC : RowC K CR := ⟨⟨rc0, rc1, rc2, rc3⟩, rn0, rn1, rn2⟩
  have RT : RowT K CR := ⟨RC, rt0, rt1, rt2, rt3⟩
  have mkR : Mk K CR gI := ⟨rm0, rm1, rm2, rm3⟩
  have gRow := PySem.W.mg_of X G ra
  have NR : NotRow K CR := fun T hT => by
    simp only [tyN, List.mem_cons, List.not_mem_nil, or_false] at hT
    rcases hT with rfl | rfl | rfl | rfl | rfl | rfl | rfl
    · exact ro_NoneType
    · exact ro_bool
    · exact ro_int
    · exact ro_str
    · exact ro_list
    · exact ro_dict
    · exact ro_tuple
  have FI : FunD K "__init__" "Row.__init__" (defArgs s_Row_init) (defBody s_Row_init) (defScope s_Row_init) [] [("coming", .non), ("going", .non)] gI (PySem.W.fnOf "__init__" "Row.__init__" (defArgs s_Row_init) (defBody s_Row_init) (defScope s_Row_init) .none (.ref DK) dcgi pmgi angi cdgi ctgi) :=
    ⟨⟨ocgi, odgi, .none, .ref DK, dcgi, pmgi, angi, cdgi, ctgi, slgi, rfl, lgi, cgi, .inl ⟨rfl, rfl⟩, .inr ⟨DK, rfl, fun q hq => by
      simp only [List.mem_cons, List.not_mem_nil, or_false] at hq
      rcases hq with rfl | rfl
      · exact ⟨.none, rd0, rfl⟩
      · exact ⟨.none, rd1, rfl⟩⟩⟩, kgi⟩
  obtain ⟨dsR, rR, bR⟩ := FI.binds0 (ps := ["self", "lot", "coming", "going"]) 2 (by simp) rfl (fun D doc pm an cdv ct us ks h1 h2 => match us, ks, h1, h2 with
    | [_, _], [_, _], _, _ => ⟨_, _, _, _, _, _, rfl, rfl, _, _, _, _, _, _, rfl, rfl, rfl⟩)
  obtain ⟨mvR, kbR⟩ := FI.kbinds0 (ps := ["self", "lot", "coming", "going"]) 2 ["coming", "going"] [] (fun us _ ws => us ++ ws) (by simp) (fun q hq => by cases hq) (fun r1 _ r3 => r1.append r3) (fun D doc pm an cdv ct us mv ws h1 h2 h3 => match us, mv, ws, h1, h2, h3 with
    | [_, _], [], [_, _], _, _, _ => rfl)
  have kbFit : KBinds K (PySem.W.fnOf "check_fits" "check_fits" (defArgs s_check_fits) (defBody s_check_fits) (defScope s_check_fits) .none kV11 dc11 pm11 an11 cd11 ct11) ["living", "row"] ["row", "living"] gF gF :=
    ⟨fun s us ws _ hl => match us, ws, hl with
      | [], [_, _], _ => .of_eq rfl, fun {vs us zs ws} r q => gF_rel r q⟩
  have kbBeh : KBinds K (PySem.W.fnOf "living_behind" "living_behind" (defArgs s_living_behind) (defBody s_living_behind) (defScope s_living_behind) .none kV13 dc13 pm13 an13 cd13 ct13) ["living", "row"] ["row", "living"] gF gF :=
    ⟨fun s us ws _ hl => match us, ws, hl with
      | [], [_, _], _ => .of_eq rfl, fun {vs us zs ws} r q => gF_rel r q⟩

  refine ⟨PySem.W.fnOf "law" "law" (defArgs s_law) (defBody s_law) (defScope s_law) .none kV27 dc27 pm27 an27 cd27 ct27, fun s v => .of_eq rfl, fun base _ _ => ?_⟩
  · have gNum := ok_num (P := l.prog) (w := w) (base := base) F2 n_isinstance n_int n_bool
    have gKey := ok_key F3 (PySem.W.mg_of X G gk) q2 gNum k2 b2
    have ts : TSet mg := ⟨n_isinstance, n_tuple, n_all, n_len, n_range⟩
    have gSet := ok_set F4 ts q3 gKey k3 b3
    have gLot := ok_lot F5 n_len q4 gSet k4 b4
    have gLive := ok_lives F6 q3 gKey k3 b3
    have iR := ok_initR (P := l.prog) (w := w) (base := base) ER XR xyRat
    have iU := ok_initU (P := l.prog) (w := w) (base := base) EU XU xyUkey
    have iA := ok_initA (P := l.prog) (w := w) (base := base) EA XA xyAkey
    have iT := ok_initT (P := l.prog) (w := w) (base := base) ET XT xyTwhat xyTcount
    have iN := ok_initN (P := l.prog) (w := w) (base := base) EN XN xyNkey xyNneighbour
    have gCk := ok_ck F7 q6 gLive k6 b6 XU iU bxU
    have gCkAll := ok_ckall F8 q7 gCk k7 b7
    have gLim := ok_lim (P := l.prog) (base := base) F0 n_isinstance n_str lim
    have gChk := ok_chk (L := L) F1 q0 k0 b0 gLim XT iT bxT
    have gNear := ok_near (P := l.prog) (w := w) (base := base) (mg := mg) F9
    have gNb := ok_nb F12 RC q9 gNear k9 b9 XN iN bxN
    have gRw := ok_row (P := l.prog) (w := w) (base := base) FI RC q5 gLot k5 b5 q6 gLive k6 b6
    have gBef := ok_before (P := l.prog) (w := w) (base := base) Fm0 RC n_tuple
    have gBack := ok_back (P := l.prog) (w := w) (base := base) Fm1 RC gRow mkR gRw kbR
    have gSgn := ok_sign (P := l.prog) (w := w) (base := base) (mg := mg) Fm3 RC
    have gTxt := ok_text (P := l.prog) (w := w) (base := base) Fm2 RC n_str Me3 gSgn bm3
    have gAs := ok_as F10 RT gRow n_isinstance q5 gLot k5 b5 XR iR bxR mkR gRw bR rR
    have gFit := ok_fit (A := ⟨CI, CU, CA, CT, CN⟩) F11 RC n_len q10 gAs k10 b10 q8 gCkAll k8 b8 Me0 gBef bm0 q1 gChk k1 b1 q12 gNb k12 b12 XA iA bxA
    have gBeh := ok_beh F13 RC n_tuple n_sorted q10 gAs k10 b10 q11 gFit k11 b11
    have gDraw := ok_draw (P := l.prog) (w := w) (base := base) F15 n_int n_len n_abs
    have gOf := ok_of F16 n_len q15 gDraw k15 b15
    have gPart := ok_part F17 q15 gDraw k15 b15
    have gKeys := ok_keys F19 n_int n_max n_tuple n_sorted n_range q15 gDraw k15 b15 q16 gOf k16 b16
    have gStr := ok_stranger F20 n_int n_len n_list n_range q15 gDraw k15 b15 q16 gOf k16 b16
    have gLKey := ok_lkey (P := l.prog) (w := w) (base := base) F21 n_isinstance n_int n_bool
    have gLSet := ok_lset F22 ts q21 gLKey k21 b21
    have gOdd := ok_oddset F23 NR n_len n_list q16 gOf k16 b16 q22 gLSet k22 b22
    have gSome := ok_some F26 n_list n_tuple n_sorted n_set n_range q15 gDraw k15 b15 q16 gOf k16 b16 q17 gPart k17 b17 q20 gStr k20 b20
    exact ok_law (C := CR) F27 {
      bg := ⟨_, _, q14, k14, b14, ok_bag F14 n_int n_list⟩
      dr := ⟨_, _, q15, k15, b15, gDraw⟩
      of := ⟨_, _, q16, k16, b16, gOf⟩
      ky := ⟨_, _, q19, k19, b19, gKeys⟩
      so := ⟨_, _, q26, k26, b26, gSome⟩
      ft := ⟨_, _, q24, k24, b24, ok_fits F24 n_len n_tuple n_sorted⟩
      fd := ⟨_, _, q25, k25, b25, ok_fitted (A := ⟨CI, CU, CA, CT, CN⟩) F25 q11 gFit k11 b11 kbFit q13 gBeh k13 b13 kbBeh XR xyRat XU xyUkey XA xyAkey XT xyTwhat xyTcount XN xyNkey xyNneighbour (PySem.W.exm_ref xeR xhR xtR apUR) (PySem.W.exm_ref xeR xhR xtR apAR) (PySem.W.exm_ref xeU xhU xtU apAU) (PySem.W.exm_ref xeR xhR xtR apTR) (PySem.W.exm_ref xeU xhU xtU apTU) (PySem.W.exm_ref xeA xhA xtA apTA) (PySem.W.exm_ref xeR xhR xtR apNR) (PySem.W.exm_ref xeU xhU xtU apNU) (PySem.W.exm_ref xeA xhA xtA apNA) (PySem.W.exm_ref xeT xhT xtT apNT)⟩
      sm := ⟨_, _, q18, k18, b18, ok_same F18 ⟨n_isinstance, n_list, n_tuple, n_len, n_all, n_zip, n_bool, n_int, n_str⟩ q18 b18 4⟩
      od := ⟨_, _, q23, k23, b23, gOdd⟩
      T := RT
      O := NR
      gC := gRow
      row := ⟨_, _, mkR, gRw, kbR⟩
      back := ⟨_, _, Me1, bm1, gBack⟩
      text := ⟨_, _, Me2, bm2, gTxt⟩
      cint := rk0
      cbool := rk1
      int := n_int
      lst := n_list
      rng := n_range }
end K04


end

section
set_option Elab.async false
set_option linter.all false
open PySem PySem.W PyProof.Rows
set_option maxRecDepth 100000 in
set_option maxHeartbeats 0 in
theorem PySem.Challenge.cw_shapebetween_k04_rows_fitted_holds : PySem.Challenge.rw_shapebetween_k04_rows_fitted.Holds := by
  w_on; o_law; k_head; (case hw => w_witness2)
  k_fill
  refine SB.caller_walk (n := 63) (x := "_law_script") (sp := fun w => K04.spLaw _) rfl (by decide) rfl (fun w h Y => PySem.W.kIn_of Y) ?F (fun w H a ns hl hS => ⟨a, ns, rfl, hS, hl, fun _ => rfl⟩)
  case F =>
    intro w mg fa h KX G hmg
    refine' K04.all_mk KX G hmg ?a0 ?l0 ?c0 ?k0 ?a1 ?l1 ?c1 ?k1 ?a2 ?l2 ?c2 ?k2 ?a3 ?l3 ?c3 ?k3 ?a4 ?l4 ?c4 ?k4 ?a5 ?l5 ?c5 ?k5 ?a6 ?l6 ?c6 ?k6 ?a7 ?l7 ?c7 ?k7 ?a8 ?l8 ?c8 ?k8 ?a9 ?l9 ?c9 ?k9 ?a10 ?l10 ?c10 ?k10 ?a11 ?l11 ?c11 ?k11 ?a12 ?l12 ?c12 ?k12 ?a13 ?l13 ?c13 ?k13 ?a14 ?l14 ?c14 ?k14 ?a15 ?l15 ?c15 ?k15 ?a16 ?l16 ?c16 ?k16 ?a17 ?l17 ?c17 ?k17 ?a18 ?l18 ?c18 ?k18 ?a19 ?l19 ?c19 ?k19 ?a20 ?l20 ?c20 ?k20 ?a21 ?l21 ?c21 ?k21 ?a22 ?l22 ?c22 ?k22 ?a23 ?l23 ?c23 ?k23 ?a24 ?l24 ?c24 ?k24 ?a25 ?l25 ?c25 ?k25 ?a26 ?l26 ?c26 ?k26 ?a27 ?l27 ?c27 ?k27 ?ra ?rm1 ?ma0 ?mf0 ?lm0 ?cm0 ?km0 ?ma1 ?mf1 ?lm1 ?cm1 ?km1 ?ma2 ?mf2 ?lm2 ?cm2 ?km2 ?ma3 ?mf3 ?lm3 ?cm3 ?km3 ?lgi ?cgi ?kgi ?rd0 ?rd1 ?rc0 ?rc1 ?rc2 ?rc3 ?rn0 ?rn1 ?rn2 ?rt0 ?rt1 ?rt2 ?rt3 ?rm0 ?rm2 ?rm3 ?ro_NoneType ?ro_bool ?ro_int ?ro_str ?ro_list ?ro_dict ?ro_tuple ?rk0 ?rk1 ?xaR ?xmR ?xoR ?xhR ?xsR ?xeR ?xtR ?xkR ?xgR ?xqR ?xiR ?xfR ?lxR ?cxR ?kxR ?xnR ?xzR ?xyRat ?xaU ?xmU ?xoU ?xhU ?xsU ?xeU ?xtU ?xkU ?xgU ?xqU ?xiU ?xfU ?lxU ?cxU ?kxU ?xnU ?xzU ?xyUkey ?xaA ?xmA ?xoA ?xhA ?xsA ?xeA ?xtA ?xkA ?xgA ?xqA ?xiA ?xfA ?lxA ?cxA ?kxA ?xnA ?xzA ?xyAkey ?xaT ?xmT ?xoT ?xhT ?xsT ?xeT ?xtT ?xkT ?xgT ?xqT ?xiT ?xfT ?lxT ?cxT ?kxT ?xnT ?xzT ?xyTwhat ?xyTcount ?xaN ?xmN ?xoN ?xhN ?xsN ?xeN ?xtN ?xkN ?xgN ?xqN ?xiN ?xfN ?lxN ?cxN ?kxN ?xnN ?xzN ?xyNkey ?xyNneighbour ?apUR ?apAR ?apAU ?apTR ?apTU ?apTA ?apNR ?apNU ?apNA ?apNT ?z_int ?z_list ?z_len ?z_abs ?z_isinstance ?z_tuple ?z_all ?z_zip ?z_bool ?z_str ?z_range ?z_max ?z_sorted ?z_set ?gk ?ia ?il ?ik ?io ?iw
    (case a0 => k_is)
    (case l0 => k_is)
    (case c0 => k_is)
    (case k0 => k_is)
    (case a1 => k_is)
    (case l1 => k_is)
    (case c1 => k_is)
    (case k1 => k_is)
    (case a2 => k_is)
    (case l2 => k_is)
    (case c2 => k_is)
    (case k2 => k_is)
    (case a3 => k_is)
    (case l3 => k_is)
    (case c3 => k_is)
    (case k3 => k_is)
    (case a4 => k_is)
    (case l4 => k_is)
    (case c4 => k_is)
    (case k4 => k_is)
    (case a5 => k_is)
    (case l5 => k_is)
    (case c5 => k_is)
    (case k5 => k_is)
    (case a6 => k_is)
    (case l6 => k_is)
    (case c6 => k_is)
    (case k6 => k_is)
    (case a7 => k_is)
    (case l7 => k_is)
    (case c7 => k_is)
    (case k7 => k_is)
    (case a8 => k_is)
    (case l8 => k_is)
    (case c8 => k_is)
    (case k8 => k_is)
    (case a9 => k_is)
    (case l9 => k_is)
    (case c9 => k_is)
    (case k9 => k_is)
    (case a10 => k_is)
    (case l10 => k_is)
    (case c10 => k_is)
    (case k10 => k_is)
    (case a11 => k_is)
    (case l11 => k_is)
    (case c11 => k_is)
    (case k11 => k_is)
    (case a12 => k_is)
    (case l12 => k_is)
    (case c12 => k_is)
    (case k12 => k_is)
    (case a13 => k_is)
    (case l13 => k_is)
    (case c13 => k_is)
    (case k13 => k_is)
    (case a14 => k_is)
    (case l14 => k_is)
    (case c14 => k_is)
    (case k14 => k_is)
    (case a15 => k_is)
    (case l15 => k_is)
    (case c15 => k_is)
    (case k15 => k_is)
    (case a16 => k_is)
    (case l16 => k_is)
    (case c16 => k_is)
    (case k16 => k_is)
    (case a17 => k_is)
    (case l17 => k_is)
    (case c17 => k_is)
    (case k17 => k_is)
    (case a18 => k_is)
    (case l18 => k_is)
    (case c18 => k_is)
    (case k18 => k_is)
    (case a19 => k_is)
    (case l19 => k_is)
    (case c19 => k_is)
    (case k19 => k_is)
    (case a20 => k_is)
    (case l20 => k_is)
    (case c20 => k_is)
    (case k20 => k_is)
    (case a21 => k_is)
    (case l21 => k_is)
    (case c21 => k_is)
    (case k21 => k_is)
    (case a22 => k_is)
    (case l22 => k_is)
    (case c22 => k_is)
    (case k22 => k_is)
    (case a23 => k_is)
    (case l23 => k_is)
    (case c23 => k_is)
    (case k23 => k_is)
    (case a24 => k_is)
    (case l24 => k_is)
    (case c24 => k_is)
    (case k24 => k_is)
    (case a25 => k_is)
    (case l25 => k_is)
    (case c25 => k_is)
    (case k25 => k_is)
    (case a26 => k_is)
    (case l26 => k_is)
    (case c26 => k_is)
    (case k26 => k_is)
    (case a27 => k_is)
    (case l27 => k_is)
    (case c27 => k_is)
    (case k27 => k_is)
    (case ra => k_is)
    (case rm1 => k_is)
    (case ma0 => k_is)
    (case mf0 => k_is)
    (case lm0 => k_is)
    (case cm0 => k_is)
    (case km0 => k_is)
    (case ma1 => k_is)
    (case mf1 => k_is)
    (case lm1 => k_is)
    (case cm1 => k_is)
    (case km1 => k_is)
    (case ma2 => k_is)
    (case mf2 => k_is)
    (case lm2 => k_is)
    (case cm2 => k_is)
    (case km2 => k_is)
    (case ma3 => k_is)
    (case mf3 => k_is)
    (case lm3 => k_is)
    (case cm3 => k_is)
    (case km3 => k_is)
    (case lgi => k_is)
    (case cgi => k_is)
    (case kgi => k_is)
    (case rd0 => k_is)
    (case rd1 => k_is)
    (case rc0 => k_is)
    (case rc1 => k_is)
    (case rc2 => k_is)
    (case rc3 => k_is)
    (case rn0 => k_is)
    (case rn1 => k_is)
    (case rn2 => k_is)
    (case rt0 => k_is)
    (case rt1 => k_is)
    (case rt2 => k_is)
    (case rt3 => k_is)
    (case rm0 => k_is)
    (case rm2 => k_is)
    (case rm3 => k_is)
    (case ro_NoneType => first | k_is | rfl | decide +kernel)
    (case ro_bool => first | k_is | rfl | decide +kernel)
    (case ro_int => first | k_is | rfl | decide +kernel)
    (case ro_str => first | k_is | rfl | decide +kernel)
    (case ro_list => first | k_is | rfl | decide +kernel)
    (case ro_dict => first | k_is | rfl | decide +kernel)
    (case ro_tuple => first | k_is | rfl | decide +kernel)
    (case rk0 => first | k_is | rfl | decide +kernel)
    (case rk1 => first | k_is | rfl | decide +kernel)
    (case xaR => k_is)
    (case xmR => kx_is)
    (case xoR => kx_is)
    (case xhR => k_is)
    (case xsR => k_is)
    (case xeR => k_is)
    (case xtR => k_is)
    (case xkR => k_is)
    (case xgR => k_is)
    (case xqR => k_is)
    (case xiR => k_is)
    (case xfR => k_is)
    (case lxR => k_is)
    (case cxR => k_is)
    (case kxR => k_is)
    (case xnR => k_is)
    (case xzR => k_is)
    (case xyRat => k_is)
    (case xaU => k_is)
    (case xmU => kx_is)
    (case xoU => kx_is)
    (case xhU => k_is)
    (case xsU => k_is)
    (case xeU => k_is)
    (case xtU => k_is)
    (case xkU => k_is)
    (case xgU => k_is)
    (case xqU => k_is)
    (case xiU => k_is)
    (case xfU => k_is)
    (case lxU => k_is)
    (case cxU => k_is)
    (case kxU => k_is)
    (case xnU => k_is)
    (case xzU => k_is)
    (case xyUkey => k_is)
    (case xaA => k_is)
    (case xmA => kx_is)
    (case xoA => kx_is)
    (case xhA => k_is)
    (case xsA => k_is)
    (case xeA => k_is)
    (case xtA => k_is)
    (case xkA => k_is)
    (case xgA => k_is)
    (case xqA => k_is)
    (case xiA => k_is)
    (case xfA => k_is)
    (case lxA => k_is)
    (case cxA => k_is)
    (case kxA => k_is)
    (case xnA => k_is)
    (case xzA => k_is)
    (case xyAkey => k_is)
    (case xaT => k_is)
    (case xmT => kx_is)
    (case xoT => kx_is)
    (case xhT => k_is)
    (case xsT => k_is)
    (case xeT => k_is)
    (case xtT => k_is)
    (case xkT => k_is)
    (case xgT => k_is)
    (case xqT => k_is)
    (case xiT => k_is)
    (case xfT => k_is)
    (case lxT => k_is)
    (case cxT => k_is)
    (case kxT => k_is)
    (case xnT => k_is)
    (case xzT => k_is)
    (case xyTwhat => k_is)
    (case xyTcount => k_is)
    (case xaN => k_is)
    (case xmN => kx_is)
    (case xoN => kx_is)
    (case xhN => k_is)
    (case xsN => k_is)
    (case xeN => k_is)
    (case xtN => k_is)
    (case xkN => k_is)
    (case xgN => k_is)
    (case xqN => k_is)
    (case xiN => k_is)
    (case xfN => k_is)
    (case lxN => k_is)
    (case cxN => k_is)
    (case kxN => k_is)
    (case xnN => k_is)
    (case xzN => k_is)
    (case xyNkey => k_is)
    (case xyNneighbour => k_is)
    (case apUR => k_is)
    (case apAR => k_is)
    (case apAU => k_is)
    (case apTR => k_is)
    (case apTU => k_is)
    (case apTA => k_is)
    (case apNR => k_is)
    (case apNU => k_is)
    (case apNA => k_is)
    (case apNT => k_is)
    (case z_int => k_is)
    (case z_list => k_is)
    (case z_len => k_is)
    (case z_abs => k_is)
    (case z_isinstance => k_is)
    (case z_tuple => k_is)
    (case z_all => k_is)
    (case z_zip => k_is)
    (case z_bool => k_is)
    (case z_str => k_is)
    (case z_range => k_is)
    (case z_max => k_is)
    (case z_sorted => k_is)
    (case z_set => k_is)
    (case gk => k_is)
    (case ia => k_is)
    (case il => k_is)
    (case ik => exact (by repeat (first | exact True.intro | refine ⟨⟨_, _, rfl, rfl⟩, ?_⟩)))
    (case io => rfl)
    (case iw => k_is)

end
