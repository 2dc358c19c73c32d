import PyProof.Rows.All
import Wide.All
import OpenK.AllK
import Wide.FinOn
import KE.KExcPX
import KE.KExcInit
import HandS.Base
import HandS.Call
import HandS.List
import HandS.Ends
import HandS.Exc
import HandS.ExcInit
import HandS.Words
import HandS.WordsExc
import HandS.Wide
import HandS.WordsList
import HandS.Comp
import HandS.Iter
import HandS.Zip
import HandS.IsInst
import HandS.DeepEq
import HandS.ExcField
import HandS.ExcOwn
import HandS.More
import HandS.MakeKwOnly
import PyProof.ReprRoads
import HandS.Text
import HandS.Style
import HandS.Strs
import PyProof.StrLawsRepr
import PySem.Challenge.RW_shapebetween_k01_limits_told
import KE.KExcLine
import HandS.ExcIs
section
set_option Elab.async false
set_option linter.all false
set_option maxRecDepth 100000
set_option maxHeartbeats 4000000
/-! try with several clauses `except C as n`; own exception classes over any base. -/
namespace SB
open PySem PySem.Spec PyProof.Rows L2

/-- clauses, each with a name: what is wished of an exception, clause by clause -/
inductive Clauses (X : Cx) (D : Ends) (Wout : WX) : List ExceptHandler → WX → Prop
  | done : Clauses X D Wout [] Wout
  | more {x n : Str} {c : Value} {i : Nat} {ts : Addr → Value → Option Addr → TS} {b₀ : Stmt} {suite : List Stmt} {np pc : Pos} {rest : List ExceptHandler} {W : WX}
      (hi : X.N[i]? = some n) (hl : X.env.kindOf n = some .local) (hc : Names X x c)
      (hs : ∀ (a : Addr) (oe : Obj) (cls : Value) (d : Option Addr) (pn : List (Addr × Obj)), Zc cls d oe → (∃ vs, oe.data = .fields vs) → PSs (X.suite a ((a, oe) :: pn)) (b₀ :: suite) (ts a cls d))
      (r : Clauses X D Wout rest W) : Clauses X D Wout (.ExceptHandler (some (.Name x np)) (some n) (b₀ :: suite) pc :: rest) (wAs X.K c i ts W D)

section
variable {X : Cx} {body : List Stmt} {h₀ : ExceptHandler} {hds : List ExceptHandler} {pos : Pos} {tb : WX → TS} {Wout : WX}

/-- the exception at a, seen by the clauses that are left -/
theorem clauses_run {D : Ends} {pins : List (Addr × Obj)} {a : Addr} {B : Heap} {cls : Value} {d : Option Addr} {sI s' : Shared} {σ : L2.St} {H : Hp}
    (hst : X.stack = X.env :: X.outer) (hf : X.env.frame = some X.env.locals) (hN : X.N.Nodup) (tk : Takes X Wout) (J : Inv X pins σ H sI)
    (nb : ∀ b o, sI.heap.get? b = some o → b ∉ frs X.stack → B.get? b = some o) (os : s'.os = sI.os) (ag : AllBare s'.gens) (na : H a = none) :
    ∀ {hs : List ExceptHandler} {W : WX}, Clauses X D Wout hs W → ∀ h3 : Heap, HandSPX.FlyingZ B (X.env :: X.outer) a (Zc cls d) h3 → sI.heap.UpToSlots h3 → W cls d σ H →
      wpAny (model X.prog X.w) X.A (handleBy (.ref a) X.env hs) (SP X pins D) X.xe { s' with heap := h3 } := by
  intro hs W hk
  induction hk with
  | done =>
    intro h3 fl up w
    refine PX.no_clauseZ (B := B) (outer := X.outer) (Z := Zc cls d) hf fl fun h4 hh up4 => tk _ _ ?_
    exact ⟨a, B, sI, pins, σ, H, cls, d, rfl, J, nb, up.trans up4, .inr (.inr (by rw [hst]; exact hh)), na, os, ag, w⟩
  | @more x n c i ts b₀ suite np pc rest W hi hl hc hsu r ih =>
    intro h3 fl up w
    obtain ⟨b, hb, yes, no⟩ := w
    have ok := J.ok
    have J3 : Inv X pins σ H { s' with heap := h3 } := J.landed nb fl.1 up os ag
    obtain ⟨oe, vs, he, hz, hd⟩ := fl.there
    have out : a ∉ frs (X.env :: X.outer) := fun hm => by
      obtain ⟨_, o', e', hnf⟩ := fl.2.2.1.mem hm
      rw [he] at e'
      cases e'
      exact hnf _ hd
    have nL : a ≠ X.env.locals := fun z => out (List.mem_filterMap.mpr ⟨X.env, List.mem_cons_self, by rw [hf, z]⟩)
    have nF : a ∉ X.fs := fun hm => by
      obtain ⟨e, h1, h2⟩ := List.mem_filterMap.mp hm
      exact out (List.mem_filterMap.mpr ⟨e, List.mem_cons_of_mem _ h1, h2⟩)
    have S3 := J3.suite he hd na nL nF
    have asked : ∀ {Q' : Value → Shared → Prop} {E' : Value → Shared → Prop}, Q' c { s' with heap := h3 } → wpAny (model X.prog X.w) (X.A.mark (some (.ref a))) (eval (.Name x np) X.env) Q' E' { s' with heap := h3 } := fun {Q' E'} q => by
      obtain ⟨hg, hdb, hm | ⟨hm, hv, hnn⟩⟩ := hc
      · exact ld_glob (X := X.suite a ((a, oe) :: (X.pn ++ pins))) S3 hg hm q hdb
      · exact ld_blt (X := X.suite a ((a, oe) :: (X.pn ++ pins))) S3 hg hm hv q hnn hdb
    cases b with
    | false => exact PX.clause_passZ (B := B) (outer := X.outer) (Z := Zc cls d) J3.kIn (fun o z => z.1) fl hb asked (ih h3 fl up (no rfl))
    | true =>
      refine PX.clause_asZ (B := B) (outer := X.outer) (Z := Zc cls d) J3.kIn (fun o z => z.1) fl hb asked fun h4 fl4 up4 => ?_
      have J4 : Inv X pins σ H { s' with heap := h4 } := J.landed nb fl4.1 (up.trans up4) os ag
      obtain ⟨oe4, vs4, he4, hz4, hd4⟩ := HandSPX.FlyingZ.there fl4
      have S4 := J4.suite he4 hd4 na nL nF
      refine store_ok (X := X.suite a ((a, oe4) :: (X.pn ++ pins))) (v := .ref a) S4 hN hi (.inl hl) rfl (fun s5 S5 => ?_) (.inr hl)
      refine wpAny_mono ((hsu a oe4 cls d (X.pn ++ pins) hz4 ⟨_, hd4⟩).run [] s5 _ H _ S5 (yes rfl a na)) (fun f s6 hsp => ?_) (fun _ _ z => False.elim z)
      have gone : ∀ {σ6 : L2.St} {H6 : Hp} {Q : Shared → Prop}, Inv (X.suite a ((a, oe4) :: (X.pn ++ pins))) [] σ6 H6 s6 → (∀ s7, Inv X pins (σ6.set i none) H6 s7 → Q s7) →
          wpAny (model X.prog X.w) X.A (do bindName X.env n .none; unbindBehindTheSuite X.env n pc) (fun _ s7 => Q s7) X.xe s6 := fun S6 hq => gone_ok (S6.unsuite ok) hN hi hl hq
      cases f with
      | next => exact let ⟨σ6, H6, S6, q6⟩ := hsp; gone S6 fun s7 J7 => ⟨_, _, J7, q6⟩
      | brk => exact let ⟨σ6, H6, S6, q6⟩ := hsp; gone S6 fun s7 J7 => ⟨_, _, J7, q6⟩
      | cont => exact let ⟨σ6, H6, S6, q6⟩ := hsp; gone S6 fun s7 J7 => ⟨_, _, J7, q6⟩
      | ret u => exact let ⟨v6, σ6, H6, S6, r6, q6⟩ := hsp; gone S6 fun s7 J7 => ⟨_, _, _, J7, r6, q6⟩

/-- try: body except A as n: .. except B as n: .. -/
theorem ps_try_clauses (hst : X.stack = X.env :: X.outer) (hf : X.env.frame = some X.env.locals) (hN : X.N.Nodup) (tk : Takes X Wout) {wW : Ends → WX}
    (hb : ∀ (W : WX) (pn : List (Addr × Obj)) (xe : Value → Shared → Prop), Takes (X.tr pn xe) W → PassesOwn (model X.prog X.w) X.A X.env xe → PSs (X.tr pn xe) body (tb W))
    (hh : ∀ D, Clauses X D Wout (h₀ :: hds) (wW D)) : PS X (.Try body (h₀ :: hds) [] [] pos) (fun D σ H => tb (wW D) D σ H) := by
  refine ⟨fun pins s σ H D I h => ?_⟩
  have ok := I.ok
  have hfr : X.A.frames = some (X.env :: X.outer) := ok.frames.trans (congrArg some hst)
  refine wpAny_Try_except (wpAny_mono ((hb (wW D) (X.pn ++ pins) (fun e s₁ => wpAny (model X.prog X.w) X.A (noteFrame e X.env) (fun _ s₂ => wpAny (model X.prog X.w) X.A (setFlight e none)
    (fun _ s₃ => wpAny (model X.prog X.w) X.A (handleBy e X.env (h₀ :: hds)) (SP X pins D) X.xe s₃) X.xe s₂) X.xe s₁) (fun u s' xx => ?_) PassesOwn.looking).run [] s σ H D (I.toTry _) h) (fun f s1 hsp => ?_) fun e s1 he => he)
  · obtain ⟨a, B, sI, pins', σ', H', cls, d, rfl, J', nb, up, sky, na, os, ag, w⟩ := xx
    have J : Inv X pins σ' H' sI := J'.ofTry ok
    have sk : Sky B (X.env :: X.outer) a (Zc cls d) X.env.locals s'.heap := hst ▸ sky
    exact Sky.land Zc.steady hfr hf sk fun h3 fl3 up3 => clauses_run hst hf hN tk J nb os ag na (hh D) h3 fl3 (up.trans up3) w
  · cases f with
    | next => exact let ⟨σ', H', J', q⟩ := hsp; wpAny_execs_nil ⟨σ', H', J'.ofTry ok, q⟩
    | brk => exact let ⟨σ', H', J', q⟩ := hsp; ⟨σ', H', J'.ofTry ok, q⟩
    | cont => exact let ⟨σ', H', J', q⟩ := hsp; ⟨σ', H', J'.ofTry ok, q⟩
    | ret u => exact let ⟨v, σ', H', J', r, q⟩ := hsp; ⟨v, σ', H', J'.ofTry ok, r, q⟩
end
end SB

end

section
set_option Elab.async false
set_option linter.all false
set_option maxRecDepth 100000
set_option maxHeartbeats 4000000
/-! own exception classes over a built-in base, whose __init__ stores fields. -/
namespace SB
open PySem PySem.Spec PyProof.Rows L2

section
open PySem.W PySem.Calls Builtin Builtin.ObjectAttr
variable {prog : Program} {w : World} {A : Around} {E : Value → Shared → Prop} {R : Result → Shared → Prop} {hp : Heap} {g : Array GenState} {d : Drawn} {t : Nat} {os : OsState} {B : String} {bmB : List Value}
/-- the first field that is stored: the exception gets its dict -/
theorem put_first {K : W.Frag} {name : Str} {tk : Tok} {v : Value} {x C : Addr} {fv : Array Value} (SF : StoreFacts B bmB "object.__setattr__" "object") (X : K.In hp) (hx : hp.get? x = some { cls := .ref C, data := .fields fv })
    (ov : W.excOver K C bmB = true) (hdc : W.hasDictIn K C = true) (ha : W.takerIn K C name = some none)
    (hq : ∀ h' tk' dx, (∀ b o, b ≠ x → hp.get? b = some o → h'.get? b = some o) → hp.objs.size ≤ dx → dx ≠ x → h'.get? x = some { cls := .ref C, dict := some dx, data := .fields fv } →
      h'.Ns1 dx (fun y => if y = name then some v else none) → R (.ok (.ret .none)) ⟨h', g, d, tk', os⟩) :
    codeAny (model prog w) A (.call (.builtin "object.__setattr__") ⟨[.ref x, .str name tk, v], []⟩) R ⟨hp, g, d, t, os⟩ := by
  have I : W.InstAt hp x { cls := .ref C, data := .fields fv } C none := ⟨hx, rfl, rfl, trivial⟩
  have apart : x ≠ hp.objs.size := Nat.ne_of_lt (Heap.lt_size hx)
  refine W.osa_openX (s := ⟨hp, g, d, t, os⟩) SF X I ov ha fun b => ?_
  obtain ⟨cd, hcd, hh⟩ := W.any_some hdc
  have known : W.Looks (model prog w) hp (classData C) cd := W.looks_clsIn X hcd
  obtain ⟨nm, bs, mro, ns, qn, hdd, sn, sb, ab, col, del⟩ := cd
  dsimp only at hh
  subst hh
  unfold storeInOwnDict ownDictForStores
  repeat (first | with_reducible refine HandSPX.store_in_new ?_ ?_ | with_reducible refine wpAny_loadPart_at hx ?_ | with_reducible refine known.at ?_ | wp_step)
  · exact ⟨_, #[], _, (Heap.get?_update_ne _ _ _ _ apart.symm).trans (Heap.get?_push_at rfl rfl), rfl, fun e he => absurd he (by simp), fun _ => rfl⟩
  · intro h' tk' hn' hs
    have there : (hp.push { cls := .type "dict", data := .dict #[] }).get? x = some { cls := .ref C, data := .fields fv } := Heap.get?_push_of_some _ hx
    refine hq h' tk' hp.objs.size (fun b o hb ho => ?_) (Nat.le_refl _) apart.symm ?_ hn'
    · exact (hs.2 b (Nat.ne_of_lt (Heap.lt_size ho))).trans ((Heap.get?_update_ne _ _ _ _ hb).trans (Heap.get?_push_of_some _ ho))
    · exact (hs.2 x apart).trans (Heap.get?_update_self _ there rfl)
/-- a further field -/
theorem put_more {K : W.Frag} {name : Str} {tk : Tok} {v : Value} {x C dx : Addr} {fv : Array Value} {m0 : Str → Option Value} {nl : List Str} (SF : StoreFacts B bmB "object.__setattr__" "object")
    (X : K.In hp) (hx : hp.get? x = some { cls := .ref C, dict := some dx, data := .fields fv }) (hns : hp.Ns1 dx m0) (hw : Within m0 nl) (hz : nl.length ≤ 1000)
    (ov : W.excOver K C bmB = true) (hdc : W.hasDictIn K C = true) (ha : W.takerIn K C name = some none)
    (hq : ∀ h' tk', (∀ b o, b ≠ dx → hp.get? b = some o → h'.get? b = some o) → h'.Ns1 dx (fun y => if y = name then some v else m0 y) → R (.ok (.ret .none)) ⟨h', g, d, tk', os⟩) :
    codeAny (model prog w) A (.call (.builtin "object.__setattr__") ⟨[.ref x, .str name tk, v], []⟩) R ⟨hp, g, d, t, os⟩ := by
  obtain ⟨oD, esD, epD, hoD, hdD, _⟩ := hns.count hw
  have I : W.InstAt hp x { cls := .ref C, dict := some dx, data := .fields fv } C (some oD) := ⟨hx, rfl, rfl, hoD⟩
  refine W.osa_openX (s := ⟨hp, g, d, t, os⟩) SF X I ov ha fun b => ?_
  obtain ⟨cd, hcd, hh⟩ := W.any_some hdc
  have known : W.Looks (model prog w) hp (classData C) cd := W.looks_clsIn X hcd
  obtain ⟨nm, bs, mro, ns, qn, hdd, sn, sb, ab, col, del⟩ := cd
  dsimp only at hh
  subst hh
  unfold storeInOwnDict ownDictForStores
  repeat (first | with_reducible refine OEX.store_in_old hns hw hz ?_ | with_reducible refine wpAny_loadPart_at hx ?_ | with_reducible refine known.at ?_ | wp_step)
  intro h' tk' hn' hs
  exact hq h' tk' (fun b o hb ho => (hs.2 b hb).trans ho) hn'
end

/-- what the written part says of an exception class of the text -/
structure ExCls (K : PySem.W.Frag) (C : Addr) (bmB : List Value) (newId : String) : Prop where
  made : PySem.W.excInitIn K C bmB newId = true
  over : PySem.W.excOver K C bmB = true
  hd : PySem.W.hasDictIn K C = true
  sa : PySem.W.findIn K (.ref C) "__setattr__" = some (some (.builtin "object.__setattr__"))
  exC : PySem.W.subIn K (.ref C) (.type "BaseException") = some true
  tyC : PySem.W.typeIn K (.ref C) = some (.type "type")
  kC : PySem.W.keepIn K (.ref C) = true

/-- self.f = e in an exception's __init__ -/
def tPut (K : PySem.W.Frag) (C : Addr) (f : Str) (to te : TE) : TS := fun D σ H => te σ H fun y H1 => to σ H1 fun x H2 => ∃ a : Addr, x = .ref a ∧
  ((H2 a = some (exo a C none) ∧ ∀ dx, H2 dx = none → dx ≠ a → D.nx σ (upd (upd H2 dx (exd dx [(f, y)])) a (exo a C (some dx)))) ∨
    ∃ (dx : Addr) (fs : List (Str × V)), H2 a = some (exo a C (some dx)) ∧ H2 dx = some (exd dx fs) ∧ fs.length ≤ 900 ∧ D.nx σ (upd H2 dx (exd dx ((f, y) :: fs))))

section
variable {X : Cx} {o e : Expr} {es : List Expr} {to te : TE} {ta : TA} {f : Str} {p p' pos : Pos} {C : Addr} {B newId initId : String} {bmB : List Value}
theorem ps_put (SF : StoreFacts B bmB "object.__setattr__" "object") (T : ExCls X.K C bmB newId) (hno : PySem.W.findIn X.K (.ref C) f = some none) (ho : PE X o to) (he : PE X e te)
    (hs : swapsWith e (some (.Attribute o f p')) pos.line X.env = pure false := by rfl) : PS X (.Assign [.Attribute o f p'] e pos) (tPut X.K C f to te) := by
  refine ⟨fun pins s σ H D I h => ?_⟩
  refine plainObj_wpAny_Assign_Attribute (thn (he.run pins s σ H _ I h) fun v s1 ⟨y, H1, I1, r1, q1⟩ => thn (ho.run pins s1 σ H1 _ I1 q1) fun u s2 ⟨x, H2, I2, r2, a, ex, q⟩ => ?_) hs
  subst ex
  obtain rfl : u = Value.ref a := r2
  have tkr : PySem.W.takerIn X.K C f = some none := NoAttr.taker hno
  rcases q with ⟨ea, q⟩ | ⟨dx, fs, ea, ed, hl, q⟩
  · obtain ⟨t1, hat⟩ := exo_at I2.hok ea
    obtain ⟨hp, g, d, t, os⟩ := s2
    refine PySem.W.set_plain I2.kIn (ox := { cls := .ref C, dict := none, data := .fields #[.ref t1, .none, .none, .none, .bool false, .none] }) (od := none) ⟨hat, rfl, rfl, trivial⟩ T.sa ?_
    refine put_first SF I2.kIn hat T.over T.hd tkr fun h' tk' dx k dn dne hx hn => ?_
    have free : H2 dx = none := I2.hok.fresh dn
    have old : ∀ {b : Addr} {o : Obj}, hp.get? b = some o → b ≠ dx := fun q => Nat.ne_of_lt (Nat.lt_of_lt_of_le (Heap.lt_size q) dn)
    have no : ∀ {b : Addr}, H2 b = none → b ≠ a := fun n z => by rw [z, ea] at n; cases n
    have U : Un X.fs [] H2 (upd (upd H2 dx (exd dx [(f, y)])) a (exo a C (some dx))) hp h' := {
      keep := fun b o q n _ _ => k b o (no n) q
      slot := fun b o q n _ _ => ⟨o.slots, k b o (no n) q⟩
      free := fun b o q n _ => by rw [upd_ne (no n), upd_ne (old q)]; exact n
      there := fun b o q _ => by
        by_cases hb : b = a
        · subst hb
          exact ⟨_, hx⟩
        · exact ⟨o, k b o hb q⟩
      tups := fun b xs q => by rw [upd_ne (at_ne ea q exo_tup), upd_ne (ne_of_none q free)]; exact q
      frzs := fun b o v q => by rw [upd_ne (at_ne ea q exo_frz), upd_ne (ne_of_none q free)]; exact q
      tbls := fun b ps q => ⟨#[], by rw [upd_ne (at_ne ea q exo_tbl), upd_ne (ne_of_none q free), q]; simp⟩ }
    refine ⟨σ, _, I2.un (t' := tk') U fun b o q' => ?_, q dx free dne⟩
    by_cases hb : b = a
    · subst hb
      rw [upd_same] at q'
      cases q'
      exact exo_ok hx
    · rw [upd_ne hb] at q'
      by_cases hdd : b = dx
      · subst hdd
        rw [upd_same] at q'
        cases q'
        exact exd_ok hn (relO_put (fs := []) r1 fun g => True.intro)
      · rw [upd_ne hdd] at q'
        refine (I2.hok b o q').stay (fun c v hc z => k c v (hc.elim (fun hc => by rw [hc]; exact hb) fun hc => at_ne ea hc exo_own) z) (fun c hc => ?_) (fun c xs hc => ?_)
        · rw [upd_ne (at_ne ea hc exo_own), upd_ne (ne_of_none hc free)]; exact hc
        · rw [upd_ne (at_ne ea hc exo_tup), upd_ne (ne_of_none hc free)]; exact hc
  · obtain ⟨t1, hat⟩ := exo_at I2.hok ea
    obtain ⟨mA, hns, rel⟩ := exd_at I2.hok ed
    have hw := within_of rel
    obtain ⟨hp, g, d, t, os⟩ := s2
    obtain ⟨oD, _, _, hoD, _, _⟩ := hns.count hw
    refine PySem.W.set_plain I2.kIn (ox := { cls := .ref C, dict := some dx, data := .fields #[.ref t1, .none, .none, .none, .bool false, .none] }) (od := some oD) ⟨hat, rfl, rfl, hoD⟩ T.sa ?_
    refine put_more SF I2.kIn hat hns hw (by rw [List.length_map]; omega) T.over T.hd tkr fun h' tk' k hn => ?_
    have hdx : ∃ o, h'.get? dx = some o := let ⟨o, _, _, e', _⟩ := hn; ⟨o, e'⟩
    exact ⟨σ, _, I2.write (t' := tk') (x := dx) (e := dx) (o := exd dx ((f, y) :: fs)) (by rw [ed]; exact True.intro) (.inl rfl) k hdx (exd_ok hn (relO_put r1 rel)), q⟩

/-- C(e, ..), to be raised: C's own __init__ keeps sp -/
theorem pmk_exg {CX : CXT} {x : Str} {fI : Addr} {k : Nat} {fd : FuncData} {ps : List Str} {sp : Sp} {ds : List Value} {dvs : List V} (FB : ExcBaseFacts B newId initId bmB) (T : ExCls X.K C bmB newId)
    (iC : PySem.W.findIn X.K (.ref C) "__init__" = some (some (.ref fI))) (tI : PySem.W.typeIn X.K (.ref fI) = some (.type "function"))
    (F1 : FnOk X.prog X.w X.K X.mg X.base CX k fI fd ps sp) (hr : Room (k + 1) X.A) (hb : Binds X.K fd ps ds) (hd : Vals dvs ds) (hx : Passes CX X (fun _ _ _ => False)) (hg : Gl X x) (hm : X.mg x = some (.ref C)) (ha : PA X (e :: es) ta)
    (hdb : (x == ("__debug__" : Str)) = false := by decide) (he : starEach (e :: es) X.env = (false, eval e X.env) :: starEach es X.env := by rfl) (hpl : (backTo pos (starEach es X.env)).any (·.1) = false := by rfl) :
    PMk X (.Call (.Name x p) (e :: es) [] pos) (tMkO C sp dvs ta) := by
  intro pins s σ H Q I h
  refine wpAny_Call_Name_kw (ld_glob I hg hm ?_ hdb)
  refine PySem.W.callWith_K (h₀ := X.base) I.ok.mod.kin T.kC (thn (ha.run pos pins s σ H _ I h) fun us s1 ⟨vs, H1, I1, r1, hz, q1⟩ => ⟨I1.kIn, ?_⟩) he hpl
  show wpAny _ _ (call (.ref C) us) _ _ _
  obtain ⟨hp, g, dr, tk, os⟩ := s1
  obtain ⟨nm, N, qn, bs, bm, hdct, sn, sub, ab, col, dd, k0, k1, k2, k3, k5, hC, hbm⟩ := PySem.W.excInit_of I1.kIn T.made
  have grow : hp.objs.size ≤ hp.objs.size + 1 := Nat.le_succ _
  have hn : H1 (hp.objs.size + 1) = none := I1.hok.fresh grow
  have hq := q1 (hp.objs.size + 1) hn
  have keep2 : ∀ b o, hp.get? b = some o → ((hp.push (PySem.W.kdv_tup us)).push (PySem.HandSPX.excO C hp.objs.size)).get? b = some o := fun b o e => Heap.get?_push_of_some _ (Heap.get?_push_of_some _ e)
  have new : ((hp.push (PySem.W.kdv_tup us)).push (PySem.HandSPX.excO C hp.objs.size)).get? (hp.objs.size + 1) = some (PySem.HandSPX.excO C hp.objs.size) := by heap_get
  have I2 := I1.laid (t' := tk) (a := hp.objs.size + 1) (o := exo (hp.objs.size + 1) C none) keep2 grow (exo_ok new)
  have r2 : Vals (V.ref (hp.objs.size + 1) :: (vs ++ dvs)) (Value.ref (hp.objs.size + 1) :: (us ++ ds)) := .cons rfl (r1.append hd)
  have hl : (Value.ref (hp.objs.size + 1) :: us ++ ds).length = ps.length := (r2.length.symm.trans (F1.len _ _ _ _ hq))
  have hus : us.length ≤ sizeLine := by rw [← Paired.length r1, sizeLine_eq]; omega
  refine wpAny_call (PySem.HandSPX.call_own FB hbm hC (PySem.W.looks_findIn I1.kIn iC) (fun self => PySem.W.bind_fn I1.kIn self tI) hus
    (codeAny_mono (F1.run _ X.stack _ _ ⟨Value.ref (hp.objs.size + 1) :: us, []⟩ (Value.ref (hp.objs.size + 1) :: (us ++ ds)) _ _ (fun _ _ _ => False) (hr.make C us []) (I2.env0.make C us []) (hb _ (Value.ref (hp.objs.size + 1) :: us) I2.kIn hl) r2 hq) fun r s' hq' => ?_))
  cases r with
  | error er => exact hx pins σ _ _ er s' I2 hq'
  | ok fl =>
    cases fl with
    | ret u =>
      obtain ⟨v, H2, os2, bare2, un2, hok2, rv, ev, d, fs, ea, ed, hd1, q2⟩ := hq'
      subst ev
      obtain ⟨h2, g2, d2, t2, os'⟩ := s'
      exact ⟨rv, mk_end (raises_own T.exC T.tyC) I1 grow keep2 un2 hok2 os2 bare2 ea ed hd1 q2⟩
    | next => exact False.elim hq'
    | brk => exact False.elim hq'
    | cont => exact False.elim hq'
end
end SB

end

section
set_option Elab.async false
set_option linter.all false
set_option maxRecDepth 100000
set_option maxHeartbeats 4000000
/-! cuts: an assertion between two parts; what the drawing defs of a law promise. -/
namespace SB
open PySem PySem.Spec PyProof.Rows L2
section
variable {X : Cx} {st : Stmt} {rest sts : List Stmt} {e : Expr} {t u : TS} {te : TE} {tt : TT}
def tCut (t u : TS) : TS := fun D σ H => ∃ P : L2.St → Hp → Prop, t { D with nx := P } σ H ∧ ∀ σ' H', P σ' H' → u D σ' H'
/-- a block, an assertion behind its first statement -/
theorem pss_cut (h1 : PS X st t) (h2 : PSs X rest u) : PSs X (st :: rest) (tCut t u) := by
  refine ⟨fun pins s σ H D I ⟨P, h, k⟩ => ?_⟩
  refine wpAny_execs_cons (thn (h1.run pins s σ H { D with nx := P } I h) fun f s1 q => ?_)
  cases f with
  | next => exact let ⟨σ', H', I', q⟩ := q; h2.run pins s1 σ' H' D I' (k σ' H' q)
  | ret v => exact q
  | brk => exact q
  | cont => exact q
def eCut (t : TE) : TE := fun σ H Q => ∃ P : V → Hp → Prop, t σ H P ∧ ∀ v H', P v H' → Q v H'
/-- an expression, what it gives said by an assertion -/
theorem pe_cut (h : PE X e te) : PE X e (eCut te) :=
  ⟨fun pins s σ H Q I ⟨P, h1, k⟩ => thn (h.run pins s σ H P I h1) fun _ _ ⟨v, H', I', r, q⟩ => ⟨v, H', I', r, k v H' q⟩⟩
def bCut (t : TT) : TT := fun σ H Q => ∃ P : Bool → Hp → Prop, t σ H P ∧ ∀ v H', P v H' → Q v H'
theorem pt_cut (h : PT X e tt) : PT X e (bCut tt) :=
  ⟨fun pins s σ H Q I ⟨P, h1, k⟩ => thn (h.run pins s σ H P I h1) fun _ _ ⟨H', I', q⟩ => ⟨H', I', k _ H' q⟩⟩
end

/-- all that stood but what stands at b is as it was -/
def Keep (b : Addr) (H H' : Hp) : Prop := ∀ c o, H c = some o → c ≠ b → H' c = some o
theorem Keep.refl (b : Addr) (H : Hp) : Keep b H H := fun _ _ e _ => e
theorem Keep.trans {b : Addr} {H H1 H2 : Hp} (x : Keep b H H1) (y : Keep b H1 H2) : Keep b H H2 := fun c o e n => y c o (x c o e n) n
theorem Keep.upd {b : Addr} {H H1 : Hp} {o : HO} (x : Keep b H H1) : Keep b H (upd H1 b o) := fun c u e n => by rw [upd_ne n]; exact x c u e n
theorem Keep.new {b p : Addr} {H H1 : Hp} {o : HO} (x : Keep b H H1) (hp : H1 p = none) : Keep b H (L2.upd H1 p o) := fun c u e n => by rw [upd_ne (ne_of_none (x c u e n) hp)]; exact x c u e n
theorem Keep.same {b : Addr} {H H1 H2 : Hp} (x : Keep b H H1) (y : Same H1 H2) : Keep b H H2 := fun c o e n => y c o (x c o e n)
theorem Keep.ofSame {b : Addr} {H H1 : Hp} (y : Same H H1) : Keep b H H1 := fun c o e _ => y c o e
theorem Same.new {p : Addr} {H H1 : Hp} {o : HO} (x : Same H H1) (hp : H1 p = none) : Same H (L2.upd H1 p o) := fun c u e => by rw [upd_ne (ne_of_none (x c u e) hp)]; exact x c u e
/-- the bag of a law: its list of cells, the next one, the rest of a great cell, the mixed number, how many draws -/
def BagAt (H : Hp) (b : Addr) : Prop := ∃ (l : Addr) (ns : List Int) (i g m c : Int), H b = some (.lst [.ref l, .int i, .int g, .int m, .int c]) ∧ H l = some (.lst (ns.map V.int)) ∧ l ≠ b ∧ 0 ≤ i ∧ 0 ≤ g ∧ 0 ≤ m ∧ m < 2147483648
theorem BagAt.same {H H' : Hp} {b : Addr} (x : BagAt H b) (s : Same H H') : BagAt H' b := let ⟨l, ns, i, g, m, c, h1, h2, r⟩ := x; ⟨l, ns, i, g, m, c, s _ _ h1, s _ _ h2, r⟩
def spBag (K : PySem.W.Frag) : Sp := fun vs H Q _ => ∃ (a : Addr) (ns : List Int), vs = [.ref a] ∧ SqL K H a (ns.map V.int) ∧ ns.length ≤ 1000 ∧
  ∀ b H', H b = none → Same H H' → BagAt H' b → Q (.ref b) H'
def spDraw : Sp := fun vs H Q _ => ∃ (b : Addr) (top : Int), vs = [.ref b, .int top] ∧ BagAt H b ∧ 0 < top ∧ top.natAbs.log2 < 9000 ∧
  ∀ d H', 0 ≤ d → d < top → BagAt H' b → Keep b H H' → (∀ c, H c = none → H' c = none) → Q (.int d) H'
/-- one of the items of a list or a tuple -/
def spOf (K : PySem.W.Frag) : Sp := fun vs H Q _ => ∃ (b p : Addr) (xs : List V), vs = [.ref b, .ref p] ∧ BagAt H b ∧ p ≠ b ∧ (SqL K H p xs ∨ SqT K H p xs) ∧ 0 < xs.length ∧ xs.length < 2 ^ 62 ∧
  (∀ H', Keep b H H' → SqL K H p xs → SqL K H' p xs) ∧ (∀ H', Keep b H H' → SqT K H p xs → SqT K H' p xs) ∧
  ∀ v H', v ∈ xs → BagAt H' b → Keep b H H' → (∀ c, H c = none → H' c = none) → Q v H'
end SB

end

section
set_option Elab.async false
set_option linter.all false
set_option maxRecDepth 100000
set_option maxHeartbeats 4000000
namespace SB
open PySem PySem.Spec PyProof.Rows L2
/-- a list comprehension over any walk: an assertion by turns -/
theorem lc_walk {J : It} {n : Nat} {g : TG} {tt : TT} {te : TE} {vs : List Nat} {σ : L2.St} {H1 : Hp} {D : Addr} {Qd : Hp → Prop} (Pv : Nat → Hp → Prop) (h0 : Pv 0 (upd H1 D (.lst [])))
    (hgo : ∀ i H, i < n → Pv i H → J.go i H) (hst : ∀ H, Pv n H → J.stop n H)
    (hs : ∀ i x H H', i < n → Pv i H → J.yld i H x H' → g x (wipe σ vs) H' fun σ2 H2 => wipe σ2 vs = wipe σ vs ∧ tt σ2 H2 fun b H3 =>
      if b = true then te σ2 H3 fun y H4 => ∃ acc, H4 D = some (.lst acc) ∧ acc.length < sizeLine ∧ Pv (i + 1) (upd H4 D (.lst (acc ++ [y]))) else Pv (i + 1) H3)
    (hd : ∀ H, Pv n H → Qd H) :
    ∃ W : Nat → Nat → Hp → Prop, (∃ m, W 0 m (upd H1 D (.lst []))) ∧ ∀ i m H, W i m H →
      (J.stop i H ∧ Qd H) ∨ (J.go i H ∧ ∃ Nx : Hp → Prop, (∀ H', Nx H' → ∃ m', m' < m ∧ W (i + 1) m' H') ∧ ∀ x H', J.yld i H x H' → g x (wipe σ vs) H' fun σ2 H2 => wipe σ2 vs = wipe σ vs ∧ tt σ2 H2 fun b H3 =>
        if b = true then te σ2 H3 fun y H4 => ∃ acc, H4 D = some (.lst acc) ∧ acc.length < sizeLine ∧ Nx (upd H4 D (.lst (acc ++ [y]))) else Nx H3) := by
  refine ⟨fun i m H => i + m = n ∧ Pv i H, ⟨n, by omega, h0⟩, fun i m H ⟨e, p⟩ => ?_⟩
  cases m with
  | zero =>
    obtain rfl : i = n := by omega
    exact .inl ⟨hst H p, hd H p⟩
  | succ m => exact .inr ⟨hgo i H (by omega) p, Pv (i + 1), fun H' p' => ⟨m, by omega, by omega, p'⟩, fun x H' y => hs i x H H' (by omega) p y⟩

/-- values that `_law_same` finds to be the same, n levels deep -/
def Leaf (H : Hp) (x y : V) : Prop := (x = y ∧ flatV x = true) ∨ ∃ a kvs, x = .ref a ∧ y = .ref a ∧ H a = some (.dK kvs) ∧ ∀ p ∈ kvs, valV kvs p.1 = some p.2 ∧ flatB p.2 = true
def Alike (K : PySem.W.Frag) (H : Hp) : Nat → V → V → Prop
  | 0 => fun x y => Leaf H x y
  | n + 1 => fun x y => Leaf H x y ∨ (∃ a b xs ys, x = .ref a ∧ y = .ref b ∧ SqL K H a xs ∧ SqL K H b ys ∧ xs.length < sizeLine ∧ Paired (Alike K H n) xs ys) ∨
      ∃ a b xs ys, x = .ref a ∧ y = .ref b ∧ SqT K H a xs ∧ SqT K H b ys ∧ xs.length < sizeLine ∧ Paired (Alike K H n) xs ys
theorem sqT_same {K : PySem.W.Frag} {H H' : Hp} {a : Addr} {xs : List V} (e : Same H H') (h : SqT K H a xs) : SqT K H' a xs := by
  rcases h with h | h
  · rcases h with h | ⟨o, h⟩
    · exact .inl (.inl (e _ _ h))
    · exact .inl (.inr ⟨o, e _ _ h⟩)
  · exact .inr h
theorem paired_imp {α β : Type} {F G : α → β → Prop} (h : ∀ a b, F a b → G a b) : ∀ {xs : List α} {ys : List β}, Paired F xs ys → Paired G xs ys
  | _, _, .nil => .nil
  | _, _, .cons a t => .cons (h _ _ a) (paired_imp h t)
theorem Leaf.same {H H' : Hp} {x y : V} (s : Same H H') (h : Leaf H x y) : Leaf H' x y := by
  rcases h with h | ⟨a, kvs, h1, h2, h3, h4⟩
  · exact .inl h
  · exact .inr ⟨a, kvs, h1, h2, s _ _ h3, h4⟩
theorem Alike.same {K : PySem.W.Frag} {H H' : Hp} (s : Same H H') : ∀ {n : Nat} {x y : V}, Alike K H n x y → Alike K H' n x y
  | 0, x, y, h => Leaf.same s h
  | n + 1, x, y, h => by
    rcases h with h | ⟨a, b, xs, ys, e1, e2, h1, h2, hz, h3⟩ | ⟨a, b, xs, ys, e1, e2, h1, h2, hz, h3⟩
    · exact .inl (Leaf.same s h)
    · exact .inr (.inl ⟨a, b, xs, ys, e1, e2, s.seq h1, s.seq h2, hz, paired_imp (fun _ _ q => Alike.same s q) h3⟩)
    · exact .inr (.inr ⟨a, b, xs, ys, e1, e2, sqT_same s h1, sqT_same s h2, hz, paired_imp (fun _ _ q => Alike.same s q) h3⟩)
theorem Alike.succ {K : PySem.W.Frag} {H : Hp} : ∀ {n : Nat} {x y : V}, Alike K H n x y → Alike K H (n + 1) x y
  | 0, x, y, h => .inl h
  | n + 1, x, y, h => by
    rcases h with h | ⟨a, b, xs, ys, e1, e2, h1, h2, hz, h3⟩ | ⟨a, b, xs, ys, e1, e2, h1, h2, hz, h3⟩
    · exact .inl h
    · exact .inr (.inl ⟨a, b, xs, ys, e1, e2, h1, h2, hz, paired_imp (fun _ _ q => Alike.succ q) h3⟩)
    · exact .inr (.inr ⟨a, b, xs, ys, e1, e2, h1, h2, hz, paired_imp (fun _ _ q => Alike.succ q) h3⟩)
theorem paired_len {α β : Type} {F : α → β → Prop} : ∀ {xs : List α} {ys : List β}, Paired F xs ys → xs.length = ys.length
  | _, _, .nil => rfl
  | _, _, .cons _ t => congrArg (· + 1) (paired_len t)
theorem paired_at {α β : Type} {F : α → β → Prop} : ∀ {xs : List α} {ys : List β} {i : Nat} {x : α} {y : β}, Paired F xs ys → xs[i]? = some x → ys[i]? = some y → F x y
  | _, _, 0, x, y, .cons a _, h1, h2 => by
    cases Option.some.inj h1
    cases Option.some.inj h2
    exact a
  | _, _, i + 1, x, y, .cons _ t, h1, h2 => paired_at (i := i) t (by simpa using h1) (by simpa using h2)
  | _, _, _, _, _, .nil, h1, _ => by simp at h1
def spSame (K : PySem.W.Frag) : Nat → Sp
  | 0 => fun _ _ _ _ => False
  | n + 1 => fun vs H Q _ => ∃ x y, vs = [x, y] ∧ Alike K H n x y ∧ ∀ H', Same H H' → Q (.bl true) H'
/-- the types -/
theorem ty_list {K : PySem.W.Frag} {H : Hp} {a : Addr} {xs : List V} (h : SqL K H a xs) : TyX K H (.ref a) (.type "list") := by
  rcases h with (h | ⟨o, h⟩) | ⟨o, its, n, h, hc, _⟩
  · exact .base (.lst h)
  · exact .base (.frz h)
  · exact .kList h hc
theorem ty_tup {K : PySem.W.Frag} {H : Hp} {a : Addr} {xs : List V} (h : SqT K H a xs) : TyX K H (.ref a) (.type "tuple") := by
  rcases h with (h | ⟨o, h⟩) | ⟨o, its, n, h, hc, _⟩
  · exact .base (.tup h)
  · exact .fTuple h
  · exact .kTuple h hc
/-- the built-in type of a value -/
inductive Ty (K : PySem.W.Frag) (H : Hp) (x : V) (T : String) : Prop where
  | mk (h : TyX K H x (.type T)) : Ty K H x T
end SB

end

section
set_option Elab.async false
set_option linter.all false
set_option maxRecDepth 100000
set_option maxHeartbeats 4000000
namespace SB
open PySem PySem.Spec PyProof.Rows L2
theorem tyX_same {K : PySem.W.Frag} {H H' : Hp} {x : V} {t : Value} (s : Same H H') (h : TyX K H x t) : TyX K H' x t := by
  cases h with
  | base h =>
    refine .base ?_
    cases h with
    | non => exact .non
    | bl b => exact .bl b
    | int i => exact .int i
    | str z => exact .str z
    | flt z => exact .flt z
    | lst e => exact .lst (s _ _ e)
    | frz e => exact .frz (s _ _ e)
    | tup e => exact .tup (s _ _ e)
    | dK e => exact .dK (s _ _ e)
    | dT e => exact .dT (s _ _ e)
    | ins e cl ha hn ht hm => exact .ins (s _ _ e) cl ha hn ht hm
  | byt b => exact .byt b
  | set e => exact .set (s _ _ e)
  | kList e c => exact .kList e c
  | kTuple e c => exact .kTuple e c
  | kDict e c => exact .kDict e c
  | fTuple e => exact .fTuple (s _ _ e)
  | fDict e => exact .fDict (s _ _ e)
/-- isinstance(x, (list, tuple)); isinstance(x, T) -/
abbrev tIsLT (K : PySem.W.Frag) (i : Nat) : TE := tCB (rIsiT K) (tCons (tVar i) (tCons (tTup (tCons (tC (.ty "list")) (tCons (tC (.ty "tuple")) tNil))) tNil))
abbrev tIs (K : PySem.W.Frag) (i : Nat) (T : String) : TE := tCB (rIsi K) (tCons (tVar i) (tCons (tC (.ty T)) tNil))
theorem rd_isLT {K : PySem.W.Frag} {i : Nat} {σ : L2.St} {H : Hp} {Q : VK} {x : V} {T : String} {b : Bool} (e : σ[i]? = some (some x)) (ty : TyX K H x (.type T)) (hk : PySem.W.kitAny K (.type T) [.type "list", .type "tuple"] = some b)
    (k : ∀ H', Same H H' → Q (.bl b) H') : tIsLT K i σ H Q :=
  ⟨x, e, (by show 2 ≤ sizeLine; decide), fun p hp => ⟨x, p, _, _, _, b, rfl, upd_same, .cons (.ty _) (.cons (.ty _) .nil), tyX_same (Same.new (Same.refl H) hp) ty, hk, k _ (Same.new (Same.refl H) hp)⟩⟩
theorem rd_is {K : PySem.W.Frag} {i : Nat} {σ : L2.St} {H : Hp} {Q : VK} {x : V} {T U : String} {b : Bool} (e : σ[i]? = some (some x)) (ty : TyX K H x (.type U)) (hk : kitB U T = some b)
    (k : Q (.bl b) H) : tIs K i T σ H Q :=
  ⟨x, e, x, .ty T, _, _, b, rfl, .ty T, ty, kit_ty hk, k⟩
theorem lt_of {K : PySem.W.Frag} {U : String} {b c : Bool} (h1 : kitB U "list" = some b) (h2 : kitB U "tuple" = some c) : PySem.W.kitAny K (.type U) [.type "list", .type "tuple"] = some (b || c) := by
  refine kitAny_cons (kit_ty h1) (fun hb => kitAny_cons (kit_ty h2) (fun hc => ?_) (fun hc => ?_)) (fun hb => ?_)
  · rw [hb, hc]; exact kitAny_nil
  · rw [hb, hc]; rfl
  · rw [hb]; rfl
end SB

end

section
set_option Elab.async false
set_option linter.all false
set_option maxRecDepth 100000
set_option maxHeartbeats 4000000
namespace SB
open PySem PySem.Spec PyProof.Rows L2
section
variable {X : Cx} {CX : CXT} {x : Str} {f : Addr} {k : Nat} {fd : FuncData} {ps ks : List Str} {sp : Sp} {g : List Value → List Value → List Value} {gV : List V → List V → List V} {E : L2.St → XK} {kws : List Keyword} {p pos : Pos} {tk : TA}
/-- f(k = e, ..): what is raised is wished for at the caller's slots -/
def tKW (sp : Sp) (gV : List V → List V → List V) (E : L2.St → XK) (tk : TA) : TE := fun σ H Q => tk σ H fun zs H2 => sp (gV [] zs) H2 Q (E σ)
theorem pe_callKW (F : FnOk X.prog X.w X.K X.mg X.base CX k f fd ps sp) (hr : Room k X.A) (hg : Gl X x) (hm : X.mg x = some (.ref f)) (hk : PySem.W.keepIn X.K (.ref f) = true) (hb : KBinds X.K fd ps ks g gV) (hx : ∀ σ, PassesAt CX X σ (E σ))
    (hkw : PK X kws tk) (hall : (backToKw pos (keywordEach kws X.env)).all (·.1.isSome) = true := by rfl) (hks : (backToKw pos (keywordEach kws X.env)).filterMap (·.1) = ks := by rfl)
    (hdb : (x == ("__debug__" : Str)) = false := by decide)
    (hpl : ((backTo pos (starEach [] X.env)).any (·.1) || (backToKw pos (keywordEach kws X.env)).any (·.1.isNone)) = false := by rfl) :
    PE X (.Call (.Name x p) [] kws pos) (tKW sp gV E tk) := by
  refine ⟨fun pins s σ H Q I h => ?_⟩
  refine wpAny_Call_Name_kw (ld_glob I hg hm ?_ hdb)
  refine PySem.W.callWith_KW0 (h₀ := X.base) I.ok.mod.kin hk hall ?_ hpl
  refine thn (hkw.run pos pins s σ H _ I h) fun ws s2 ⟨zs, H2, I2, rz, q2⟩ => ⟨I2.kIn, ?_⟩
  rw [hks]
  have r2 := hb.rel (vs := []) .nil rz
  have hl : (g [] ws).length = ps.length := r2.length.symm.trans (F.len _ _ _ _ q2)
  refine wpAny_call (codeAny_mono (F.run X.A X.stack s2 H2 ⟨[], ks.zip ws⟩ (g [] ws) (gV [] zs) Q (E σ) hr I2.env0 (hb.to s2 [] ws I2.kIn hl) r2 q2) fun r s' hq => ?_)
  cases r with
  | error e => exact hx σ pins H2 s2 e s' I2 hq
  | ok fl =>
    cases fl with
    | ret u => exact I2.after hq
    | next => exact False.elim hq
    | brk => exact False.elim hq
    | cont => exact False.elim hq
end
/-- what an __init__ of an exception promises: its fields, the last one first -/
def spX (C : Addr) (n : Nat) (fs : List V → List (Str × V)) : Sp := fun vs H Q _ => ∃ (a : Addr) (ws : List V), vs = .ref a :: ws ∧ ws.length = n ∧ H a = some (exo a C none) ∧
  ∀ d H', H d = none → d ≠ a → H' a = some (exo a C (some d)) → H' d = some (exd d (fs ws)) → (∀ c, c ≠ a → c ≠ d → H' c = H c) → Q .non H'
/-- raise C(..): the exception with its dict at d -/
theorem rd_raise {C : Addr} {n : Nat} {fs : List V → List (Str × V)} {vs : List V} {H1 : Hp} {Q : XK} (hl : vs.length = n) (hn : n ≤ 1000) (k : ∀ d, H1 d = none → Q (.ref C) (some d) (upd H1 d (.xd (fs vs)))) :
    vs.length ≤ 1000 ∧ ∀ a, H1 a = none → spX C n fs (.ref a :: (vs ++ [])) (upd H1 a (exo a C none))
      (fun v H2 => v = .non ∧ ∃ (d : Addr) (fs : List (Str × V)), H2 a = some (exo a C (some d)) ∧ H2 d = some (exd d fs) ∧ H1 d = none ∧ Q (.ref C) (some d) (upd (del H2 a) d (.xd fs))) (fun _ _ _ => False) := by
  refine ⟨by omega, fun a ha => ⟨a, vs, by rw [List.append_nil], hl, upd_same, fun d H' hd hda h1 h2 h3 => ⟨rfl, d, fs vs, h1, h2, ?_, ?_⟩⟩⟩
  · rw [upd_ne hda] at hd; exact hd
  · rw [upd_ne hda] at hd
    have e : upd (del H' a) d (.xd (fs vs)) = upd H1 d (.xd (fs vs)) := by
      funext c
      by_cases hc : c = d
      · rw [hc, upd_same, upd_same]
      · rw [upd_ne hc, upd_ne hc]
        by_cases hca : c = a
        · rw [hca, del_same, ha]
        · rw [del_ne hca, h3 c hca hc, upd_ne hca]
    rw [e]
    exact k d hd
/-- all that a text's exception class is asked for -/
structure XFacts (K : PySem.W.Frag) (mg : Str → Option Value) (name : Str) (C fI : Addr) (bmB : List Value) (newId : String) : Prop where
  T : ExCls K C bmB newId
  F : XfC K C
  g : mg name = some (.ref C)
  iC : PySem.W.findIn K (.ref C) "__init__" = some (some (.ref fI))
  tI : PySem.W.typeIn K (.ref fI) = some (.type "function")
  nC : PySem.W.findIn K (.ref C) "code" = some none
  me : PySem.W.exmOne K (.ref C) (.ref C) = some true
end SB

end

section
set_option Elab.async false
set_option linter.all false
set_option maxRecDepth 100000
set_option maxHeartbeats 4000000
/-! repr of data; the law's own def at the caller, where no guard stands. -/
namespace SB
open PySem PySem.Spec PyProof.Rows L2
def keyD : Key → PyData
  | .inl i => .int i
  | .inr x => .str x
def flatD : V → PyData
  | .bl b => .bool b
  | .int i => .int i
  | .str x => .str x
  | _ => .none
inductive Sh (K : PySem.W.Frag) (H : Hp) : V → PyData → Prop
  | dp {v : V} {d : PyData} (h : Dp K H v d) (hd : d.hasDict = false) : Sh K H v d
  | dct {a : Addr} {kvs : List (Key × V)} (h : H a = some (.dK kvs)) (hf : ∀ p ∈ kvs, flatV p.2 = true) : Sh K H (.ref a) (.dict (kvs.map fun p => (keyD p.1, flatD p.2)))
theorem reads_flat {h : Heap} {v : V} {u : Value} (r : RelV v u) (f : flatV v = true) : Reads h u (flatD v) [] := by
  cases v with
  | non => cases (show u = Value.none from r); exact .none
  | bl b => cases (show u = Value.bool b from r); exact .bool b
  | int i => obtain ⟨t, rfl⟩ := (show ∃ t, u = Value.int i t from r); exact .int i t
  | str x => obtain ⟨t, rfl⟩ := (show ∃ t, u = Value.str x t from r); exact .str x t
  | byt q => cases f
  | flt q => cases f
  | ref q => cases f
  | ty q => cases f
theorem reads_kvs {P : Program} {w : World} {h : Heap} : ∀ {kvs : List (Key × V)} {vs : List (Key × Value)} {es : List DictEntry}, KV kvs vs → Pairs (mixKind P w) es vs → (∀ p ∈ kvs, flatV p.2 = true) →
    ReadsAll h (es.map (·.key)) ((kvs.map fun p => (keyD p.1, flatD p.2)).map (·.1)) [] ∧ ReadsAll h (es.map (·.val)) ((kvs.map fun p => (keyD p.1, flatD p.2)).map (·.2)) []
  | [], _, _, .nil, .nil, _ => ⟨.nil, .nil⟩
  | (k, v) :: kvs, (k', u) :: vs, e :: es, .cons ⟨h1, h2⟩ t, .cons p1 p2 p3, f => by
    obtain ⟨i1, i2⟩ := reads_kvs (P := P) (w := w) (h := h) t p3 fun p hp => f p (List.mem_cons_of_mem _ hp)
    have hk : Reads h e.key (keyD k) [] := by
      have h1' : k = k' := h1
      subst h1'
      have p1' : keyIs k e.key = true := p1
      rcases keyIs_shape p1' with ⟨i, t, e1, e2⟩ | ⟨x, t, e1, e2⟩
      · rw [e1, e2]; exact .int i t
      · rw [e1, e2]; exact .str x t
    have hv : Reads h e.val (flatD v) [] := by
      have p2' : e.val = u := p2
      rw [p2']
      exact reads_flat h2 (f _ (List.mem_cons_self ..))
    exact ⟨ReadsAll.cons (as := []) (bs := []) hk i1, ReadsAll.cons (as := []) (bs := []) hv i2⟩
section
variable {X : Cx}
theorem sh_reads {pins : List (Addr × Obj)} {σ : L2.St} {H : Hp} {s : Shared} (I : Inv X pins σ H s) {v : V} {u : Value} {d : PyData} (h : Sh X.K H v d) (r : RelV v u) : ∃ as, Reads s.heap u d as ∧ (d.hasDict = true → sysModules ∉ as) := by
  cases h with
  | dp h hd =>
    obtain ⟨as, q⟩ := Dp.reads I _ _ _ h r
    exact ⟨as, q, fun z => by rw [hd] at z; cases z⟩
  | @dct a kvs h hf =>
    cases (show u = Value.ref a from r)
    obtain ⟨hz, hs, vs, kv, o, es, ep, ho, ⟨hc, _⟩, hd, _, hp, _⟩ := I.hok a _ h
    obtain ⟨i1, i2⟩ := reads_kvs (h := s.heap) kv hp hf
    refine ⟨_, Reads.dict (as := []) (bs := []) ho hc hd i1 i2, fun _ hm => ?_⟩
    have e : sysModules = a := by simpa using hm
    rw [e] at hs
    simp at hs
/-- repr(x): its text, by the data alone -/
def rRepr (K : PySem.W.Frag) : List V → Hp → VK → Prop := fun xs H Q => ∃ v d, xs = [v] ∧ Sh K H v d ∧ d.showable = true ∧ d.shown.length ≤ sizeLine ∧ d.depth ≤ 8 ∧ Q (.str d.shown) H
theorem cr_repr (hg : X.A.guards = some []) (hu : X.A.units + 40 < cLine) : CallR X (.builtin "repr") (rRepr X.K) := by
  intro pins s σ H xs us Q I r h
  obtain ⟨v, d, rfl, sh, hs, hz, hd, q⟩ := h
  obtain ⟨u, rfl, ru⟩ := vals1 r
  have fin : ∀ (h' : Heap) (t : Tok) (tk : Nat), (∀ b o, s.heap.get? b = some o → h'.get? b = some o) → EP X pins σ Q (.str d.shown t) { s with heap := h', toks := tk } := fun h' t tk k => ⟨.str d.shown, H, I.kept k, ⟨t, rfl⟩, q⟩
  obtain ⟨as, rd, hsm⟩ := sh_reads I sh ru
  cases rd with
  | none => exact P.repr_of_none (fin s.heap _ _ fun _ _ e => e)
  | bool b => exact P.repr_of_bool (fin s.heap _ _ fun _ _ e => e)
  | int i t => exact P.repr_of_int (by simpa [PyData.showable] using hs) (fin s.heap _ _ fun _ _ e => e)
  | str x t => exact P.repr_of_str (fin s.heap _ _ fun _ _ e => e) hz
  | list a1 a2 a3 a4 => exact repr_of_reads' (.list a1 a2 a3 a4) hs hsm hg (by omega) (fun _ _ e => e) (fun h' t tk k => fin h' t tk k) hz
  | tuple a1 a2 a3 a4 => exact repr_of_reads' (.tuple a1 a2 a3 a4) hs hsm hg (by omega) (fun _ _ e => e) (fun h' t tk k => fin h' t tk k) hz
  | dict a1 a2 a3 a4 a5 => exact repr_of_reads' (.dict a1 a2 a3 a4 a5) hs hsm hg (by omega) (fun _ _ e => e) (fun h' t tk k => fin h' t tk k) hz
end
end SB

end

section
set_option Elab.async false
set_option linter.all false
set_option maxRecDepth 100000
set_option maxHeartbeats 4000000
/-! the law's own def, entered where the row calls it (callerA): there no frame and no guard stands. -/
namespace SB
open PySem PySem.Spec PyProof.Rows L2
/-- what a def of one name keeps when it is entered at the caller -/
structure AtCaller (P : Program) (w : World) (K : PySem.W.Frag) (mg : Str → Option Value) (base : Heap) (f : Addr) (fd : FuncData) (x : Str) (sp : Sp) : Prop where
  run : ∀ (s : Shared) (H : Hp) (u : Value) (v : V) (Q : VK), Env0 P w K mg base callerA [] s H → RelV v u → BindsTo s fd ⟨[u], []⟩ [(x, u)] → sp [v] H Q (fun _ _ _ => False) →
    codeAny (model P w) callerA (.call (.ref f) ⟨[u], []⟩) (CR CX0 [] P w H s Q (fun _ _ _ => False)) s
theorem caller_ok {P : Program} {w : World} {K : PySem.W.Frag} {mg : Str → Option Value} {base : Heap} {k : Nat} {f : Addr} {fd : FuncData} {nm qual x : Str} {st : Stmt} {N : List Str} {sp : Sp} (F : Fun K nm qual st f fd) (S : FnScope N [x] (defScope st)) (room : Room (k + 1) callerA)
    (hbody : ∀ (cdv : Value) (s : Shared) (H : Hp) (v : V) (Q : VK), Room k (callerA.deeper (PyProof.Rows.envOfC qual (defScope st) s.heap.objs.size f cdv)) → sp [v] H Q (fun _ _ _ => False) →
      ∃ t, PSs (cxOf CX0 P w K mg base N qual (defScope st) f cdv callerA [] s H (fun _ _ _ => False)).nox (defBody st) t ∧ t { nx := fun _ H' => Q .non H', rt := Q } (L2.start N [v]) H) : AtCaller P w K mg base f fd x sp := by
  obtain ⟨⟨oc, od, kV, doc, pm, an, cdv, ct, osl, rfl, lk, hcd⟩, _⟩ := F
  refine ⟨fun s H u v Q e0 ruv hb hsp => ?_⟩
  have KX : K.In s.heap := e0.mod.kin.keeps fun b o e => (e0.bs b o e).1
  have lim : s.heap.NoLimit := e0.mod.nolimit.keeps fun b o e => (e0.bs b o e).1
  have kinds : ∀ y ∈ [(x, u)], (defScope st).names.lookup y.1 = some .local ∨ ((defScope st).names.lookup y.1 = some .cell ∧ ((cellsFrom (s.heap.objs.size + 1) (defScope st).names []).lookup y.1).isSome = true) := fun y hy => by
    obtain rfl := List.mem_singleton.mp hy
    rcases S.par x (List.mem_singleton.mpr rfl) with q | q
    · exact .inl q
    · exact .inr ⟨q, PySem.W.cellsFrom_some _ _ _ (.inl q)⟩
  refine codeAny_call_function room.depth (KX _ _ lk) rfl S.co S.gen rfl (PySem.W.codeRec_of KX hcd) (hb _ _ _ _ ?_)
  refine wpAny_newFunctionEnv_cells S.kind kinds fun env he s1 y => ?_
  subst he
  refine ⟨lim.keeps y.toInCall.keep, codeAny_func ?_⟩
  obtain ⟨t, ht, hq⟩ := hbody cdv s H v Q (room.deeper _) hsp
  have I : Inv (cxOf CX0 P w K mg base N qual (defScope st) f cdv callerA [] s H (fun _ _ _ => False)) [] (L2.start N [v]) H s1 := inv_start S room.hd e0 rfl (.cons ruv .nil) y
  refine wpAny_mono ((PSs.nox ht).run [] s1 (L2.start N [v]) H _ I hq) (fun fl s' hs => ?_) fun e s' hs => hs
  have out : ∀ {σ' : L2.St} {H' : Hp} {v' : V} {u' : Value}, Inv (cxOf CX0 P w K mg base N qual (defScope st) f cdv callerA [] s H (fun _ _ _ => False)) [] σ' H' s' → RelV v' u' → Q v' H' → CE [] P w H s Q u' s' :=
    fun {_ H' v' _} J rv q => ⟨v', H', J.os, J.bare, J.base, J.hok, rv, q⟩
  cases fl with
  | ret u' => exact let ⟨_, _, _, J, rv, q⟩ := hs; out J rv q
  | next => exact let ⟨_, _, J, q⟩ := hs; out (v' := V.non) (u' := Value.none) J rfl q
  | brk => exact let ⟨_, _, _, q⟩ := hs; False.elim q
  | cont => exact let ⟨_, _, _, q⟩ := hs; False.elim q

/-- the row's call, from that -/
theorem caller_call {P : Program} {w : World} {K : PySem.W.Frag} {mg mb : Str → Option Value} {fa a : Addr} {fd : FuncData} {x : Str} {sp : Sp} {s₁ : Shared} {vs : List Value} {ns : List Int}
    (KX : K.In s₁.heap) (hns : s₁.heap.Ns mainGlobals mg) (hb : s₁.heap.Ns builtinsNs mb) (hbb : ∀ x : Str, x ≠ "__name__" → mb x = bootBuiltins x) (hlim : s₁.heap.NoLimit) (hg : s₁.gens = #[])
    (ha : s₁.heap.get? a = some { cls := .type "list", data := .seq vs.toArray }) (hi : IntsAre vs ns) (hl : ns.length ≤ sizeLine)
    (F : ∀ base : Heap, K.In base → base.Ns mainGlobals mg → AtCaller P w K mg base fa fd x sp) (hbind : ∀ (s : Shared) (u : Value), BindsTo s fd ⟨[u], []⟩ [(x, u)])
    (hsp : ∀ H : Hp, SqL K H a (ns.map V.int) → sp [.ref a] H (fun v _ => v = .bl true) fun _ _ _ => False) :
    codeAny (model P w) callerA (.call (.ref fa) ⟨[.ref a], []⟩) (fun r s' => r = .ok (.ret (.bool true)) ∧ OldK s₁.heap s'.heap ∧ s'.os = s₁.os ∧ AllBare s'.gens) s₁ := by
  have rv := vals_ints hi
  have same_len := hi.length
  -- H tracks the script at most, and as it stands
  have go : ∀ H : Hp, (∀ b, H b = none ∨ (b = a ∧ ∃ o xs, H b = some (.frz o (.lst xs)))) → (H a ≠ none → K.lookup a = none) → SqL K H a (ns.map V.int) → HOk P w H s₁.heap →
      codeAny (model P w) callerA (.call (.ref fa) ⟨[.ref a], []⟩) (fun r s' => r = .ok (.ret (.bool true)) ∧ OldK s₁.heap s'.heap ∧ s'.os = s₁.os ∧ AllBare s'.gens) s₁ := by
    intro H only own hS hok
    have isA : ∀ {b : Addr}, H b ≠ none → b = a := fun {b} z => (only b).elim (fun q => absurd q z) And.left
    have bare : ∀ {b : Addr} {m : Str → Option Value}, s₁.heap.Ns b m → (hidT s₁.heap H).Ns b m := fun {b m} ⟨o, es, ep, e, d, r⟩ => ⟨o, es, ep, hidT_get e (by
      cases q : H b with
      | none => rfl
      | some u =>
        obtain rfl := isA (b := b) (by rw [q]; simp)
        rw [ha] at e
        cases e
        have d' : Data.seq vs.toArray _ = Data.dict es ep := d
        cases d'), d, r⟩
    have inK : K.In (hidT s₁.heap H) := fun b o e => hidT_get (KX b o e) (by
      cases q : H b with
      | none => rfl
      | some u =>
        obtain rfl := isA (b := b) (by rw [q]; simp)
        rw [own (by rw [q]; simp)] at e
        cases e)
    have M : Mod K mg (hidT s₁.heap H) := ⟨inK, bare hns, ⟨mb, bare hb, hbb⟩, let ⟨mc, h1, h2⟩ := hlim; ⟨mc, bare h1, h2⟩⟩
    have e0 : Env0 P w K mg (hidT s₁.heap H) callerA [] s₁ H := ⟨rfl, M, fun b o e => of_hidT e, Nat.le_of_eq (hidT_size _ _), trivial, fun b hb => absurd (show b ∈ ([] : List Addr) from hb) (by simp), hok, .of_eq hg⟩
    refine codeAny_mono ((F _ inK (bare hns)).run s₁ H (.ref a) (.ref a) _ e0 rfl (hbind s₁ (.ref a)) (hsp H hS)) fun r s' h => ?_
    match r, h with
    | .ok (.ret u), ⟨v, H', os, bg, un, hok', r', q⟩ =>
      have q' : v = .bl true := q
      subst q'
      obtain rfl : u = Value.bool true := r'
      refine ⟨rfl, OldK.of_keep fun b o e => ?_, os, bg⟩
      rcases only b with z | ⟨_, ob, xs, z⟩
      · exact un.keep b o e z (fun y => absurd (show b ∈ ([] : List Addr) from y) (by simp)) (by simp)
      · obtain ⟨e1, _⟩ := hok b _ z
        obtain ⟨e2, _⟩ := hok' b _ (un.frzs b ob _ z)
        rw [e] at e1
        cases e1
        exact e2
    | .error e, h => exact False.elim h
  cases hk : K.lookup a with
  | some o =>
    have e := KX a o hk
    rw [ha] at e
    cases e
    exact go (fun _ => none) (fun _ => .inl rfl) (fun z => absurd rfl z) (.inr ⟨_, vs.toArray, _, hk, rfl, rfl, rfl, by rw [List.size_toArray, same_len]; exact hl, by simpa using rv⟩) (fun b u z => nomatch (show (none : Option HO) = some u from z))
  | none =>
    have at_ : ∀ b, b ≠ a → (if b = a then some (HO.frz { cls := .type "list", data := .seq vs.toArray } (.lst (ns.map V.int))) else none) = none := fun b hb => if_neg hb
    refine go (fun b => if b = a then some (.frz { cls := .type "list", data := .seq vs.toArray } (.lst (ns.map V.int))) else none) (fun b => ?_) (fun _ => hk) (.inl (.inr ⟨{ cls := .type "list", data := .seq vs.toArray }, if_pos rfl⟩)) (fun b u z => ?_)
    · by_cases hb : b = a
      · exact .inr ⟨hb, _, _, if_pos hb⟩
      · exact .inl (at_ b hb)
    · by_cases hb : b = a
      · cases (if_pos hb).symm.trans z
        subst hb
        exact ⟨ha, by rw [List.length_map]; exact hl, vs, _, rv, ha⟩
      · cases (at_ b hb).symm.trans z
theorem caller_walk {l : PySem.W.OpenLaw} {n : Nat} {q : Program} {loose : List Str} {XP : (Str → Option Value) → Heap → Prop} {YP : World → Heap → Prop} {d : DefRec} {K : Params → PySem.W.Frag} {sp : World → Sp} {x : Str}
    (hn : l.most = some n) (hn2 : n ≤ sizeLine) (hdf : d.params.defaults = []) (hY : ∀ (w : World) (h : Heap), YP w h → (K w.params).In h)
    (F : ∀ (w : World) (mg : Str → Option Value) (fa : Addr) (h : Heap), (K w.params).In h → h.Ns mainGlobals mg → mg d.name = some (.ref fa) →
      ∃ fd : FuncData, (∀ (s : Shared) (u : Value), BindsTo s fd ⟨[u], []⟩ [(x, u)]) ∧ ∀ base : Heap, (K w.params).In base → base.Ns mainGlobals mg → AtCaller l.prog w (K w.params) mg base fa fd x (sp w))
    (hsp : ∀ (w : World) (H : Hp) (a : Addr) (ns : List Int), ns.length ≤ n → SqL (K w.params) H a (ns.map V.int) → sp w [.ref a] H (fun v _ => v = .bl true) fun _ _ _ => False) :
    PySem.W.WalkO q loose XP YP l.row.toRowW d [] (fun f vs => PySem.call f vs) := by
  refine Att.attach_call hn hdf fun w s₀ s₁ mg mb fa o pm cd doc a vs ns G Y ho hd hcd hmg hobj hints hlen hg => ?_
  obtain ⟨fd, hb, hF⟩ := F w mg fa _ (hY w _ Y) G.T.g hmg
  exact caller_call (hY w _ Y) G.T.g G.T.b G.T.builtins G.T.nolimit hg hobj hints (Nat.le_trans hlen hn2) hF hb fun H hS => hsp w H a ns hlen hS
end SB

end

section
set_option Elab.async false
set_option linter.all false
set_option maxRecDepth 100000
set_option maxHeartbeats 4000000
/-! small texts; a text read backward. -/
namespace SB
open PySem PySem.Spec PyProof.Rows L2
/-- a small text -/
def Sm (n : Nat) (z : Str) : Prop := z.length ≤ n ∧ ∀ c ∈ z.cps.toList, c < 1114112
theorem Sm.app {m n : Nat} {x y : Str} (a : Sm m x) (b : Sm n y) : Sm (m + n) (x ++ y) := by
  refine ⟨by rw [Str.length_append]; exact Nat.add_le_add a.1 b.1, fun c hc => ?_⟩
  rw [Str.cps_append, Array.toList_append, List.mem_append] at hc
  exact hc.elim (a.2 c) (b.2 c)
theorem Sm.cut {n : Nat} {z : Str} (a : Sm n z) (lo hi : Option Int) : Sm n (cutS z lo hi) := by
  refine ⟨Nat.le_trans (cutS_length z lo hi) a.1, fun c hc => a.2 c ?_⟩
  unfold cutS at hc
  exact List.mem_of_mem_drop (List.mem_of_mem_take (by simpa using hc))
theorem Sm.mono {m n : Nat} {z : Str} (a : Sm m z) (h : m ≤ n) : Sm n z := ⟨Nat.le_trans a.1 h, a.2⟩
theorem Sm.repr {n : Nat} {z : Str} (a : Sm n z) : (reprText z).length ≤ 10 * n + 2 := by
  have := PySem.StrLaws.reprText_len z fun c hc => Nat.lt_of_lt_of_le (a.2 c hc) (by decide)
  have := a.1
  omega
theorem Sm.line {n : Nat} {z : Str} (a : Sm n z) (h : n ≤ 1000000) : z.length ≤ sizeLine := by
  have := a.1
  rw [sizeLine_eq]
  omega
/-- t[::-1]: some text, no longer, of the same signs -/
def tRevS (te : TE) : TE := fun σ H Q => te σ H fun x H1 => ∃ z n, x = .str z ∧ Sm n z ∧ n ≤ 1000000 ∧ ∀ y, Sm n y → Q (.str y) H1
theorem back_len (n : Nat) : (Builtin.Str.strSliceIndices none none (-1) n).length ≤ n := by
  unfold Builtin.Str.strSliceIndices sliceRange
  simp only [List.length_map, List.length_range]
  split
  · split <;> omega
  · split
    · have e : ((n : Int) - 1 - -1 - -1 - 1) / - -1 = (n : Int) := by
        rw [show - (-1 : Int) = 1 from rfl, Int.ediv_one]
        omega
      simp_all
    · omega
theorem pe_revS {X : Cx} {e : Expr} {te : TE} {k : Nat} {p1 p2 p3 pos : Pos} (he : PE X e te) : PE X (.Subscript e (.Slice none none (some (.UnaryOp .USub (.Constant (.int 1) k p1) p2)) p3) pos) (tRevS te) := by
  refine ⟨fun pins s σ H Q I h => ?_⟩
  refine Subscript_ (thn (he.run pins s σ H _ I h) fun v s1 ⟨x, H1, I1, r1, z, n, ex, sm, hn, q⟩ => ?_)
  subst ex
  obtain ⟨t, rfl⟩ := r1
  have step : PO X (some (.UnaryOp .USub (.Constant (.int 1) k p1) p2)) (tPart (tUn (rU fun i => .int (-i)) (tC (.int 1)))) := po_some (pe_un un_neg pe_int)
  refine wpAny_Slice (thn (po_none.run pins s1 σ H1 (fun o H2 => o = none ∧ H2 = H1) I1 ⟨rfl, rfl⟩) fun vl s2 ⟨l, H2, I2, pl, el, e2⟩ => ?_)
  subst el e2
  refine thn (po_none.run pins s2 σ H2 (fun o H3 => o = none ∧ H3 = H2) I2 ⟨rfl, rfl⟩) fun vu s3 ⟨u, H3, I3, pu, eu, e3⟩ => ?_
  subst eu e3
  refine thn (step.run pins s3 σ H3 (fun o H4 => o = some (-1) ∧ H4 = H3) I3 ⟨1, rfl, -1, rfl, rfl, rfl⟩) fun vs s4 ⟨o, H4, I4, ps, eo, e4⟩ => ?_
  subst eo e4
  have I5 : Inv X pins σ H4 { s4 with heap := s4.heap.push { cls := .type "slice", data := .fields #[vl, vu, vs] } } := I4.kept (t' := s4.toks) fun b ob q => Heap.get?_push_of_some _ q
  show wpAny (model X.prog X.w) X.A (subscriptTail e (.Slice none none (some (.UnaryOp .USub (.Constant (.int 1) k p1) p2)) p3) (.str z t) (.ref s4.heap.objs.size)) (EP X pins σ Q) X.xe { s4 with heap := s4.heap.push { cls := .type "slice", data := .fields #[vl, vu, vs] } }
  refine tail_any (ops := [.str z t, .ref s4.heap.objs.size]) (typeIs_str _ _ _) (F.slot_str_getitem.lookup) ?_ (by with_unfolding_all rfl)
  cases pl
  cases pu
  cases ps with
  | int _ t' =>
    refine wpAny_getItem_str_slice (l := none) (u := none) (st := some (-1, t')) ⟨_, Heap.get?_push_size _ rfl, rfl, rfl⟩ rfl ?_
    show Made.post (if ((-1 : Int) == 1 && (Builtin.Str.strSliceIndices none none (-1) z.length).length == z.length) = true then Made.val (.str z t)
      else Made.str ⟨((Builtin.Str.strSliceIndices none none (-1) z.length).filterMap (z.cps[·]?)).toArray⟩) _ _
    rw [if_neg (by simp)]
    have sm' : Sm n (⟨((Builtin.Str.strSliceIndices none none (-1) z.length).filterMap (z.cps[·]?)).toArray⟩ : Str) := by
      refine ⟨?_, fun c hc => ?_⟩
      · show ((Builtin.Str.strSliceIndices none none (-1) z.length).filterMap (z.cps[·]?)).toArray.size ≤ n
        rw [List.size_toArray]
        exact Nat.le_trans (List.length_filterMap_le _ _) (Nat.le_trans (back_len _) sm.1)
      · have hc' : c ∈ (Builtin.Str.strSliceIndices none none (-1) z.length).filterMap (z.cps[·]?) := by simpa using hc
        obtain ⟨i, _, hi⟩ := List.mem_filterMap.mp hc'
        exact sm.2 c (Array.mem_toList_iff.mpr (Array.mem_of_getElem? hi))
    exact ⟨sm'.line hn, .str _, H4, I5.tok _, ⟨_, rfl⟩, q _ sm'⟩
end SB

end

section
set_option Elab.async false
set_option linter.all false
set_option maxRecDepth 100000
set_option maxHeartbeats 4000000
/-! a tuple whose object is known (its methods may be called); values that a law may draw. -/
namespace SB
open PySem PySem.Spec PyProof.Rows L2
def tTupF (t : TA) : TE := fun σ H Q => t σ H fun xs H1 => xs.length ≤ sizeLine ∧ ∀ p o, H1 p = none → o.dict = none → o.cls = .type "tuple" → Q (.ref p) (upd H1 p (.frz o (.tup xs)))
section
variable {X : Cx} {es : List Expr} {t : TA} {pos : Pos}
theorem pe_tupF {x1} (h : PA X es t) : PE X (.Tuple es x1 pos) (tTupF t) := by
  refine ⟨fun pins s σ H Q I hq => ?_⟩
  refine wpAny_Tuple_spliced (thn (h.run pos pins s σ H _ I hq) fun us s1 ⟨xs, H1, I1, r, z, q⟩ => ⟨by rw [← r.length]; exact z, ?_⟩)
  have free : H1 s1.heap.objs.size = none := I1.hok.fresh (Nat.le_refl _)
  refine ⟨.ref s1.heap.objs.size, upd H1 s1.heap.objs.size (.frz _ (.tup xs)), I1.laid (t' := s1.toks) (fun b u e => Heap.get?_push_of_some _ e) (Nat.le_refl _) ⟨Heap.get?_push_size _ rfl, z, us, r, ⟨_, Heap.get?_push_size _ rfl, rfl, _, rfl⟩⟩, rfl, q _ _ free rfl rfl⟩
/-- t.index(z), t such a tuple of texts -/
def tTix (to te : TE) : TE := fun σ H Q => to σ H fun x H1 => (∃ p o u, x = .ref p ∧ H1 p = some (.frz o u) ∧ o.dict = none ∧ o.cls = .type "tuple") ∧ te σ H1 fun y H2 =>
  ∃ (p : Addr) (o : Obj) (ys : List Str) (z : Str) (j : Nat), x = .ref p ∧ y = .str z ∧ H2 p = some (.frz o (.tup (ys.map V.str))) ∧ ys[j]? = some z ∧ (∀ m, m < j → ys[m]? ≠ some z) ∧ Q (.int (j : Nat)) H2
theorem pe_tix {o e : Expr} {to te : TE} {apos cpos : Pos} (ho : PE X o to) (he : PE X e te)
    (hbase : attributeBase o "index" X.env (eval o X.env) = eval o X.env := by rfl)
    (hfew : ((backTo cpos (starEach [e] X.env)).all (fun x => !x.1) && (backToKw cpos (keywordEach [] X.env)).all (fun x => x.1.isSome)
      && decide ([e].length + ([] : List Keyword).length + (if ([] : List Keyword).isEmpty then 0 else 1) < 30)) = true := by rfl)
    (hline : (apos.endLine == cpos.line) = true := by rfl) (hs : starEach [e] X.env = (false, eval e X.env) :: starEach [] X.env := by rfl) :
    PE X (.Call (.Attribute o "index" apos) [e] [] cpos) (tTix to te) := by
  refine ⟨fun pins s σ H Q I h => ?_⟩
  refine wpAny_Call_method_late hbase hfew hline rfl (thn (ho.run pins s σ H _ I h) fun v s1 ⟨x, H1, I1, r1, ⟨p, ob, u, ex, hp, hd, hc⟩, q1⟩ => ?_)
  subst ex
  cases r1
  obtain ⟨at_, _⟩ := I1.hok p _ hp
  refine ⟨"tuple", _, PySem.F.plainAttrs_tuple, PySem.F.slot_tuple_index, PySem.F.type_tuple_index, ⟨ob, at_, hc⟩, fun a e' => by cases e'; exact ⟨ob, at_, hd⟩, ?_⟩
  have hA := (pa_cons (X := X) he pa_nil hs).run cpos pins s1 σ H1 (fun vs H2 => match vs with
    | [y] => ∃ (p' : Addr) (o' : Obj) (ys : List Str) (z : Str) (j : Nat), V.ref p = .ref p' ∧ y = .str z ∧ H2 p' = some (.frz o' (.tup (ys.map V.str))) ∧ ys[j]? = some z ∧ (∀ m, m < j → ys[m]? ≠ some z) ∧ Q (.int (j : Nat)) H2
    | _ => False) I1 q1
  rw [hs] at hA ⊢
  refine Calls.callWith_builtin rfl (Calls.evalArgs_plain ?_)
  refine thn hA fun us s2 ⟨vs, H2, I2, r2, q2⟩ => ?_
  match vs, r2, q2 with
  | [y], r2, ⟨p', o', ys, z, j, e1, e2, h1, h2, h3, q⟩ =>
    cases e1
    subst e2
    exact mt_tup_index pins s2 σ H2 (.ref p) [.str z] _ us Q I2 rfl r2 ⟨p, ys, z, j, rfl, rfl, .inl (.inr ⟨o', h1⟩), h2, h3, q⟩
end

/-- a datum whose repr is small -/
def okD (d : PyData) : Bool := d.showable && decide (d.shown.length ≤ 100000) && decide (d.depth ≤ 8) && !d.hasDict
theorem okD_all {d : PyData} (h : okD d = true) : d.showable = true ∧ d.shown.length ≤ sizeLine ∧ d.depth ≤ 8 ∧ d.hasDict = false := by
  unfold okD at h
  simp only [Bool.and_eq_true, decide_eq_true_eq, Bool.not_eq_true'] at h
  obtain ⟨⟨⟨h1, h2⟩, h3⟩, h4⟩ := h
  exact ⟨h1, by rw [sizeLine_eq]; omega, h3, h4⟩
/-- a value that a law has drawn: it is the same as itself, it has a repr, it is a text or none -/
structure GV (K : PySem.W.Frag) (H : Hp) (v : V) (d : PyData) : Prop where
  al : Alike K H 1 v v
  sh : Sh K H v d
  kd : (∃ z, v = .str z) ∨ ∃ T, TyX K H v (.type T) ∧ kitB T "str" = some false
/-- .. whatever is drawn later -/
def Drawn (b : Addr) (K : PySem.W.Frag) (H : Hp) (v : V) : Prop := ∃ d : PyData, d.showable = true ∧ d.shown.length ≤ sizeLine ∧ d.depth ≤ 8 ∧ ∀ H', Keep b H H' → GV K H' v d
theorem Drawn.keep {b : Addr} {K : PySem.W.Frag} {H H' : Hp} {v : V} (g : Drawn b K H v) (k : Keep b H H') : Drawn b K H' v :=
  let ⟨d, h1, h2, h3, h4⟩ := g
  ⟨d, h1, h2, h3, fun H2 k2 => h4 H2 (k.trans k2)⟩
/-- a value without an object -/
inductive Plain : V → Prop
  | non : Plain .non
  | bl (b : Bool) : Plain (.bl b)
  | int (i : Int) (h : i.natAbs.log2 < 1920) : Plain (.int i)
  | str (z : Str) (h : Sm 1000 z) : Plain (.str z)
theorem Plain.drawn {b : Addr} {K : PySem.W.Frag} {H : Hp} {v : V} (p : Plain v) : Drawn b K H v := by
  cases p with
  | non => exact ⟨.none, by decide, by decide, by decide, fun H' _ => ⟨.inl (.inl ⟨rfl, rfl⟩), .dp .non (by decide), .inr ⟨_, .base .non, by decide +kernel⟩⟩⟩
  | bl c => exact ⟨.bool c, by simp [PyData.showable], by cases c <;> decide, by simp [PyData.depth], fun H' _ => ⟨.inl (.inl ⟨rfl, rfl⟩), .dp (.bl c) (by simp [PyData.hasDict]), .inr ⟨_, .base (.bl c), by decide +kernel⟩⟩⟩
  | int i h => exact ⟨.int i, by simpa [PyData.showable] using h, int_text_fits h, by simp [PyData.depth], fun H' _ => ⟨.inl (.inl ⟨rfl, rfl⟩), .dp (.int i) (by simp [PyData.hasDict]), .inr ⟨_, .base (.int i), by decide +kernel⟩⟩⟩
  | str z h => exact ⟨.str z, by simp [PyData.showable], (by
      have := h.repr
      show (reprText z).length ≤ sizeLine
      rw [sizeLine_eq]
      omega), by simp [PyData.depth], fun H' _ => ⟨.inl (.inl ⟨rfl, rfl⟩), .dp (.str z) (by simp [PyData.hasDict]), .inl ⟨z, rfl⟩⟩⟩
theorem dpAll_strs {K : PySem.W.Frag} {H : Hp} : ∀ zs : List Str, DpAll K H (zs.map V.str) (zs.map PyData.str)
  | [] => .nil
  | z :: zs => .cons (.str z) (dpAll_strs zs)
theorem leaf_strs {H : Hp} : ∀ zs : List Str, Paired (Leaf H) (zs.map V.str) (zs.map V.str)
  | [] => .nil
  | z :: zs => .cons (.inl ⟨rfl, rfl⟩) (leaf_strs zs)
theorem drawn_lst {b p : Addr} {K : PySem.W.Frag} {H : Hp} {zs : List Str} (hp : H p = some (.lst (zs.map V.str))) (hb : p ≠ b) (ok : okD (.list (zs.map .str)) = true) (hl : zs.length < sizeLine) : Drawn b K H (.ref p) :=
  let ⟨h1, h2, h3, h4⟩ := okD_all ok
  ⟨_, h1, h2, h3, fun H' k => ⟨.inr (.inl ⟨p, p, _, _, rfl, rfl, SqL.of (k _ _ hp hb), SqL.of (k _ _ hp hb), by rw [List.length_map]; exact hl, leaf_strs zs⟩), .dp (.lst (SqL.of (k _ _ hp hb)) (dpAll_strs zs)) h4, .inr ⟨_, ty_list (SqL.of (k _ _ hp hb)), by decide +kernel⟩⟩⟩
theorem drawn_tup {b p : Addr} {K : PySem.W.Frag} {H : Hp} {zs : List Str} (hp : ∀ H', Keep b H H' → SqT K H' p (zs.map V.str)) (ok : okD (.tuple (zs.map .str)) = true) (hl : zs.length < sizeLine) : Drawn b K H (.ref p) :=
  let ⟨h1, h2, h3, h4⟩ := okD_all ok
  ⟨_, h1, h2, h3, fun H' k => ⟨.inr (.inr ⟨p, p, _, _, rfl, rfl, hp H' k, hp H' k, by rw [List.length_map]; exact hl, leaf_strs zs⟩), .dp (.tup (hp H' k) (dpAll_strs zs)) h4, .inr ⟨_, ty_tup (hp H' k), by decide +kernel⟩⟩⟩
theorem drawn_dct {b p : Addr} {K : PySem.W.Frag} {H : Hp} {kvs : List (Key × V)} (hp : H p = some (.dK kvs)) (hb : p ≠ b) (hf : ∀ q ∈ kvs, valV kvs q.1 = some q.2 ∧ flatB q.2 = true ∧ flatV q.2 = true)
    (h1 : (PyData.dict (kvs.map fun q => (keyD q.1, flatD q.2))).showable = true) (h2 : (PyData.dict (kvs.map fun q => (keyD q.1, flatD q.2))).shown.length ≤ sizeLine) (h3 : (PyData.dict (kvs.map fun q => (keyD q.1, flatD q.2))).depth ≤ 8) : Drawn b K H (.ref p) :=
  ⟨_, h1, h2, h3, fun H' k => ⟨.inl (.inr ⟨p, kvs, rfl, rfl, k _ _ hp hb, fun q hq => ⟨(hf q hq).1, (hf q hq).2.1⟩⟩), .dct (k _ _ hp hb) fun q hq => (hf q hq).2.2, .inr ⟨_, .base (.dK (k _ _ hp hb)), by decide +kernel⟩⟩⟩
end SB

end

section
set_option Elab.async false
set_option linter.all false
set_option maxRecDepth 100000
set_option maxHeartbeats 4000000
namespace SB
open PySem PySem.Spec PyProof.Rows L2
theorem seqL_keep {K : PySem.W.Frag} {H H' : Hp} {b p : Addr} {xs : List V} (k : Keep b H H') (n : p ≠ b) (h : SqL K H p xs) : SqL K H' p xs := by
  rcases h with (h | ⟨o, h⟩) | h
  · exact .inl (.inl (k _ _ h n))
  · exact .inl (.inr ⟨o, k _ _ h n⟩)
  · exact .inr h
theorem seqT_keep {K : PySem.W.Frag} {H H' : Hp} {b p : Addr} {xs : List V} (k : Keep b H H') (n : p ≠ b) (h : SqT K H p xs) : SqT K H' p xs := by
  rcases h with (h | ⟨o, h⟩) | h
  · exact .inl (.inl (k _ _ h n))
  · exact .inl (.inr ⟨o, k _ _ h n⟩)
  · exact .inr h
theorem of_seq {K : PySem.W.Frag} {H : Hp} {b p : Addr} {xs : List V} {Q : VK} {E : XK} (B : BagAt H b) (n : p ≠ b) (hs : SqL K H p xs ∨ SqT K H p xs) (h0 : 0 < xs.length) (h1 : xs.length < 2 ^ 62)
    (k : ∀ v H', v ∈ xs → BagAt H' b → Keep b H H' → (∀ c, H c = none → H' c = none) → Q v H') : spOf K [.ref b, .ref p] H Q E :=
  ⟨b, p, xs, rfl, B, n, hs, h0, h1, fun H' kk h => seqL_keep kk n h, fun H' kk h => seqT_keep kk n h, k⟩
theorem BagAt.new {H : Hp} {b p : Addr} {o : HO} (B : BagAt H b) (hp : H p = none) : BagAt (upd H p o) b := B.same (Same.new (Same.refl H) hp)
theorem BagAt.at {H : Hp} {b : Addr} (B : BagAt H b) : ∃ xs, H b = some (.lst xs) := let ⟨l, ns, i, g, m, c, h, _⟩ := B; ⟨_, h⟩
theorem BagAt.ne {H : Hp} {b p : Addr} (B : BagAt H b) (hp : H p = none) : p ≠ b := fun e => by
  obtain ⟨xs, h⟩ := B.at
  rw [e, h] at hp
  cases hp
/-- a table of texts -/
theorem look_at : ∀ (l : List (Str × Int)) {z : Str} {i : Int}, l.lookup z = some i → ∃ j : Nat, (l.map (·.1))[j]? = some z ∧ (l.map (·.2))[j]? = some i ∧ ∀ m : Nat, m < j → (l.map (·.1))[m]? ≠ some z
  | [], z, i, h => by cases h
  | (k, v) :: l, z, i, h => by
    by_cases e : z = k
    · subst e
      have : some v = some i := by simpa [List.lookup] using h
      cases this
      exact ⟨0, rfl, rfl, fun m hm => absurd hm (by omega)⟩
    · have h' : l.lookup z = some i := by
        have e' : (z == k) = false := by simpa using e
        simpa [List.lookup, e'] using h
      obtain ⟨j, h1, h2, h3⟩ := look_at l h'
      refine ⟨j + 1, h1, h2, fun m hm => ?_⟩
      cases m with
      | zero => exact fun q => e (Option.some.inj q).symm
      | succ m => exact h3 m (by omega)
theorem look_none : ∀ (l : List (Str × Int)) {z : Str}, l.lookup z = none → inV (.str z) ((l.map (·.1)).map V.str) = false
  | [], z, h => rfl
  | (k, v) :: l, z, h => by
    by_cases e : z = k
    · subst e
      simp [List.lookup] at h
    · have e' : (z == k) = false := by simpa using e
      have h' : l.lookup z = none := by simpa [List.lookup, e'] using h
      have ih := look_none l h'
      show (eqV (.str k) (.str z) || inV (.str z) ((l.map (·.1)).map V.str)) = false
      rw [ih]
      show ((k == z) || false) = false
      have : (k == z) = false := by simpa using fun q => e q.symm
      rw [this]
      rfl
theorem look_in : ∀ (l : List (Str × Int)) {z : Str} {i : Int}, l.lookup z = some i → inV (.str z) ((l.map (·.1)).map V.str) = true
  | [], z, i, h => by cases h
  | (k, v) :: l, z, i, h => by
    show (eqV (.str k) (.str z) || inV (.str z) ((l.map (·.1)).map V.str)) = true
    by_cases e : z = k
    · subst e
      show ((z == z) || _) = true
      simp
    · have e' : (z == k) = false := by simpa using e
      rw [look_in l (z := z) (i := i) (by simpa [List.lookup, e'] using h), Bool.or_true]
theorem look_mem : ∀ (l : List (Str × Int)) {z : Str}, z ∈ l.map (·.1) → ∃ i, l.lookup z = some i
  | [], z, h => by simp at h
  | (k, v) :: l, z, h => by
    by_cases e : z = k
    · subst e
      exact ⟨v, by simp [List.lookup]⟩
    · have e' : (z == k) = false := by simpa using e
      obtain ⟨i, hi⟩ := look_mem l (z := z) (by simpa [e] using h)
      exact ⟨i, by simpa [List.lookup, e'] using hi⟩
theorem look_val : ∀ (l : List (Str × Int)) {z : Str} {i : Int}, l.lookup z = some i → i ∈ l.map (·.2)
  | [], z, i, h => by cases h
  | (k, v) :: l, z, i, h => by
    by_cases e : z = k
    · subst e
      have : some v = some i := by simpa [List.lookup] using h
      cases this
      exact List.mem_cons_self ..
    · have e' : (z == k) = false := by simpa using e
      exact List.mem_cons_of_mem _ (look_val l (z := z) (by simpa [List.lookup, e'] using h))
def smB (z : Str) : Bool := decide (z.length ≤ 100) && z.cps.toList.all fun c => decide (c < 1114112)
theorem smB_ok {z : Str} (h : smB z = true) : Sm 100 z := by
  unfold smB at h
  simp only [Bool.and_eq_true, decide_eq_true_eq, List.all_eq_true] at h
  exact h
end SB

end

section
set_option Elab.async false
set_option linter.all false
set_option maxRecDepth 100000
set_option maxHeartbeats 4000000
namespace K01
open PySem L2 SB
def top (i : Nat) : Stmt := PySem.Challenge.pw_shapebetween_k01_limits_told.main.body.getD i (.Pass ⟨0, 0, 0, 0⟩)
abbrev s_TooMany_init : Stmt := inClass (top 3) 0
theorem sc_TooMany_init : FnScope ["self", "what", "count"] ["self", "what", "count"] (defScope s_TooMany_init) := ⟨rfl, rfl, rfl, by decide +kernel, rfl, by decide +kernel, by decide +kernel⟩
-- TooMany_init: self:0 what:1 count:2
abbrev s_UnknownName_init : Stmt := inClass (top 4) 0
theorem sc_UnknownName_init : FnScope ["self", "name"] ["self", "name"] (defScope s_UnknownName_init) := ⟨rfl, rfl, rfl, by decide +kernel, rfl, by decide +kernel, by decide +kernel⟩
-- UnknownName_init: self:0 name:1
abbrev s_limit_of : Stmt := top 8
theorem sc_limit_of : FnScope ["what"] ["what"] (defScope s_limit_of) := ⟨rfl, rfl, rfl, by decide +kernel, rfl, by decide +kernel, by decide +kernel⟩
-- limit_of: what:0
abbrev s_check_limit : Stmt := top 9
theorem sc_check_limit : FnScope ["what", "count"] ["what", "count"] (defScope s_check_limit) := ⟨rfl, rfl, rfl, by decide +kernel, rfl, by decide +kernel, by decide +kernel⟩
-- check_limit: what:0 count:1
abbrev s_l_bag : Stmt := top 11
theorem sc_l_bag : FnScope ["_law_script", "_law_mixed", "_law_cell"] ["_law_script"] (defScope s_l_bag) := ⟨rfl, rfl, rfl, by decide +kernel, rfl, by decide +kernel, by decide +kernel⟩
-- l_bag: _law_script:0 _law_mixed:1 _law_cell:2
abbrev s_l_draw : Stmt := top 12
theorem sc_l_draw : FnScope ["_law_bag_here", "_law_top", "_law_cell", "_law_digit", "_law_seed"] ["_law_bag_here", "_law_top"] (defScope s_l_draw) := ⟨rfl, rfl, rfl, by decide +kernel, rfl, by decide +kernel, by decide +kernel⟩
-- l_draw: _law_bag_here:0 _law_top:1 _law_cell:2 _law_digit:3 _law_seed:4
abbrev s_l_of : Stmt := top 13
theorem sc_l_of : FnScope ["_law_bag_here", "_law_some"] ["_law_bag_here", "_law_some"] (defScope s_l_of) := ⟨rfl, rfl, rfl, by decide +kernel, rfl, by decide +kernel, by decide +kernel⟩
-- l_of: _law_bag_here:0 _law_some:1
abbrev s_l_same : Stmt := top 14
theorem sc_l_same : FnScope ["_law_found", "_law_due", "_law_p", "_law_q"] ["_law_found", "_law_due"] (defScope s_l_same) := ⟨rfl, rfl, rfl, by decide +kernel, rfl, by decide +kernel, by decide +kernel⟩
-- l_same: _law_found:0 _law_due:1 _law_p:2 _law_q:3
abbrev s_l_limit : Stmt := top 15
theorem sc_l_limit : FnScope ["_law_v", "_law_named", "e"] ["_law_v", "_law_named"] (defScope s_l_limit) := ⟨rfl, rfl, rfl, by decide +kernel, rfl, by decide +kernel, by decide +kernel⟩
-- l_limit: _law_v:0 _law_named:1 e:2
abbrev s_l_checked : Stmt := top 16
theorem sc_l_checked : FnScope ["_law_v", "_law_n", "_law_named", "e"] ["_law_v", "_law_n", "_law_named"] (defScope s_l_checked) := ⟨rfl, rfl, rfl, by decide +kernel, rfl, by decide +kernel, by decide +kernel⟩
-- l_checked: _law_v:0 _law_n:1 _law_named:2 e:3
abbrev s_law : Stmt := top 17
theorem sc_law : FnScope ["_law_script", "_law_bag_here", "_law_words", "_law_most_y", "_law_turn", "_law_near", "_law_far", "_law_menu", "_law_v", "_law_known", "_law_top", "_law_n", "_law_kept", "_law_named", "_law_due", "_law_p"] ["_law_script"] (defScope s_law) := ⟨rfl, rfl, rfl, by decide +kernel, rfl, by decide +kernel, by decide +kernel⟩
-- law: _law_script:0 _law_bag_here:1 _law_words:2 _law_most_y:3 _law_turn:4 _law_near:5 _law_far:6 _law_menu:7 _law_v:8 _law_known:9 _law_top:10 _law_n:11 _law_kept:12 _law_named:13 _law_due:14 _law_p:15
section
variable {P : Program} {w : World} {K : PySem.W.Frag} {mg : Str → Option Value} {base : Heap}

theorem ok_bag {f : Addr} {fd : FuncData} (F : Fun K "_law_bag" "_law_bag" s_l_bag f fd) (gInt : mg "int" = none) (gLst : mg "list" = none) : FnOk P w K mg base CX0 1 f fd ["_law_script"] (spBag K) := by
  refine F.ok sc_l_bag (fun vs H Q E h => ?_) (fun cdv A outer s H vs Q E hr h => ?_)
  · obtain ⟨a, ns, rfl, _⟩ := h
    rfl
  · obtain ⟨a, ns, rfl, hS, hlen, k⟩ := h
    refine ⟨_, pss_cons (ps_set (i := 1) sc_l_bag.nd rfl (Or.inl rfl) pe_int)
      (pss_cut (ps_for PassesOwn.never rfl (pi_list (pe_slice sl_list (pv 0) po_none (po_some pe_int))) (pg_name (i := 2) sc_l_bag.nd rfl (Or.inl rfl))
        (pss_one (ps_set (i := 1) sc_l_bag.nd rfl (Or.inl rfl) (pe_op op_mod (pe_callTy call_int1 (by rfl) gInt (by decide +kernel) (pa_cons (pe_op op_add (pe_op op_add (pe_op op_mul (pv 1) pe_int)
          (pe_op op_mul (pe_op op_mod (pe_callTy call_int1 (by rfl) gInt (by decide +kernel) (pa_cons (pv 2) pa_nil)) pe_int) pe_int)) pe_int) pa_nil)) pe_int))))
      (pss_one (ps_ret (pe_lst (pa_cons (pe_callTy call_list_of (by rfl) gLst (by decide +kernel) (pa_cons (pe_slice sl_list (pv 0) po_none (po_some pe_int)) pa_nil))
        (pa_cons pe_int (pa_cons pe_int (pa_cons (pv 1) (pa_cons pe_int pa_nil))))))))), ?_⟩
    have cut63 : cutV (ns.map V.int) none (some 63) = (ns.take 63).map V.int := by
      have e : HT.sIx (ns.map V.int).length (ns.map V.int).length (some 63) = min 63 (ns.map V.int).length := HT.sIx_nat _ _ 63
      unfold cutV
      rw [HT.sIx_none, e, Nat.sub_zero, List.drop_zero, List.map_take, ← List.take_eq_take_min]
    refine ⟨fun σ H' => ∃ (m : Int) (z : Option V), σ = [some (.ref a), some (.int m), z] ∧ Same H H' ∧ 0 ≤ m ∧ m < 2147483648, ?_, ?_⟩
    · refine ⟨_, rfl, _, rfl, a, _, rfl, hS, fun p hp => ?_⟩
      rw [cut63]
      have s1 : Same H (upd H p (.lst ((ns.take 63).map V.int))) := Same.new (Same.refl H) hp
      refine ⟨p, rfl, ⟨_, SqL.of upd_same⟩, for_list (K := K) (a := p) (xs := (ns.take 63).map V.int) (fun i σ H' => ∃ (m : Int) (z : Option V), σ = [some (.ref a), some (.int m), z] ∧ Same (upd H p (.lst ((ns.take 63).map V.int))) H' ∧ 0 ≤ m ∧ m < 2147483648)
        ⟨12039, none, rfl, Same.refl _, by decide, by decide⟩ (fun i σ H' _ ⟨m, z, _, s2, _⟩ => s2.seq (SqL.of upd_same)) ?_ ?_⟩
      · rintro i x σ H' hi ⟨m, z, rfl, s2, h0, h1⟩
        obtain ⟨n, rfl⟩ : ∃ n : Int, x = .int n := by
          rw [List.getElem?_map] at hi
          cases e : (ns.take 63)[i]? with
          | none => rw [e] at hi; cases hi
          | some n => rw [e] at hi; exact ⟨n, (Option.some.inj hi).symm⟩
        refine ⟨_, rfl, _, _, rfl, rfl, Or.inr ⟨by decide, by decide⟩, ?_⟩
        refine ⟨_, rfl, .inl ⟨_, rfl, _, _, rfl, rfl, (by show (0 : Int) < 1000639; decide), _, _, rfl, rfl, Or.inr ⟨by decide, by decide⟩, _, _, rfl, rfl, _, _, rfl, rfl, .inl ⟨_, rfl, _, _, rfl, rfl, (by show (0 : Int) < 2147483579; decide), ?_⟩⟩⟩
        refine ⟨_, _, rfl, s2, Int.emod_nonneg _ (by decide), ?_⟩
        have := Int.emod_lt_of_pos (m * 48271 + n % 1000639 * 883 + 59) (show (0 : Int) < 2147483579 by decide)
        omega
      · rintro σ H' ⟨m, z, rfl, s2, h0, h1⟩
        exact ⟨m, z, rfl, s1.trans s2, h0, h1⟩
    · rintro σ H' ⟨m, z, rfl, s2, h0, h1⟩
      refine ⟨_, rfl, _, rfl, a, _, rfl, s2.seq hS, fun p hp => ?_⟩
      rw [cut63]
      refine ⟨p, _, rfl, .inl (SqL.of upd_same), fun l hl => ?_⟩
      refine ⟨_, rfl, (by show 5 ≤ sizeLine; decide), fun b hb => ?_⟩
      have sp := Same.new s2 (o := .lst ((ns.take 63).map V.int)) hp
      have sl := Same.new sp (o := .lst ((ns.take 63).map V.int)) hl
      have nlb : l ≠ b := ne_of_none upd_same hb
      refine k b _ (sl.free hb) (Same.new sl hb) ⟨l, ns.take 63, 0, 0, m, 0, upd_same, ?_, nlb, by decide, by decide, h0, h1⟩
      rw [upd_ne nlb, upd_same]
end
end K01

end

section
set_option Elab.async false
set_option linter.all false
set_option maxRecDepth 100000
set_option maxHeartbeats 4000000
namespace K01
open PySem L2 SB
section
variable {P : Program} {w : World} {K : PySem.W.Frag} {mg : Str → Option Value} {base : Heap}

theorem ok_draw {f : Addr} {fd : FuncData} (F : Fun K "_law_draw" "_law_draw" s_l_draw f fd) (gInt : mg "int" = none) (gLen : mg "len" = none) (gAbs : mg "abs" = none) : FnOk P w K mg base CX0 1 f fd ["_law_bag_here", "_law_top"] spDraw := by
  refine F.ok sc_l_draw (fun vs H Q E h => ?_) (fun cdv A outer s H vs Q E hr h => ?_)
  · obtain ⟨a, ns, rfl, _⟩ := h
    rfl
  · obtain ⟨b, top, rfl, B, t0, t1, k⟩ := h
    have nd := sc_l_draw.nd
    refine ⟨_, pss_cons (ps_asg (pe_op op_add (pe_ix ix_list (pv 0) pe_int (fun _ _ => rfl)) pe_int) (pg_sub (pv 0) pe_int set_list))
      (pss_cut (ps_if (PW.pt (pw_and (pt_cmpR op_eq (pe_ix ix_list (pv 0) pe_int (fun _ _ => rfl)) pe_int (nomark _))
          (pw_and1 (pt_cmpR op_lt (pe_ix ix_list (pv 0) pe_int (fun _ _ => rfl)) (pe_callB call_len_seq (by rfl) gLen PySem.boot_len (pa_cons (pe_ix ix_list (pv 0) pe_int (fun _ _ => rfl)) pa_nil)) (nomark _)))))
        (pss_cons (ps_set (i := 2) nd rfl (Or.inl rfl) (pe_callTy call_int1 (by rfl) gInt (by decide +kernel) (pa_cons (pe_ix ix_list (pe_ix ix_list (pv 0) pe_int (fun _ _ => rfl)) (pe_ix ix_list (pv 0) pe_int (fun _ _ => rfl)) (fun _ _ => rfl)) pa_nil)))
        (pss_cons (ps_asg (pe_op op_add (pe_ix ix_list (pv 0) pe_int (fun _ _ => rfl)) pe_int) (pg_sub (pv 0) pe_int set_list))
        (pss_one (ps_if (pt_cmpR op_ge (pe_callB call_abs (by rfl) gAbs (by decide +kernel) (pa_cons (pv 2) pa_nil)) (pe_op op_pow pe_int pe_int) (nomark _))
          (pss_one (ps_asg (pe_callB call_abs (by rfl) gAbs (by decide +kernel) (pa_cons (pv 2) pa_nil)) (pg_sub (pv 0) pe_int set_list)))
          (pss_one (ps_asg (pe_op op_mod (pe_callTy call_int1 (by rfl) gInt (by decide +kernel) (pa_cons (pe_op op_add (pe_op op_add (pe_op op_mul (pe_ix ix_list (pv 0) pe_int (fun _ _ => rfl)) pe_int)
            (pe_op op_mul (pe_op op_mod (pe_callTy call_int1 (by rfl) gInt (by decide +kernel) (pa_cons (pv 2) pa_nil)) pe_int) pe_int)) pe_int) pa_nil)) pe_int) (pg_sub (pv 0) pe_int set_list)))))))
        pss_nil)
      (pss_cons (ps_if (pt_cmpR op_gt (pe_ix ix_list (pv 0) pe_int (fun _ _ => rfl)) pe_int (nomark _))
        (pss_cons (ps_set (i := 3) nd rfl (Or.inl rfl) (pe_op op_mod (pe_callTy call_int1 (by rfl) gInt (by decide +kernel) (pa_cons (pe_ix ix_list (pv 0) pe_int (fun _ _ => rfl)) pa_nil)) (pv 1)))
        (pss_cons (ps_asg (pe_op op_fdivW (pe_ix ix_list (pv 0) pe_int (fun _ _ => rfl)) (pv 1)) (pg_sub (pv 0) pe_int set_list))
        (pss_one (ps_ret (pv 3))))) pss_nil)
      (pss_cons (ps_set (i := 4) nd rfl (Or.inl rfl) (pe_callTy call_int1 (by rfl) gInt (by decide +kernel) (pa_cons (pe_ix ix_list (pv 0) pe_int (fun _ _ => rfl)) pa_nil)))
      (pss_cons (ps_asg (pe_op op_mod (pe_callTy call_int1 (by rfl) gInt (by decide +kernel) (pa_cons (pe_op op_add (pe_op op_add (pe_op op_add (pe_op op_pow (pv 4) pe_int) (pe_op op_mul (pv 4) pe_int))
            (pe_op op_mul (pe_ix ix_list (pv 0) pe_int (fun _ _ => rfl)) pe_int)) pe_int) pa_nil)) pe_int) (pg_sub (pv 0) pe_int set_list))
      (pss_one (ps_ret (pe_op op_mod (pe_callTy call_int1 (by rfl) gInt (by decide +kernel) (pa_cons (pe_op op_add (pe_op op_fdiv (pe_ix ix_list (pv 0) pe_int (fun _ _ => rfl)) pe_int)
            (pe_op op_mul (pe_op op_mod (pe_callTy call_int1 (by rfl) gInt (by decide +kernel) (pa_cons (pe_ix ix_list (pv 0) pe_int (fun _ _ => rfl)) pa_nil)) pe_int) pe_int)) pa_nil)) (pv 1)))))))), ?_⟩
    obtain ⟨l, ns, i, g, m, c, hb, hl, nlb, i0, g0, m0, m1⟩ := B
    refine ⟨_, rfl, b, _, _, _, rfl, rfl, SqL.of hb, rfl, _, _, rfl, rfl, _, rfl, b, _, _, _, rfl, rfl, hb, rfl, ?_⟩
    -- the first draws of a cell
    have hl1 : ∀ o, upd H b o l = some (.lst (ns.map V.int)) := fun o => by rw [upd_ne nlb]; exact hl
    have up2 : ∀ (H' : Hp) (o : HO), Keep b H H' → (∀ c, H c = none → H' c = none) → Keep b H (upd H' b o) ∧ (∀ c, H c = none → upd H' b o c = none) := fun H' o kk fr =>
      ⟨kk.upd, fun c hc => by rw [upd_ne (fun e => by rw [e, hb] at hc; cases hc)]; exact fr c hc⟩
    obtain ⟨kk0, fr0⟩ := up2 H (HO.lst [.ref l, .int i, .int g, .int m, .int (c + 1)]) (Keep.refl b H) (fun c hc => hc)
    refine ⟨fun σ H' => ∃ (i g m : Int) (z : Option V), σ = [some (.ref b), some (.int top), z, none, none] ∧ H' b = some (.lst [.ref l, .int i, .int g, .int m, .int (c + 1)]) ∧ 0 ≤ i ∧ 0 ≤ g ∧ 0 ≤ m ∧ m < 2147483648 ∧ Keep b H H' ∧ (∀ c, H c = none → H' c = none), ?_, ?_⟩
    · refine ⟨_, rfl, b, _, _, _, rfl, rfl, SqL.of upd_same, rfl, rfl, _, rfl, ?_⟩
      refine ite2 (fun hg => ?_) (fun hg => ?_)
      · refine ⟨_, rfl, b, _, _, _, rfl, rfl, SqL.of upd_same, rfl, _, rfl, b, _, _, _, rfl, rfl, SqL.of upd_same, rfl, _, _, rfl, .inl (SqL.of (hl1 _)), _, _, rfl, rfl, _, rfl, ?_⟩
        refine ite2 (fun hi => ?_) (fun hi => ?_)
        · have hi' : i < ((ns.map V.int).length : Int) := of_decide_eq_true hi
          rw [List.length_map] at hi'
          obtain ⟨n, hn⟩ : ∃ n, ns[i.toNat]? = some n := ⟨ns[i.toNat]'(by omega), List.getElem?_eq_getElem (by omega)⟩
          have hat : atI (ns.map V.int) i = some (.int n) := at_of (j := i.toNat) (by omega) (by rw [List.getElem?_map, hn]; rfl)
          refine ⟨_, rfl, b, _, _, _, rfl, rfl, SqL.of upd_same, rfl, _, rfl, b, _, _, _, rfl, rfl, SqL.of upd_same, rfl, l, _, _, _, rfl, rfl, SqL.of (hl1 _), hat, .inl ⟨_, rfl, ?_⟩⟩
          refine ⟨_, rfl, b, _, _, _, rfl, rfl, SqL.of upd_same, rfl, _, _, rfl, rfl, _, rfl, b, _, _, _, rfl, rfl, upd_same, rfl, ?_⟩
          obtain ⟨kk1, fr1⟩ := up2 _ (HO.lst [.ref l, .int (i + 1), .int g, .int m, .int (c + 1)]) kk0 fr0
          refine ⟨_, rfl, _, rfl, _, _, rfl, rfl, ⟨by decide, by decide, by decide⟩, _, _, rfl, rfl, _, rfl, ?_⟩
          refine ite2 (fun hbig => ?_) (fun hbig => ?_)
          · refine ⟨_, rfl, _, rfl, _, rfl, b, _, _, _, rfl, rfl, upd_same, rfl, ?_⟩
            obtain ⟨kk2, fr2⟩ := up2 _ (HO.lst [.ref l, .int (i + 1), .int (if n < 0 then -n else n), .int m, .int (c + 1)]) kk1 fr1
            refine ⟨i + 1, if n < 0 then -n else n, m, _, rfl, upd_same, by omega, ?_, m0, m1, kk2, fr2⟩
            split <;> omega
          · refine ⟨_, rfl, b, _, _, _, rfl, rfl, SqL.of upd_same, rfl, _, _, rfl, rfl, Or.inr ⟨by decide, by decide⟩, _, rfl, .inl ⟨_, rfl, _, _, rfl, rfl, (by show (0 : Int) < 1000639; decide), _, _, rfl, rfl, Or.inr ⟨by decide, by decide⟩,
              _, _, rfl, rfl, _, _, rfl, rfl, .inl ⟨_, rfl, _, _, rfl, rfl, (by show (0 : Int) < 2147483587; decide), _, rfl, b, _, _, _, rfl, rfl, upd_same, rfl, ?_⟩⟩⟩
            obtain ⟨kk2, fr2⟩ := up2 _ (HO.lst [.ref l, .int (i + 1), .int g, .int ((m * 43889 + n % 1000639 * 773 + 31) % 2147483587), .int (c + 1)]) kk1 fr1
            have e1 := Int.emod_nonneg (m * 43889 + n % 1000639 * 773 + 31) (show (2147483587 : Int) ≠ 0 by decide)
            have e2 := Int.emod_lt_of_pos (m * 43889 + n % 1000639 * 773 + 31) (show (0 : Int) < 2147483587 by decide)
            exact ⟨i + 1, g, _, _, rfl, upd_same, by omega, g0, e1, by omega, kk2, fr2⟩
        · exact ⟨i, g, m, _, rfl, upd_same, i0, g0, m0, m1, kk0, fr0⟩
      · refine iteF ?_
        exact ⟨i, g, m, _, rfl, upd_same, i0, g0, m0, m1, kk0, fr0⟩
    · rintro σ H1 ⟨i, g, m, z, rfl, hb1, i0, g0, m0, m1, kk, fr⟩
      have hl2 : H1 l = some (.lst (ns.map V.int)) := kk _ _ hl nlb
      refine ⟨_, rfl, b, _, _, _, rfl, rfl, SqL.of hb1, rfl, _, _, rfl, rfl, _, rfl, ?_⟩
      refine ite2 (fun hg => ?_) (fun hg => ?_)
      · refine ⟨_, rfl, b, _, _, _, rfl, rfl, SqL.of hb1, rfl, .inl ⟨_, rfl, _, rfl, _, _, rfl, rfl, t0, ?_⟩⟩
        refine ⟨_, rfl, b, _, _, _, rfl, rfl, SqL.of hb1, rfl, _, rfl, _, _, rfl, rfl, ⟨t0, t1⟩, _, rfl, b, _, _, _, rfl, rfl, hb1, rfl, ?_⟩
        refine ⟨_, rfl, ?_⟩
        obtain ⟨kk2, fr2⟩ := up2 _ (HO.lst [.ref l, .int i, .int (g / top), .int m, .int (c + 1)]) kk fr
        refine k (g % top) _ (Int.emod_nonneg _ (by omega)) (Int.emod_lt_of_pos _ t0) ⟨l, ns, i, g / top, m, c + 1, upd_same, by rw [upd_ne nlb]; exact hl2, nlb, i0, Int.ediv_nonneg g0 (by omega), m0, m1⟩ kk2 fr2
      · refine ⟨_, rfl, b, _, _, _, rfl, rfl, SqL.of hb1, rfl, .inl ⟨_, rfl, ?_⟩⟩
        refine ⟨_, rfl, _, _, rfl, rfl, ⟨by decide, by decide, by omega⟩, _, rfl, _, _, rfl, rfl, Or.inr ⟨by decide, by decide⟩, _, _, rfl, rfl, _, rfl, b, _, _, _, rfl, rfl, SqL.of hb1, rfl, _, _, rfl, rfl, Or.inr ⟨by decide, by decide⟩,
          _, _, rfl, rfl, _, _, rfl, rfl, .inl ⟨_, rfl, _, _, rfl, rfl, (by show (0 : Int) < 2147483549; decide), _, rfl, b, _, _, _, rfl, rfl, hb1, rfl, ?_⟩⟩
        have e1 := Int.emod_nonneg (m ^ (3 : Int).toNat + m * 47111 + (c + 1) * 110323 + 60089) (show (2147483549 : Int) ≠ 0 by decide)
        have e2 := Int.emod_lt_of_pos (m ^ (3 : Int).toNat + m * 47111 + (c + 1) * 110323 + 60089) (show (0 : Int) < 2147483549 by decide)
        obtain ⟨kk2, fr2⟩ := up2 _ (HO.lst [.ref l, .int i, .int g, .int ((m ^ (3 : Int).toNat + m * 47111 + (c + 1) * 110323 + 60089) % 2147483549), .int (c + 1)]) kk fr
        refine ⟨_, rfl, b, _, _, _, rfl, rfl, SqL.of upd_same, rfl, _, _, rfl, rfl, ⟨by decide, by decide⟩, _, rfl, b, _, _, _, rfl, rfl, SqL.of upd_same, rfl, .inl ⟨_, rfl, _, _, rfl, rfl, (by show (0 : Int) < 8017; decide), _, _, rfl, rfl, Or.inr ⟨by decide, by decide⟩,
          _, _, rfl, rfl, .inl ⟨_, rfl, _, rfl, _, _, rfl, rfl, t0, ?_⟩⟩⟩
        refine k _ _ (Int.emod_nonneg _ (by omega)) (Int.emod_lt_of_pos _ t0) ⟨l, ns, i, g, _, c + 1, ?_, by rw [upd_ne nlb]; exact hl2, nlb, i0, g0, e1, by omega⟩ kk2 fr2
        exact upd_same
end
end K01

end

section
set_option Elab.async false
set_option linter.all false
set_option maxRecDepth 100000
set_option maxHeartbeats 4000000
namespace K01
open PySem L2 SB
section
variable {P : Program} {w : World} {K : PySem.W.Frag} {mg : Str → Option Value} {base : Heap}
theorem log2_small {n : Nat} (h : n < 2 ^ 62) : n.log2 < 9000 := by
  by_cases h0 : n = 0
  · subst h0; decide
  · exact Nat.lt_of_lt_of_le ((Nat.log2_lt h0).mpr h) (by decide)
theorem ok_of {f fD : Addr} {fd fdD : FuncData} (F : Fun K "_law_of" "_law_of" s_l_of f fd) (gLen : mg "len" = none) (gD : mg "_law_draw" = some (.ref fD)) (FD : FnOk P w K mg base CX0 1 fD fdD ["_law_bag_here", "_law_top"] spDraw)
    (kD : PySem.W.keepIn K (.ref fD) = true) (bD : Binds K fdD ["_law_bag_here", "_law_top"] []) : FnOk P w K mg base CX0 2 f fd ["_law_bag_here", "_law_some"] (spOf K) := by
  refine F.ok sc_l_of (fun vs H Q E h => ?_) (fun cdv A outer s H vs Q E hr h => ?_)
  · obtain ⟨a, ns, xs, rfl, _⟩ := h
    rfl
  · obtain ⟨b, p, xs, rfl, B, npb, hs, h0, h1, kl, kt, k⟩ := h
    refine ⟨_, pss_one (ps_ret (pe_ix ix_seq (pv 1) (pe_call FD hr (by rfl) gD kD bD .nil pass0 (pa_cons (pv 0) (pa_cons (pe_callB call_len_seq (by rfl) gLen PySem.boot_len (pa_cons (pv 1) pa_nil)) pa_nil))) (fun _ _ => rfl))), ?_⟩
    refine ⟨_, rfl, _, rfl, _, rfl, p, xs, rfl, hs, b, (xs.length : Int), rfl, B, by omega, ?_, fun d H' d0 d1 B' kk fr => ?_⟩
    · rw [Int.natAbs_natCast]
      exact log2_small h1
    · obtain ⟨v, hv⟩ : ∃ v, xs[d.toNat]? = some v := ⟨xs[d.toNat]'(by omega), List.getElem?_eq_getElem (by omega)⟩
      have hat : atI xs d = some v := at_of (j := d.toNat) (by omega) hv
      have hq : Q v H' := k v H' (List.mem_of_getElem? hv) B' kk fr
      rcases hs with hs | hs
      · exact .inl ⟨p, xs, d, v, rfl, rfl, kl H' kk hs, hat, hq⟩
      · exact .inr (.inl ⟨p, xs, d, v, rfl, rfl, kt H' kk hs, hat, hq⟩)
end
end K01

end

section
set_option Elab.async false
set_option linter.all false
set_option maxRecDepth 100000
set_option maxHeartbeats 4000000
namespace K01
open PySem L2 SB RZ
theorem alike_cases {K : PySem.W.Frag} {H : Hp} {n : Nat} {x y : V} (h : Alike K H n x y) : Leaf H x y ∨ ∃ m, n = m + 1 ∧
    ((∃ a b xs ys, x = .ref a ∧ y = .ref b ∧ SqL K H a xs ∧ SqL K H b ys ∧ xs.length < sizeLine ∧ Paired (Alike K H m) xs ys) ∨ ∃ a b xs ys, x = .ref a ∧ y = .ref b ∧ SqT K H a xs ∧ SqT K H b ys ∧ xs.length < sizeLine ∧ Paired (Alike K H m) xs ys) := by
  cases n with
  | zero => exact .inl h
  | succ m =>
    rcases h with h | h | h
    · exact .inl h
    · exact .inr ⟨m, rfl, .inl h⟩
    · exact .inr ⟨m, rfl, .inr h⟩
section
variable {P : Program} {w : World} {K : PySem.W.Frag} {mg : Str → Option Value} {base : Heap}
structure TSame (mg : Str → Option Value) : Prop where
  isi : mg "isinstance" = none
  lst : mg "list" = none
  tup : mg "tuple" = none
  len : mg "len" = none
  all : mg "all" = none
  zip : mg "zip" = none
  bool : mg "bool" = none
  int : mg "int" = none
  str : mg "str" = none
theorem ok_same {f : Addr} {fd : FuncData} (F : Fun K "_law_same" "_law_same" s_l_same f fd) (T : TSame mg) (gS : mg "_law_same" = some (.ref f)) (bS : Binds K fd ["_law_found", "_law_due"] []) :
    ∀ n, FnOk P w K mg base CX0 n f fd ["_law_found", "_law_due"] (spSame K n)
  | 0 => ⟨fun _ _ _ _ h => h.elim, fun _ _ _ _ _ _ _ _ _ _ _ _ _ h => h.elim⟩
  | n + 1 => by
    have G := ok_same F T gS bS n
    refine F.ok sc_l_same (fun vs H Q E h => ?_) (fun cdv A outer s H vs Q E hr h => ?_)
    · obtain ⟨x, y, rfl, _⟩ := h
      rfl
    · obtain ⟨x, y, rfl, al, k⟩ := h
      have nd := sc_l_same.nd
      have hu : (A.deeper (PyProof.Rows.envOfC "_law_same" (defScope s_l_same) s.heap.objs.size f cdv)).units + 64 < cLine := hr.units
      refine ⟨_, pss_cons (ps_if (pt_val (pe_callB call_isiT (by rfl) T.isi (by decide +kernel) (pa_cons (pv 1) (pa_cons (pe_tup (pa_cons (pe_bltn (v := .ty "list") (by rfl) T.lst (by decide +kernel) rfl) (pa_cons (pe_bltn (v := .ty "tuple") (by rfl) T.tup (by decide +kernel) rfl) pa_nil))) pa_nil))))
          (pss_cons (ps_if (PW.pt (pw_or (pt_cmpR op_ne (pe_callB call_isi (by rfl) T.isi (by decide +kernel) (pa_cons (pv 0) (pa_cons (pe_bltn (v := .ty "list") (by rfl) T.lst (by decide +kernel) rfl) pa_nil))) (pe_callB call_isi (by rfl) T.isi (by decide +kernel) (pa_cons (pv 1) (pa_cons (pe_bltn (v := .ty "list") (by rfl) T.lst (by decide +kernel) rfl) pa_nil))) (nomark _))
              (pw_or1 (pt_cmpR op_ne (pe_callB call_isi (by rfl) T.isi (by decide +kernel) (pa_cons (pv 0) (pa_cons (pe_bltn (v := .ty "tuple") (by rfl) T.tup (by decide +kernel) rfl) pa_nil))) (pe_callB call_isi (by rfl) T.isi (by decide +kernel) (pa_cons (pv 1) (pa_cons (pe_bltn (v := .ty "tuple") (by rfl) T.tup (by decide +kernel) rfl) pa_nil))) (nomark _)))))
            (pss_one (ps_ret pe_bl)) pss_nil)
          (pss_one (ps_ret (pe_and (pe_cmpR op_eq (pe_callB call_len_seq (by rfl) T.len PySem.boot_len (pa_cons (pv 0) pa_nil)) (pe_callB call_len_seq (by rfl) T.len PySem.boot_len (pa_cons (pv 1) pa_nil)) (nomark _))
            (pe_one (pe_callB (cr_all rfl) (by rfl) T.all (by decide +kernel) (pa_cons (pe_lc (own := [("_law_p", 2), ("_law_q", 3)]) (g := gTup K 2 (gCons (gName 2) (gCons (gName 3) gNil))) (tt := tYes) (te := tCall (spSame K n) [] E0 (tCons (tVar 2) (tCons (tVar 3) tNil))) rfl nd
              (pi_zipA (by rfl) T.zip (pa_cons (pv 0) (pa_cons (pv 1) pa_nil))) (blkOk_by (N := ["_law_found", "_law_due", "_law_p", "_law_q"]) (sc := defScope s_l_same) (by decide +kernel))
              (fun _ _ _ _ _ => pg_tup rfl (pgs_cons (pg_name (i := 2) nd rfl (Or.inl rfl)) (pgs_cons (pg_name (i := 3) nd rfl (Or.inl rfl)) pgs_nil))) (fun _ _ _ _ _ => pts_nil)
              (fun _ _ _ _ _ => pe_call G hr (by rfl) gS F.kp bS .nil pass0 (pa_cons (pv 2) (pa_cons (pv 3) pa_nil)))) pa_nil)))))))
          pss_nil)
        (pss_cons (ps_if (pt_val (pe_callB call_isiT (by rfl) T.isi (by decide +kernel) (pa_cons (pv 0) (pa_cons (pe_tup (pa_cons (pe_bltn (v := .ty "list") (by rfl) T.lst (by decide +kernel) rfl) (pa_cons (pe_bltn (v := .ty "tuple") (by rfl) T.tup (by decide +kernel) rfl) pa_nil))) pa_nil)))) (pss_one (ps_ret pe_bl)) pss_nil)
        (pss_cons (ps_if (PW.pt (pw_or (pt_cmpR op_isN (pv 1) pe_non (nomark _)) (pw_or1 (pt_cmpR op_isN (pv 0) pe_non (nomark _))))) (pss_one (ps_ret (pe_and (pe_cmpR op_isN (pv 1) pe_non (nomark _)) (pe_one (pe_cmpR op_isN (pv 0) pe_non (nomark _)))))) pss_nil)
        (pss_cons (ps_if (PW.pt (pw_or (pt_val (pe_callB call_isi (by rfl) T.isi (by decide +kernel) (pa_cons (pv 1) (pa_cons (pe_bltn (v := .ty "bool") (by rfl) T.bool (by decide +kernel) rfl) pa_nil)))) (pw_or1 (pt_val (pe_callB call_isi (by rfl) T.isi (by decide +kernel) (pa_cons (pv 0) (pa_cons (pe_bltn (v := .ty "bool") (by rfl) T.bool (by decide +kernel) rfl) pa_nil)))))))
            (pss_one (ps_ret (pe_and (pe_callB call_isi (by rfl) T.isi (by decide +kernel) (pa_cons (pv 1) (pa_cons (pe_bltn (v := .ty "bool") (by rfl) T.bool (by decide +kernel) rfl) pa_nil))) (pe_and (pe_callB call_isi (by rfl) T.isi (by decide +kernel) (pa_cons (pv 0) (pa_cons (pe_bltn (v := .ty "bool") (by rfl) T.bool (by decide +kernel) rfl) pa_nil))) (pe_one (pe_cmpR op_eq (pv 0) (pv 1) (nomark _))))))) pss_nil)
        (pss_cons (ps_if (PW.pt (pw_or (pt_val (pe_callB call_isi (by rfl) T.isi (by decide +kernel) (pa_cons (pv 1) (pa_cons (pe_bltn (v := .ty "int") (by rfl) T.int (by decide +kernel) rfl) pa_nil)))) (pw_or1 (pt_val (pe_callB call_isi (by rfl) T.isi (by decide +kernel) (pa_cons (pv 0) (pa_cons (pe_bltn (v := .ty "int") (by rfl) T.int (by decide +kernel) rfl) pa_nil)))))))
            (pss_one (ps_ret (pe_and (pe_callB call_isi (by rfl) T.isi (by decide +kernel) (pa_cons (pv 1) (pa_cons (pe_bltn (v := .ty "int") (by rfl) T.int (by decide +kernel) rfl) pa_nil))) (pe_and (pe_callB call_isi (by rfl) T.isi (by decide +kernel) (pa_cons (pv 0) (pa_cons (pe_bltn (v := .ty "int") (by rfl) T.int (by decide +kernel) rfl) pa_nil))) (pe_one (pe_cmpR op_eq (pv 0) (pv 1) (nomark _))))))) pss_nil)
        (pss_cons (ps_if (PW.pt (pw_or (pt_val (pe_callB call_isi (by rfl) T.isi (by decide +kernel) (pa_cons (pv 1) (pa_cons (pe_bltn (v := .ty "str") (by rfl) T.str (by decide +kernel) rfl) pa_nil)))) (pw_or1 (pt_val (pe_callB call_isi (by rfl) T.isi (by decide +kernel) (pa_cons (pv 0) (pa_cons (pe_bltn (v := .ty "str") (by rfl) T.str (by decide +kernel) rfl) pa_nil)))))))
            (pss_one (ps_ret (pe_and (pe_callB call_isi (by rfl) T.isi (by decide +kernel) (pa_cons (pv 1) (pa_cons (pe_bltn (v := .ty "str") (by rfl) T.str (by decide +kernel) rfl) pa_nil))) (pe_and (pe_callB call_isi (by rfl) T.isi (by decide +kernel) (pa_cons (pv 0) (pa_cons (pe_bltn (v := .ty "str") (by rfl) T.str (by decide +kernel) rfl) pa_nil))) (pe_one (pe_cmpR op_eq (pv 0) (pv 1) (nomark _))))))) pss_nil)
        (pss_one (ps_ret (pe_cmpR (op_eqV hu) (pv 0) (pv 1) (nomark _))))))))), ?_⟩
      have same0 : Same H H := Same.refl H
      have atoms : ∀ {U : String}, x = y → TyX K H x (.type U) → kitB U "list" = some false → kitB U "tuple" = some false → True := fun _ _ _ _ => trivial
      rcases alike_cases al with (⟨rfl, fl⟩ | ⟨a, kvs, rfl, rfl, ha, hk⟩) | ⟨m, rfl, ⟨a, b, xs, ys, rfl, rfl, h1, h2, hz, hp⟩ | ⟨a, b, xs, ys, rfl, rfl, h1, h2, hz, hp⟩⟩
      · cases x with
        | non =>
          have ty : ∀ H', TyX K H' V.non (.type "NoneType") := fun H' => .base .non
          refine rd_isLT (i := 1) rfl (ty _) (lt_of (b := false) (c := false) (by decide +kernel) (by decide +kernel)) fun H1 s1 => ⟨_, rfl, iteF ?_⟩
          refine rd_isLT (i := 0) rfl (ty _) (lt_of (b := false) (c := false) (by decide +kernel) (by decide +kernel)) fun H2 s2 => ⟨_, rfl, iteF ?_⟩
          refine ⟨_, rfl, rfl, _, rfl, iteT (iteT ?_)⟩
          exact ⟨_, rfl, rfl, _, rfl, iteT ⟨_, rfl, rfl, k _ (s1.trans s2)⟩⟩
        | bl q =>
          have ty : ∀ H', TyX K H' (V.bl q) (.type "bool") := fun H' => .base (.bl q)
          refine rd_isLT (i := 1) rfl (ty _) (lt_of (b := false) (c := false) (by decide +kernel) (by decide +kernel)) fun H1 s1 => ⟨_, rfl, iteF ?_⟩
          refine rd_isLT (i := 0) rfl (ty _) (lt_of (b := false) (c := false) (by decide +kernel) (by decide +kernel)) fun H2 s2 => ⟨_, rfl, iteF ?_⟩
          refine ⟨_, rfl, rfl, _, rfl, iteF ⟨_, rfl, rfl, _, rfl, iteF ?_⟩⟩
          refine rd_is (i := 1) rfl (ty _) (by decide +kernel) ⟨_, rfl, iteT (iteT ?_)⟩
          refine rd_is (i := 1) rfl (ty _) (by decide +kernel) ⟨_, rfl, iteT (rd_is (i := 0) rfl (ty _) (by decide +kernel) ⟨_, rfl, iteT ?_⟩)⟩
          refine ⟨_, rfl, _, rfl, by cases q <;> rfl, ?_⟩
          rw [decide_eq_true rfl]
          exact k _ (s1.trans s2)
        | int q =>
          have ty : ∀ H', TyX K H' (V.int q) (.type "int") := fun H' => .base (.int q)
          refine rd_isLT (i := 1) rfl (ty _) (lt_of (b := false) (c := false) (by decide +kernel) (by decide +kernel)) fun H1 s1 => ⟨_, rfl, iteF ?_⟩
          refine rd_isLT (i := 0) rfl (ty _) (lt_of (b := false) (c := false) (by decide +kernel) (by decide +kernel)) fun H2 s2 => ⟨_, rfl, iteF ?_⟩
          refine ⟨_, rfl, rfl, _, rfl, iteF ⟨_, rfl, rfl, _, rfl, iteF ?_⟩⟩
          refine rd_is (i := 1) rfl (ty _) (by decide +kernel) ⟨_, rfl, iteF (rd_is (i := 0) rfl (ty _) (by decide +kernel) ⟨_, rfl, iteF ?_⟩)⟩
          refine rd_is (i := 1) rfl (ty _) (by decide +kernel) ⟨_, rfl, iteT (iteT ?_)⟩
          refine rd_is (i := 1) rfl (ty _) (by decide +kernel) ⟨_, rfl, iteT (rd_is (i := 0) rfl (ty _) (by decide +kernel) ⟨_, rfl, iteT ?_⟩)⟩
          refine ⟨_, rfl, _, rfl, rfl, ?_⟩
          rw [decide_eq_true rfl]
          exact k _ (s1.trans s2)
        | str q =>
          have ty : ∀ H', TyX K H' (V.str q) (.type "str") := fun H' => .base (.str q)
          refine rd_isLT (i := 1) rfl (ty _) (lt_of (b := false) (c := false) (by decide +kernel) (by decide +kernel)) fun H1 s1 => ⟨_, rfl, iteF ?_⟩
          refine rd_isLT (i := 0) rfl (ty _) (lt_of (b := false) (c := false) (by decide +kernel) (by decide +kernel)) fun H2 s2 => ⟨_, rfl, iteF ?_⟩
          refine ⟨_, rfl, rfl, _, rfl, iteF ⟨_, rfl, rfl, _, rfl, iteF ?_⟩⟩
          refine rd_is (i := 1) rfl (ty _) (by decide +kernel) ⟨_, rfl, iteF (rd_is (i := 0) rfl (ty _) (by decide +kernel) ⟨_, rfl, iteF ?_⟩)⟩
          refine rd_is (i := 1) rfl (ty _) (by decide +kernel) ⟨_, rfl, iteF (rd_is (i := 0) rfl (ty _) (by decide +kernel) ⟨_, rfl, iteF ?_⟩)⟩
          refine rd_is (i := 1) rfl (ty _) (by decide +kernel) ⟨_, rfl, iteT (iteT ?_)⟩
          refine rd_is (i := 1) rfl (ty _) (by decide +kernel) ⟨_, rfl, iteT (rd_is (i := 0) rfl (ty _) (by decide +kernel) ⟨_, rfl, iteT ?_⟩)⟩
          refine ⟨_, rfl, _, rfl, rfl, ?_⟩
          rw [decide_eq_true rfl]
          exact k _ (s1.trans s2)
        | byt q => cases fl
        | flt q => cases fl
        | ref q => cases fl
        | ty q => cases fl
      · have ty : ∀ H', Same H H' → TyX K H' (V.ref a) (.type "dict") := fun H' ss => .base (.dK (ss _ _ ha))
        refine rd_isLT (i := 1) rfl (ty _ same0) (lt_of (b := false) (c := false) (by decide +kernel) (by decide +kernel)) fun H1 s1 => ⟨_, rfl, iteF ?_⟩
        refine rd_isLT (i := 0) rfl (ty _ s1) (lt_of (b := false) (c := false) (by decide +kernel) (by decide +kernel)) fun H2 s2 => ⟨_, rfl, iteF ?_⟩
        have t2 := ty _ (s1.trans s2)
        refine ⟨_, rfl, rfl, _, rfl, iteF ⟨_, rfl, rfl, _, rfl, iteF ?_⟩⟩
        refine rd_is (i := 1) rfl t2 (by decide +kernel) ⟨_, rfl, iteF (rd_is (i := 0) rfl t2 (by decide +kernel) ⟨_, rfl, iteF ?_⟩)⟩
        refine rd_is (i := 1) rfl t2 (by decide +kernel) ⟨_, rfl, iteF (rd_is (i := 0) rfl t2 (by decide +kernel) ⟨_, rfl, iteF ?_⟩)⟩
        refine rd_is (i := 1) rfl t2 (by decide +kernel) ⟨_, rfl, iteF (rd_is (i := 0) rfl t2 (by decide +kernel) ⟨_, rfl, iteF ?_⟩)⟩
        have ha2 := (s1.trans s2) _ _ ha
        exact ⟨_, rfl, _, rfl, 1, by decide, .inr ⟨a, a, kvs, kvs, rfl, rfl, ha2, ha2, rfl, fun p hp => ⟨_, (hk p hp).1, .inl ⟨rfl, (hk p hp).2⟩⟩⟩, k _ (s1.trans s2)⟩
      · refine rd_isLT (i := 1) rfl (ty_list h2) (lt_of (b := true) (c := false) (by decide +kernel) (by decide +kernel)) fun H1 s1 => ⟨_, rfl, iteT ?_⟩
        have g1 := (s1.seq h1)
        have g2 := (s1.seq h2)
        refine rd_is (b := true) (i := 0) rfl (ty_list g1) (by decide +kernel) (rd_is (b := true) (i := 1) rfl (ty_list g2) (by decide +kernel) ⟨rfl, _, rfl, iteNS rfl ?_⟩)
        refine rd_is (b := false) (i := 0) rfl (ty_list g1) (by decide +kernel) (rd_is (b := false) (i := 1) rfl (ty_list g2) (by decide +kernel) ⟨rfl, _, rfl, iteNS rfl ?_⟩)
        have el := paired_len hp
        refine ⟨_, rfl, a, xs, rfl, .inl g1, _, rfl, b, ys, rfl, .inl g2, rfl, true, congrArg V.bl (decide_eq_true (by rw [el])), iteT ?_⟩
        refine ⟨_, rfl, _, rfl, a, b, xs, ys, rfl, .inl ⟨g1, g2, fun D hD => ?_⟩⟩
        refine lc_walk (n := xs.length) (fun i H' => Same H1 H' ∧ H' D = some (.lst ((List.replicate i true).map V.bl))) ⟨Same.new (Same.refl H1) hD, upd_same⟩ (fun i H' hi p => ?_) (fun H' p => ?_) (fun i v H' H'' hi p yl => ?_) (fun H' p => ?_)
        · exact ⟨xs, ys, xs[i], ys[i]'(by omega), (p.1.seq g1), (p.1.seq g2), List.getElem?_eq_getElem hi, List.getElem?_eq_getElem (by omega)⟩
        · exact ⟨xs, ys, (p.1.seq g1), (p.1.seq g2), .inl (Nat.le_refl _)⟩
        · obtain ⟨T', u, v', rfl, hT, rfl, q1, q2⟩ := yl
          have e1 := q1 xs (p.1.seq g1)
          have e2 := q2 ys (p.1.seq g2)
          have s3 : Same H' (upd H' T' (.tup [u, v'])) := Same.new (Same.refl H') hT
          refine ⟨T', [u, v'], rfl, SqT.of upd_same, rfl, u, [v'], rfl, v', [], rfl, rfl, rfl, ?_⟩
          refine ⟨_, rfl, _, rfl, u, v', rfl, (paired_at hp e1 e2).same ((s1.trans p.1).trans s3), fun H4 s4 => ?_⟩
          refine ⟨_, s4 _ _ (s3 _ _ p.2), by rw [List.length_map, List.length_replicate]; omega, (fun c o e => ?_), ?_⟩
          · have e' := s4 _ _ (s3 _ _ (p.1 _ _ e))
            rw [upd_ne (ne_of_none e hD)]
            exact e'
          · rw [upd_same, List.replicate_succ', List.map_append]
            rfl
        · refine ⟨D, List.replicate xs.length true, rfl, SqL.of p.2, ?_⟩
          have e : (List.replicate xs.length true).all id = true := by simp
          rw [e]
          exact k _ (s1.trans p.1)
      · refine rd_isLT (i := 1) rfl (ty_tup h2) (lt_of (b := false) (c := true) (by decide +kernel) (by decide +kernel)) fun H1 s1 => ⟨_, rfl, iteT ?_⟩
        have g1 := (sqT_same s1 h1)
        have g2 := (sqT_same s1 h2)
        refine rd_is (b := false) (i := 0) rfl (ty_tup g1) (by decide +kernel) (rd_is (b := false) (i := 1) rfl (ty_tup g2) (by decide +kernel) ⟨rfl, _, rfl, iteNS rfl ?_⟩)
        refine rd_is (b := true) (i := 0) rfl (ty_tup g1) (by decide +kernel) (rd_is (b := true) (i := 1) rfl (ty_tup g2) (by decide +kernel) ⟨rfl, _, rfl, iteNS rfl ?_⟩)
        have el := paired_len hp
        refine ⟨_, rfl, a, xs, rfl, .inr g1, _, rfl, b, ys, rfl, .inr g2, rfl, true, congrArg V.bl (decide_eq_true (by rw [el])), iteT ?_⟩
        refine ⟨_, rfl, _, rfl, a, b, xs, ys, rfl, .inr ⟨g1, g2, fun D hD => ?_⟩⟩
        refine lc_walk (n := xs.length) (fun i H' => Same H1 H' ∧ H' D = some (.lst ((List.replicate i true).map V.bl))) ⟨Same.new (Same.refl H1) hD, upd_same⟩ (fun i H' hi p => ?_) (fun H' p => ?_) (fun i v H' H'' hi p yl => ?_) (fun H' p => ?_)
        · exact ⟨xs, ys, xs[i], ys[i]'(by omega), (sqT_same p.1 g1), (sqT_same p.1 g2), List.getElem?_eq_getElem hi, List.getElem?_eq_getElem (by omega)⟩
        · exact ⟨xs, ys, (sqT_same p.1 g1), (sqT_same p.1 g2), .inl (Nat.le_refl _)⟩
        · obtain ⟨T', u, v', rfl, hT, rfl, q1, q2⟩ := yl
          have e1 := q1 xs (sqT_same p.1 g1)
          have e2 := q2 ys (sqT_same p.1 g2)
          have s3 : Same H' (upd H' T' (.tup [u, v'])) := Same.new (Same.refl H') hT
          refine ⟨T', [u, v'], rfl, SqT.of upd_same, rfl, u, [v'], rfl, v', [], rfl, rfl, rfl, ?_⟩
          refine ⟨_, rfl, _, rfl, u, v', rfl, (paired_at hp e1 e2).same ((s1.trans p.1).trans s3), fun H4 s4 => ?_⟩
          refine ⟨_, s4 _ _ (s3 _ _ p.2), by rw [List.length_map, List.length_replicate]; omega, (fun c o e => ?_), ?_⟩
          · have e' := s4 _ _ (s3 _ _ (p.1 _ _ e))
            rw [upd_ne (ne_of_none e hD)]
            exact e'
          · rw [upd_same, List.replicate_succ', List.map_append]
            rfl
        · refine ⟨D, List.replicate xs.length true, rfl, SqL.of p.2, ?_⟩
          have e : (List.replicate xs.length true).all id = true := by simp
          rw [e]
          exact k _ (s1.trans p.1)
end
end K01

end

section
set_option Elab.async false
set_option linter.all false
set_option maxRecDepth 100000
set_option maxHeartbeats 4000000
namespace K01
open PySem L2 SB
abbrev bmLE : List Value := [.type "LookupError", .type "Exception", .type "BaseException", .type "object"]
abbrev bmVE : List Value := [.type "ValueError", .type "Exception", .type "BaseException", .type "object"]
def fsUN (ws : List V) : List (Str × V) := [("name", ws.getD 0 .non), ("code", .str "UnknownName")]
def fsTM (ws : List V) : List (Str × V) := [("count", ws.getD 1 .non), ("what", ws.getD 0 .non), ("code", .str "TooMany")]
def limTab : List (Str × Int) := [("keys", 12), ("moments", 60), ("rules", 40), ("items", 6), ("digits", 30), ("scripts", 5), ("nodes", 30), ("edges", 60), ("standings", 400), ("price keys", 5), ("price rows", 6), ("more", 5), ("unread", 10), ("names", 20), ("deeds", 60)]
def limV (z : Str) : Option Int := limTab.lookup z
structure Lims (K : PySem.W.Frag) (w : World) (mg : Str → Option Value) (L : Addr) : Prop where
  g : mg "LIMITS" = some (.ref L)
  d : ∃ es n, KDict K w L es n
  look : ∀ z : Str, (limV z = none ∧ PySem.W.nsIn K L z = some none) ∨ ∃ i t, limV z = some i ∧ PySem.W.nsIn K L z = some (some (.int i t))
/-- no word of a limit -/
def NoWord (K : PySem.W.Frag) (H : Hp) (x : V) : Prop := (∃ z, x = .str z ∧ limV z = none) ∨ ∃ T, TyX K H x (.type T) ∧ kitB T "str" = some false
def spLim (K : PySem.W.Frag) (CU : Addr) : Sp := fun vs H Q E => ∃ x, vs = [x] ∧ ((∃ z i, x = .str z ∧ limV z = some i ∧ Q (.int i) H) ∨
  (NoWord K H x ∧ ∀ d, H d = none → E (.ref CU) (some d) (upd H d (.xd (fsUN [x])))))
def spChk (K : PySem.W.Frag) (CU CT : Addr) : Sp := fun vs H Q E => ∃ x c, vs = [x, .int c] ∧ ((∃ z i, x = .str z ∧ limV z = some i ∧ (c ≤ i → Q .non H) ∧ (i < c → ∀ d, H d = none → E (.ref CT) (some d) (upd H d (.xd (fsTM [x, .int c]))))) ∨
  (NoWord K H x ∧ ∀ d, H d = none → E (.ref CU) (some d) (upd H d (.xd (fsUN [x])))))
section
variable {P : Program} {w : World} {K : PySem.W.Frag} {mg : Str → Option Value} {base : Heap}
theorem ok_initU {f C : Addr} {fd : FuncData} (F : Fun K "__init__" "UnknownName.__init__" s_UnknownName_init f fd) (X : XFacts K mg "UnknownName" C f bmLE "LookupError.__new__") (nF : PySem.W.findIn K (.ref C) "name" = some none) :
    FnOk P w K mg base CX0 1 f fd ["self", "name"] (spX C 1 fsUN) := by
  refine F.ok sc_UnknownName_init (fun vs H Q E h => ?_) (fun cdv A outer s H vs Q E hr h => ?_)
  · obtain ⟨a, ws, rfl, hl, _⟩ := h
    simpa using hl
  · obtain ⟨a, ws, rfl, hl, ha, k⟩ := h
    obtain ⟨x, rfl⟩ : ∃ x, ws = [x] := by
      match ws, hl with
      | [x], _ => exact ⟨x, rfl⟩
    refine ⟨_, pss_cons (ps_put PySem.F.store_LookupError X.T X.nC (pv 0) pe_str) (pss_one (ps_put PySem.F.store_LookupError X.T nF (pv 0) (pv 1))), ?_⟩
    refine ⟨_, rfl, a, rfl, .inl ⟨ha, fun d hd hda => ?_⟩⟩
    have had : a ≠ d := fun e => hda e.symm
    refine ⟨_, rfl, _, rfl, a, rfl, .inr ⟨d, _, upd_same, by rw [upd_ne hda, upd_same], by decide, ?_⟩⟩
    refine k d _ hd hda (by rw [upd_ne had, upd_same]) upd_same fun c h1 h2 => ?_
    rw [upd_ne h2, upd_ne h1, upd_ne h2]
theorem ok_initT {f C : Addr} {fd : FuncData} (F : Fun K "__init__" "TooMany.__init__" s_TooMany_init f fd) (X : XFacts K mg "TooMany" C f bmVE "ValueError.__new__") (nW : PySem.W.findIn K (.ref C) "what" = some none) (nF : PySem.W.findIn K (.ref C) "count" = some none) :
    FnOk P w K mg base CX0 1 f fd ["self", "what", "count"] (spX C 2 fsTM) := by
  refine F.ok sc_TooMany_init (fun vs H Q E h => ?_) (fun cdv A outer s H vs Q E hr h => ?_)
  · obtain ⟨a, ws, rfl, hl, _⟩ := h
    simpa using hl
  · obtain ⟨a, ws, rfl, hl, ha, k⟩ := h
    obtain ⟨x, y, rfl⟩ : ∃ x y, ws = [x, y] := by
      match ws, hl with
      | [x, y], _ => exact ⟨x, y, rfl⟩
    refine ⟨_, pss_cons (ps_put PySem.F.store_ValueError X.T X.nC (pv 0) pe_str) (pss_cons (ps_put PySem.F.store_ValueError X.T nW (pv 0) (pv 1)) (pss_one (ps_put PySem.F.store_ValueError X.T nF (pv 0) (pv 2)))), ?_⟩
    refine ⟨_, rfl, a, rfl, .inl ⟨ha, fun d hd hda => ?_⟩⟩
    have had : a ≠ d := fun e => hda e.symm
    refine ⟨_, rfl, _, rfl, a, rfl, .inr ⟨d, _, upd_same, by rw [upd_ne hda, upd_same], by decide, ?_⟩⟩
    refine ⟨_, rfl, _, rfl, a, rfl, .inr ⟨d, _, by rw [upd_ne had, upd_same], upd_same, (by show 2 ≤ 900; decide), ?_⟩⟩
    refine k d _ hd hda (by rw [upd_ne had, upd_ne had, upd_same]) upd_same fun c h1 h2 => ?_
    rw [upd_ne h2, upd_ne h2, upd_ne h1, upd_ne h2]
theorem ok_lim {f C fI L : Addr} {fd fdI : FuncData} (F : Fun K "limit_of" "limit_of" s_limit_of f fd) (gI : mg "isinstance" = none) (gS : mg "str" = none) (L0 : Lims K w mg L) (X : XFacts K mg "UnknownName" C fI bmLE "LookupError.__new__")
    (nF : PySem.W.findIn K (.ref C) "name" = some none) (FI : Fun K "__init__" "UnknownName.__init__" s_UnknownName_init fI fdI) (bI : Binds K fdI ["self", "name"] []) : FnOk P w K mg base (L2.CX P w) 3 f fd ["what"] (spLim K C) := by
  have G : FnOk P w K mg base CX0 1 fI fdI ["self", "name"] (spX C 1 fsUN) := ok_initU FI X nF
  obtain ⟨es, n, D⟩ := L0.d
  refine F.okX sc_limit_of (fun vs H Q E h => ?_) (fun cdv A outer s H vs Q E hr h => ?_)
  · obtain ⟨x, rfl, _⟩ := h
    rfl
  · obtain ⟨x, rfl, h⟩ := h
    refine ⟨_, pss_cons (ps_if (PW.pt (pw_or (pt_not (pt_val (pe_callB call_isi (by rfl) gI (by decide +kernel) (pa_cons (pv 0) (pa_cons (pe_bltn (v := .ty "str") (by rfl) gS (by decide +kernel) rfl) pa_nil)))))
        (pw_or1 (pt_cmpR (op_notIn_kd D) (pv 0) (pe_glob (v := .ref L) (by rfl) L0.g rfl) (by rfl)))))
        (pss_one (ps_raise rfl (takes_of rfl rfl rfl rfl) (pmk_exg PySem.F.excBase_LookupError X.T X.iC X.tI G hr bI .nil pass0 (by rfl) X.g (pa_cons (pv 0) pa_nil)))) pss_nil)
      (pss_one (ps_ret (pe_ix ix_kdict (pe_glob (v := .ref L) (by rfl) L0.g rfl) (pv 0) (fun _ _ => rfl)))), ?_⟩
    rcases h with ⟨z, i, rfl, hz, q⟩ | ⟨⟨z, rfl, hz⟩ | ⟨T, ty, hT⟩, k⟩
    · obtain ⟨r, hr⟩ | ⟨i', t, e1, e2⟩ := L0.look z
      · rw [hz] at r; cases r
      · rw [hz] at e1
        cases e1
        refine rd_is (b := true) (i := 0) rfl (.base (.str z)) (by decide +kernel) ⟨_, rfl, iteF ?_⟩
        refine ⟨_, rfl, z, _, rfl, rfl, e2, _, rfl, iteF ?_⟩
        exact ⟨_, rfl, L, z, .int i, rfl, rfl, ⟨es, n, _, D.at_, D.lit, e2, ⟨t, rfl⟩⟩, q⟩
    · obtain ⟨r, hr⟩ | ⟨i', t, e1, e2⟩ := L0.look z
      · refine rd_is (b := true) (i := 0) rfl (.base (.str z)) (by decide +kernel) ⟨_, rfl, iteF ?_⟩
        refine ⟨_, rfl, z, _, rfl, rfl, hr, _, rfl, iteT ?_⟩
        exact ⟨_, rfl, rd_raise rfl (by decide) k⟩
      · rw [hz] at e1; cases e1
    · refine rd_is (i := 0) rfl ty hT ⟨_, rfl, iteT (iteT ?_)⟩
      exact ⟨_, rfl, rd_raise rfl (by decide) k⟩
theorem ok_chk {f C CT fI fT fU L : Addr} {fd fdU fdT : FuncData} (F : Fun K "check_limit" "check_limit" s_check_limit f fd) (gU : mg "limit_of" = some (.ref fU)) (kU : PySem.W.keepIn K (.ref fU) = true) (bU : Binds K fdU ["what"] [])
    (GU : FnOk P w K mg base (L2.CX P w) 3 fU fdU ["what"] (spLim K C)) (X : XFacts K mg "TooMany" CT fT bmVE "ValueError.__new__")
    (nW : PySem.W.findIn K (.ref CT) "what" = some none) (nC : PySem.W.findIn K (.ref CT) "count" = some none) (FT : Fun K "__init__" "TooMany.__init__" s_TooMany_init fT fdT) (bT : Binds K fdT ["self", "what", "count"] []) :
    FnOk P w K mg base (L2.CX P w) 4 f fd ["what", "count"] (spChk K C CT) := by
  have G : FnOk P w K mg base CX0 1 fT fdT ["self", "what", "count"] (spX CT 2 fsTM) := ok_initT FT X nW nC
  refine F.okX sc_check_limit (fun vs H Q E h => ?_) (fun cdv A outer s H vs Q E hr h => ?_)
  · obtain ⟨x, c, rfl, _⟩ := h
    rfl
  · obtain ⟨x, c, rfl, h⟩ := h
    refine ⟨_, pss_one (ps_if (pt_cmpR op_gt (pv 1) (pe_call GU hr (by rfl) gU kU bU .nil (passes_call (takes_of rfl rfl rfl rfl) (fun _ _ _ _ z => z)) (pa_cons (pv 0) pa_nil)) (nomark _))
        (pss_one (ps_raise rfl (takes_of rfl rfl rfl rfl) (pmk_exg PySem.F.excBase_ValueError X.T X.iC X.tI G (hr.mono (by decide)) bT .nil pass0 (by rfl) X.g (pa_cons (pv 0) (pa_cons (pv 1) pa_nil))))) pss_nil), ?_⟩
    refine ⟨_, rfl, _, rfl, x, rfl, ?_⟩
    rcases h with ⟨z, i, rfl, hz, q1, q2⟩ | ⟨nw, k⟩
    · refine .inl ⟨z, i, rfl, hz, _, _, rfl, rfl, _, rfl, ite2 (fun h => ?_) (fun h => ?_)⟩
      · exact ⟨_, rfl, _, rfl, rd_raise rfl (by decide) (q2 (of_decide_eq_true h))⟩
      · exact q1 (by have := of_decide_eq_false (Bool.eq_false_iff.mpr h); omega)
    · exact .inr ⟨nw, k⟩
end
end K01

end

section
set_option Elab.async false
set_option linter.all false
set_option maxRecDepth 100000
set_option maxHeartbeats 4000000
namespace K01
open PySem L2 SB
/-- what a law's own try says: the tuple -/
def spLimit (K : PySem.W.Frag) : Sp := fun vs H Q _ => ∃ x b, vs = [x, .bl b] ∧ ((∃ z i, x = .str z ∧ limV z = some i ∧ ∀ t H', Same H H' → H' t = some (.tup [.str "told", .int i]) → Q (.ref t) H') ∨
  (NoWord K H x ∧ ∀ t H', Same H H' → H' t = some (.tup [.str "UnknownName", x]) → Q (.ref t) H'))
def spChecked (K : PySem.W.Frag) : Sp := fun vs H Q _ => ∃ x c b, vs = [x, .int c, .bl b] ∧ ((∃ z i, x = .str z ∧ limV z = some i ∧ (c ≤ i → ∀ t H', Same H H' → H' t = some (.tup [.str "let", .non]) → Q (.ref t) H') ∧
    (i < c → ∀ t H', Same H H' → H' t = some (.tup [.str "TooMany", x, .int c]) → Q (.ref t) H')) ∨
  (NoWord K H x ∧ ∀ t H', Same H H' → H' t = some (.tup [.str "UnknownName", x]) → Q (.ref t) H'))
def g1 {α : Type} (us ws : List α) : List α := us ++ ws
def g2 {α : Type} (us ws : List α) : List α := match us, ws with
  | [], [c, w] => [w, c]
  | _, _ => []
abbrev wChk (K : PySem.W.Frag) (C CT : Addr) : Ends → WX := fun D => wAs K (.ref C) 3 (fun a cls d => tRet (tTup (tCons (tXf a cls d C "code" (tVar 3)) (tCons (tXf a cls d C "name" (tVar 3)) tNil))))
        (wAs K (.ref CT) 3 (fun a cls d => tRet (tTup (tCons (tXf a cls d CT "code" (tVar 3)) (tCons (tXf a cls d CT "what" (tVar 3)) (tCons (tXf a cls d CT "count" (tVar 3)) tNil))))) (fun _ _ _ _ => False) D) D
section
variable {P : Program} {w : World} {K : PySem.W.Frag} {mg : Str → Option Value} {base : Heap}
theorem ok_limit {f C fI fU : Addr} {fd fdU : FuncData} (F : Fun K "_law_limit" "_law_limit" s_l_limit f fd) (gU : mg "limit_of" = some (.ref fU)) (kU : PySem.W.keepIn K (.ref fU) = true) (bU : Binds K fdU ["what"] []) (kb : KBinds K fdU ["what"] ["what"] g1 g1)
    (GU : FnOk P w K mg base (L2.CX P w) 3 fU fdU ["what"] (spLim K C)) (X : XFacts K mg "UnknownName" C fI bmLE "LookupError.__new__") (nF : PySem.W.findIn K (.ref C) "name" = some none) :
    FnOk P w K mg base CX0 4 f fd ["_law_v", "_law_named"] (spLimit K) := by
  refine F.ok sc_l_limit (fun vs H Q E h => ?_) (fun cdv A outer s H vs Q E hr h => ?_)
  · obtain ⟨x, b, rfl, _⟩ := h
    rfl
  · obtain ⟨x, b, rfl, h⟩ := h
    refine ⟨_, pss_one (ps_try_clauses (Wout := fun _ _ _ _ => False)
      (tb := fun W => tRet (tTup (tCons (tC (.str "told")) (tCons (tIf (tB (tVar 1)) (tKW (spLim K C) g1 (WE W) (tCons (tVar 0) tNil)) (tCallS (spLim K C) (WE W) (tCons (tVar 0) tNil))) tNil))))
      (wW := fun D => wAs K (.ref C) 2 (fun a cls d => tRet (tTup (tCons (tXf a cls d C "code" (tVar 2)) (tCons (tXf a cls d C "name" (tVar 2)) tNil)))) (fun _ _ _ _ => False) D)
      rfl rfl sc_l_limit.nd takes0
      (fun W pn xe tk _ => pss_one (ps_ret (pe_tup (pa_cons pe_str (pa_cons (pe_ifExp (pt_val (pv 1)) (pe_callKW GU hr (by rfl) gU kU kb (fun σ => passAt tk σ) (pk_cons (pv 0) pk_nil)) (pe_callS GU hr (by rfl) gU kU bU (fun σ => passAt tk σ) (pa_cons (pv 0) pa_nil))) pa_nil)))))
      (fun D => .more (i := 2) rfl rfl ⟨rfl, by decide, .inl X.g⟩ (fun a oe cls d pn hz hf => pss_one (ps_ret (pe_tup (pa_cons (pe_xf X.F X.nC hz hf (pv 2)) (pa_cons (pe_xf X.F nF hz hf (pv 2)) pa_nil))))) .done)), ?_⟩
    have caught : NoWord K H x ∧ (∀ t H', Same H H' → H' t = some (.tup [.str "UnknownName", x]) → Q (.ref t) H') → ∀ d, H d = none →
        wAs K (.ref C) 2 (fun a cls d => tRet (tTup (tCons (tXf a cls d C "code" (tVar 2)) (tCons (tXf a cls d C "name" (tVar 2)) tNil)))) (fun _ _ _ _ => False) { nx := fun _ H' => Q .non H', rt := Q } (.ref C) (some d)
          (L2.start ["_law_v", "_law_named", "e"] [x, .bl b]) (upd H d (.xd (fsUN [x]))) := fun ⟨nw, k⟩ d hd => by
      refine ⟨true, X.me, fun _ a ha => ?_, fun q => nomatch q⟩
      refine ⟨_, rfl, rfl, rfl, d, _, _, rfl, upd_same, rfl, _, rfl, rfl, rfl, d, _, _, rfl, upd_same, rfl, (by show 2 ≤ sizeLine; decide), fun t ht => ?_⟩
      exact k t _ (Same.new (Same.new (Same.refl H) hd) ht) upd_same
    have told : ∀ {z : Str} {i : Int}, (∀ t H', Same H H' → H' t = some (.tup [.str "told", .int i]) → Q (.ref t) H') → [V.str "told", V.int i].length ≤ sizeLine ∧ ∀ p, H p = none → Q (.ref p) (upd H p (.tup [.str "told", .int i])) := fun q =>
      ⟨(by show 2 ≤ sizeLine; decide), fun t ht => q t _ (Same.new (Same.refl H) ht) upd_same⟩
    cases b with
    | true =>
      refine ⟨_, rfl, _, rfl, iteT ⟨_, rfl, x, rfl, ?_⟩⟩
      rcases h with ⟨z, i, rfl, hz, q⟩ | h
      · exact .inl ⟨z, i, rfl, hz, told (z := z) q⟩
      · exact .inr ⟨h.1, caught h⟩
    | false =>
      refine ⟨_, rfl, _, rfl, iteF ⟨_, rfl, x, rfl, ?_⟩⟩
      rcases h with ⟨z, i, rfl, hz, q⟩ | h
      · exact .inl ⟨z, i, rfl, hz, told (z := z) q⟩
      · exact .inr ⟨h.1, caught h⟩
theorem ok_checked {f C CT fI fT fU : Addr} {fd fdU : FuncData} (F : Fun K "_law_checked" "_law_checked" s_l_checked f fd) (gU : mg "check_limit" = some (.ref fU)) (kU : PySem.W.keepIn K (.ref fU) = true) (bU : Binds K fdU ["what", "count"] []) (kb : KBinds K fdU ["what", "count"] ["count", "what"] g2 g2)
    (GU : FnOk P w K mg base (L2.CX P w) 4 fU fdU ["what", "count"] (spChk K C CT)) (X : XFacts K mg "UnknownName" C fI bmLE "LookupError.__new__") (nF : PySem.W.findIn K (.ref C) "name" = some none)
    (Y : XFacts K mg "TooMany" CT fT bmVE "ValueError.__new__") (nW : PySem.W.findIn K (.ref CT) "what" = some none) (nC : PySem.W.findIn K (.ref CT) "count" = some none) (ap : PySem.W.exmOne K (.ref CT) (.ref C) = some false) :
    FnOk P w K mg base CX0 5 f fd ["_law_v", "_law_n", "_law_named"] (spChecked K) := by
  refine F.ok sc_l_checked (fun vs H Q E h => ?_) (fun cdv A outer s H vs Q E hr h => ?_)
  · obtain ⟨x, c, b, rfl, _⟩ := h
    rfl
  · obtain ⟨x, c, b, rfl, h⟩ := h
    refine ⟨_, pss_one (ps_try_clauses (Wout := fun _ _ _ _ => False)
      (tb := fun W => tRet (tTup (tCons (tC (.str "let")) (tCons (tIf (tB (tVar 2)) (tKW (spChk K C CT) g2 (WE W) (tCons (tVar 1) (tCons (tVar 0) tNil))) (tCallS (spChk K C CT) (WE W) (tCons (tVar 0) (tCons (tVar 1) tNil)))) tNil))))
      (wW := wChk K C CT)
      rfl rfl sc_l_checked.nd takes0
      (fun W pn xe tk _ => pss_one (ps_ret (pe_tup (pa_cons pe_str (pa_cons (pe_ifExp (pt_val (pv 2)) (pe_callKW GU hr (by rfl) gU kU kb (fun σ => passAt tk σ) (pk_cons (pv 1) (pk_cons (pv 0) pk_nil))) (pe_callS GU hr (by rfl) gU kU bU (fun σ => passAt tk σ) (pa_cons (pv 0) (pa_cons (pv 1) pa_nil)))) pa_nil)))))
      (fun D => .more (i := 3) rfl rfl ⟨rfl, by decide, .inl X.g⟩ (fun a oe cls d pn hz hf => pss_one (ps_ret (pe_tup (pa_cons (pe_xf X.F X.nC hz hf (pv 3)) (pa_cons (pe_xf X.F nF hz hf (pv 3)) pa_nil)))))
        (.more (i := 3) rfl rfl ⟨rfl, by decide, .inl Y.g⟩ (fun a oe cls d pn hz hf => pss_one (ps_ret (pe_tup (pa_cons (pe_xf Y.F Y.nC hz hf (pv 3)) (pa_cons (pe_xf Y.F nW hz hf (pv 3)) (pa_cons (pe_xf Y.F nC hz hf (pv 3)) pa_nil)))))) .done))), ?_⟩
    have caught : NoWord K H x ∧ (∀ t H', Same H H' → H' t = some (.tup [.str "UnknownName", x]) → Q (.ref t) H') → ∀ d, H d = none →
        wChk K C CT { nx := fun _ H' => Q .non H', rt := Q } (.ref C) (some d) (L2.start ["_law_v", "_law_n", "_law_named", "e"] [x, .int c, .bl b]) (upd H d (.xd (fsUN [x]))) := fun ⟨nw, k⟩ d hd => by
      refine ⟨true, X.me, fun _ a ha => ?_, fun q => nomatch q⟩
      refine ⟨_, rfl, rfl, rfl, d, _, _, rfl, upd_same, rfl, _, rfl, rfl, rfl, d, _, _, rfl, upd_same, rfl, (by show 2 ≤ sizeLine; decide), fun t ht => ?_⟩
      exact k t _ (Same.new (Same.new (Same.refl H) hd) ht) upd_same
    have much : (∀ t H', Same H H' → H' t = some (.tup [.str "TooMany", x, .int c]) → Q (.ref t) H') → ∀ d, H d = none →
        wChk K C CT { nx := fun _ H' => Q .non H', rt := Q } (.ref CT) (some d) (L2.start ["_law_v", "_law_n", "_law_named", "e"] [x, .int c, .bl b]) (upd H d (.xd (fsTM [x, .int c]))) := fun k d hd => by
      refine ⟨false, ap, (fun q => nomatch q), fun _ => ⟨true, Y.me, fun _ a ha => ?_, fun q => nomatch q⟩⟩
      refine ⟨_, rfl, rfl, rfl, d, _, _, rfl, upd_same, rfl, _, rfl, rfl, rfl, d, _, _, rfl, upd_same, rfl, _, rfl, rfl, rfl, d, _, _, rfl, upd_same, rfl, (by show 3 ≤ sizeLine; decide), fun t ht => ?_⟩
      exact k t _ (Same.new (Same.new (Same.refl H) hd) ht) upd_same
    have told : (∀ t H', Same H H' → H' t = some (.tup [.str "let", .non]) → Q (.ref t) H') → [V.str "let", V.non].length ≤ sizeLine ∧ ∀ p, H p = none → Q (.ref p) (upd H p (.tup [.str "let", .non])) := fun q =>
      ⟨(by show 2 ≤ sizeLine; decide), fun t ht => q t _ (Same.new (Same.refl H) ht) upd_same⟩
    cases b with
    | true =>
      refine ⟨_, rfl, _, rfl, iteT ⟨_, rfl, _, rfl, x, c, rfl, ?_⟩⟩
      rcases h with ⟨z, i, rfl, hz, q1, q2⟩ | h
      · exact .inl ⟨z, i, rfl, hz, fun hc => told (q1 hc), fun hc => much (q2 hc)⟩
      · exact .inr ⟨h.1, caught h⟩
    | false =>
      refine ⟨_, rfl, _, rfl, iteF ⟨_, rfl, _, rfl, x, c, rfl, ?_⟩⟩
      rcases h with ⟨z, i, rfl, hz, q1, q2⟩ | h
      · exact .inl ⟨z, i, rfl, hz, fun hc => told (q1 hc), fun hc => much (q2 hc)⟩
      · exact .inr ⟨h.1, caught h⟩
end
end K01

end

section
set_option Elab.async false
set_option linter.all false
set_option maxRecDepth 100000
set_option maxHeartbeats 8000000
namespace K01
open PySem L2 SB
def wordsL : List Str := limTab.map (·.1)
def mostL : List Int := limTab.map (·.2)
theorem words_small : ∀ z ∈ wordsL, smB z = true ∧ smB (Txt.upper z) = true ∧ z.length ≤ 12 ∧ 0 < z.length := by decide +kernel
theorem words_one : ∀ z ∈ wordsL, okD (.list [.str z]) = true ∧ okD (.tuple [.str z]) = true := by decide +kernel
theorem words_split : ∀ z ∈ wordsL, okD (.list ((Txt.split z " ").map .str)) = true ∧ (Txt.split z " ").length < sizeLine := by decide +kernel
theorem words_dict : ∀ z ∈ wordsL, (PyData.dict [(.str z, .int 12)]).showable = true ∧ (PyData.dict [(.str z, .int 12)]).shown.length ≤ sizeLine ∧ (PyData.dict [(.str z, .int 12)]).depth ≤ 8 := by decide +kernel
theorem words_all : okD (.tuple (wordsL.map .str)) = true ∧ okD (.list (wordsL.map .str)) = true := by decide +kernel
theorem lim_range {z : Str} {i : Int} (h : limV z = some i) : 5 ≤ i ∧ i ≤ 400 := by
  have := look_val limTab h
  have all : ∀ i ∈ limTab.map (·.2), 5 ≤ i ∧ i ≤ 400 := by decide
  exact all i this
end K01

end

section
set_option Elab.async false
set_option linter.all false
set_option maxRecDepth 100000
set_option maxHeartbeats 8000000
namespace K01
open PySem L2 SB
abbrev N_law : List Str := ["_law_script", "_law_bag_here", "_law_words", "_law_most_y", "_law_turn", "_law_near", "_law_far", "_law_menu", "_law_v", "_law_known", "_law_top", "_law_n", "_law_kept", "_law_named", "_law_due", "_law_p"]
/-- the law's own defs, as they stand -/
structure Defs (P : Program) (w : World) (K : PySem.W.Frag) (mg : Str → Option Value) (base : Heap) (W : Addr) : Prop where
  bg : ∃ f fd, mg "_law_bag" = some (.ref f) ∧ PySem.W.keepIn K (.ref f) = true ∧ Binds K fd ["_law_script"] [] ∧ FnOk P w K mg base CX0 1 f fd ["_law_script"] (spBag K)
  dr : ∃ f fd, mg "_law_draw" = some (.ref f) ∧ PySem.W.keepIn K (.ref f) = true ∧ Binds K fd ["_law_bag_here", "_law_top"] [] ∧ FnOk P w K mg base CX0 1 f fd ["_law_bag_here", "_law_top"] spDraw
  of : ∃ f fd, mg "_law_of" = some (.ref f) ∧ PySem.W.keepIn K (.ref f) = true ∧ Binds K fd ["_law_bag_here", "_law_some"] [] ∧ FnOk P w K mg base CX0 2 f fd ["_law_bag_here", "_law_some"] (spOf K)
  sm : ∃ f fd, mg "_law_same" = some (.ref f) ∧ PySem.W.keepIn K (.ref f) = true ∧ Binds K fd ["_law_found", "_law_due"] [] ∧ FnOk P w K mg base CX0 4 f fd ["_law_found", "_law_due"] (spSame K 4)
  lm : ∃ f fd, mg "_law_limit" = some (.ref f) ∧ PySem.W.keepIn K (.ref f) = true ∧ Binds K fd ["_law_v", "_law_named"] [] ∧ FnOk P w K mg base CX0 4 f fd ["_law_v", "_law_named"] (spLimit K)
  ch : ∃ f fd, mg "_law_checked" = some (.ref f) ∧ PySem.W.keepIn K (.ref f) = true ∧ Binds K fd ["_law_v", "_law_n", "_law_named"] [] ∧ FnOk P w K mg base CX0 5 f fd ["_law_v", "_law_n", "_law_named"] (spChecked K)
  gW : mg "WORDS" = some (.ref W)
  W : ∀ H, SqT K H W (wordsL.map V.str)
  len : mg "len" = none
  isi : mg "isinstance" = none
  str : mg "str" = none
  lst : mg "list" = none
  rng : mg "range" = none
  rep : mg "repr" = none
def spLaw (K : PySem.W.Frag) : Sp := fun vs H Q _ => ∃ (a : Addr) (ns : List Int), vs = [.ref a] ∧ SqL K H a (ns.map V.int) ∧ ns.length ≤ 63 ∧ ∀ H', Q (.bl true) H'
def sg (a b pw pm : Addr) (x4 x5 x6 x7 x8 x9 x10 x11 x12 x13 x14 x15 : Option V) : L2.St :=
  [some (.ref a), some (.ref b), some (.ref pw), some (.ref pm), x4, x5, x6, x7, x8, x9, x10, x11, x12, x13, x14, x15]
structure LHp (b pw pm : Addr) (H : Hp) : Prop where
  B : BagAt H b
  nw : pw ≠ b
  nm : pm ≠ b
  w : ∃ o : Obj, o.dict = none ∧ o.cls = .type "tuple" ∧ H pw = some (.frz o (.tup (wordsL.map V.str)))
  m : H pm = some (.lst (mostL.map V.int))
theorem LHp.keep {b pw pm : Addr} {H H' : Hp} (x : LHp b pw pm H) (B : BagAt H' b) (k : Keep b H H') : LHp b pw pm H' :=
  ⟨B, x.nw, x.nm, let ⟨o, h1, h2, h3⟩ := x.w; ⟨o, h1, h2, k _ _ h3 x.nw⟩, k _ _ x.m x.nm⟩
theorem LHp.same {b pw pm : Addr} {H H' : Hp} (x : LHp b pw pm H) (s : Same H H') : LHp b pw pm H' := x.keep (x.B.same s) (Keep.ofSame s)
theorem LHp.wq {b pw pm : Addr} {H : Hp} {K : PySem.W.Frag} (x : LHp b pw pm H) : SqT K H pw (wordsL.map V.str) := let ⟨o, _, _, h⟩ := x.w; .inl (.inr ⟨o, h⟩)
theorem paired_of_at {α β : Type} {F : α → β → Prop} : ∀ {xs : List α} {ys : List β}, xs.length = ys.length → (∀ (i : Nat) x y, xs[i]? = some x → ys[i]? = some y → F x y) → Paired F xs ys
  | [], [], _, _ => .nil
  | x :: xs, y :: ys, hl, h => .cons (h 0 x y rfl rfl) (paired_of_at (by simpa using hl) fun i a b h1 h2 => h (i + 1) a b h1 h2)
  | [], _ :: _, hl, _ => by simp at hl
  | _ :: _, [], hl, _ => by simp at hl
def Kn6 (b : Addr) (K : PySem.W.Frag) (H : Hp) (v : V) (kn : Bool) : Prop := (kn = true ∧ ∃ z i, v = .str z ∧ limV z = some i) ∨ (kn = false ∧ ∀ H', Keep b H H' → NoWord K H' v)
def Kn7 (b : Addr) (K : PySem.W.Frag) (H : Hp) (v : V) (kn : Bool) (tp : Int) : Prop := (kn = true ∧ ∃ z, v = .str z ∧ limV z = some tp) ∨ (kn = false ∧ tp = 12 ∧ ∀ H', Keep b H H' → NoWord K H' v)
theorem Kn7.keep {b : Addr} {K : PySem.W.Frag} {H H' : Hp} {v : V} {kn : Bool} {tp : Int} (x : Kn7 b K H v kn tp) (k : Keep b H H') : Kn7 b K H' v kn tp :=
  x.imp id fun ⟨h1, h2, h3⟩ => ⟨h1, h2, fun G g => h3 G (k.trans g)⟩
theorem Kn7.pos {b : Addr} {K : PySem.W.Frag} {H : Hp} {v : V} {kn : Bool} {tp : Int} (x : Kn7 b K H v kn tp) : 5 ≤ tp ∧ tp ≤ 400 := by
  rcases x with ⟨_, z, _, h⟩ | ⟨_, h, _⟩
  · exact lim_range h
  · omega
section
variable {P : Program} {w : World} {K : PySem.W.Frag} {mg : Str → Option Value} {base : Heap}
theorem ok_law {f W : Addr} {fd : FuncData} (F : Fun K "law" "law" s_law f fd) (M0 : Defs P w K mg base W) : AtCaller P w K mg base f fd "_law_script" (spLaw K) := by
  obtain ⟨⟨fB, dB, gB, kB, bB, bg⟩, ⟨fD, dD, gD, kD, bD, dr⟩, ⟨fO, dO, gO, kO, bO, of⟩, ⟨fS, dS, gS, kS, bS, sm⟩, ⟨fL, dL, gL, kL, bL, lm⟩, ⟨fC, dC, gC, kC, bC, ch⟩, gW, hW, len, isi, str, lst, rng, rep⟩ := M0
  refine caller_ok (k := 8) F sc_law ⟨rfl, by decide, by decide⟩ (fun cdv s H v Q hr h => ?_)
  have hr1 : Room 1 _ := hr.mono (by decide)
  have hr2 : Room 2 _ := hr.mono (by decide)
  have hr4 : Room 4 _ := hr.mono (by decide)
  have hr5 : Room 5 _ := hr.mono (by decide)
  have hu : (PyProof.Rows.envOfC "law" (defScope s_law) s.heap.objs.size f cdv |> callerA.deeper).units + 40 < cLine := by have := hr.units; omega
  obtain ⟨a, ns, e, hS, hlen, k⟩ := h
  obtain rfl : v = .ref a := List.head_eq_of_cons_eq e
  refine ⟨_, pss_cons (ps_set (i := 1) sc_law.nd rfl (Or.inl rfl) (pe_call bg hr1 (by rfl) gB kB bB .nil pass0 (pa_cons (pv 0) pa_nil)))
      (pss_cons (ps_set (i := 2) sc_law.nd rfl (Or.inl rfl) (pe_tupF (pa_cons pe_str (pa_cons pe_str (pa_cons pe_str (pa_cons pe_str (pa_cons pe_str (pa_cons pe_str (pa_cons pe_str (pa_cons pe_str (pa_cons pe_str (pa_cons pe_str (pa_cons pe_str (pa_cons pe_str (pa_cons pe_str (pa_cons pe_str (pa_cons pe_str pa_nil)))))))))))))))))
      (pss_cons (ps_set (i := 3) sc_law.nd rfl (Or.inl rfl) (pe_lst (pa_cons pe_int (pa_cons pe_int (pa_cons pe_int (pa_cons pe_int (pa_cons pe_int (pa_cons pe_int (pa_cons pe_int (pa_cons pe_int (pa_cons pe_int (pa_cons pe_int (pa_cons pe_int (pa_cons pe_int (pa_cons pe_int (pa_cons pe_int (pa_cons pe_int pa_nil)))))))))))))))))
      (pss_cut (ps_if (pt_not (pt_val (pe_call sm hr4 (by rfl) gS kS bS .nil pass0 (pa_cons (pe_lst (pa_cons (pe_glob (v := .ref W) (by rfl) gW rfl) (pa_cons (pe_lc (own := [("_law_p", 15)]) (g := gName 15) (tt := tYes) (te := tCall (spLimit K) [] E0 (tCons (tVar 15) (tCons (tC (.bl false)) tNil))) rfl sc_law.nd (pi_tup (pe_glob (v := .ref W) (by rfl) gW rfl)) (blkOk_by (N := N_law) (sc := defScope s_law) (by decide +kernel))
          (fun _ _ _ _ _ => pg_name (i := 15) sc_law.nd rfl (Or.inl rfl)) (fun _ _ _ _ _ => pts_nil) (fun _ _ _ _ _ => pe_call lm hr4 (by rfl) gL kL bL .nil pass0 (pa_cons (pv 15) (pa_cons pe_bl pa_nil)))) pa_nil))) (pa_cons (pe_lst (pa_cons (pv 2) (pa_cons (pe_lc (own := [("_law_n", 11)]) (g := gName 11) (tt := tYes) (te := tTup (tCons (tC (.str "told")) (tCons (tVar 11) tNil))) rfl sc_law.nd (pi_list (pv 3)) (blkOk_by (N := N_law) (sc := defScope s_law) (by decide +kernel))
          (fun _ _ _ _ _ => pg_name (i := 11) sc_law.nd rfl (Or.inl rfl)) (fun _ _ _ _ _ => pts_nil) (fun _ _ _ _ _ => pe_tup (pa_cons pe_str (pa_cons (pv 11) pa_nil)))) pa_nil))) pa_nil))))) (pss_one (ps_ret pe_bl)) pss_nil)
      (pss_cons (ps_for PassesOwn.never rfl (pi_range1 (by rfl) rng (pa_cons pe_int pa_nil)) (pg_name (i := 4) sc_law.nd rfl (Or.inl rfl))
        (pss_cut (ps_set (i := 5) sc_law.nd rfl (Or.inl rfl) (pe_call of hr2 (by rfl) gO kO bO .nil pass0 (pa_cons (pv 1) (pa_cons (pv 2) pa_nil))))
        (pss_cut (ps_set (i := 6) sc_law.nd rfl (Or.inl rfl) (pe_op op_add_str (pe_op op_add_str (pe_slice sl_str (pv 5) po_none (po_some (pe_call dr hr1 (by rfl) gD kD bD .nil pass0 (pa_cons (pv 1) (pa_cons (pe_callB call_len_str (by rfl) len PySem.boot_len (pa_cons (pv 5) pa_nil)) pa_nil))))) (pe_call of hr2 (by rfl) gO kO bO .nil pass0 (pa_cons (pv 1) (pa_cons (pe_lst (pa_cons pe_str (pa_cons pe_str (pa_cons pe_str (pa_cons pe_str (pa_cons pe_str pa_nil)))))) pa_nil)))) (pe_slice sl_str (pv 5) (po_some (pe_call dr hr1 (by rfl) gD kD bD .nil pass0 (pa_cons (pv 1) (pa_cons (pe_callB call_len_str (by rfl) len PySem.boot_len (pa_cons (pv 5) pa_nil)) pa_nil)))) po_none)))
        (pss_cut (ps_set (i := 7) sc_law.nd rfl (Or.inl rfl) (pe_lst (pa_cons pe_non (pa_cons pe_bl (pa_cons pe_bl (pa_cons pe_int (pa_cons pe_int (pa_cons pe_str (pa_cons pe_str (pa_cons pe_str (pa_cons pe_str (pa_cons pe_str (pa_cons pe_str (pa_cons (pv 6) (pa_cons (pv 6) (pa_cons (pe_op op_add_str (pv 5) pe_str) (pa_cons (pe_op op_add_str pe_str (pv 5)) (pa_cons (pe_op op_add_str (pv 5) pe_str) (pa_cons (pe_upper (pv 5)) (pa_cons (pe_op op_add_str (pv 5) pe_str) pa_nil))))))))))))))))))))
        (pss_cut (ps_set (i := 7) sc_law.nd rfl (Or.inl rfl) (pe_op op_cat (pv 7) (pe_lst (pa_cons (pe_tup (pa_cons (pv 5) pa_nil)) (pa_cons (pe_lst (pa_cons (pv 5) pa_nil)) (pa_cons (pe_disp (pps_cons (pv 5) pe_int pps_nil) (by rfl) (by rfl) (fun z => by cases z) (by decide)) (pa_cons (pe_split (pv 5) pe_str) (pa_cons (pe_tup pa_nil) (pa_cons (pe_lst pa_nil) (pa_cons pe_dnewK (pa_cons (pe_tup (pa_cons pe_str (pa_cons pe_str pa_nil))) (pa_cons pe_str (pa_cons (pv 2) (pa_cons (pe_callTy call_list_of (by rfl) lst (by decide +kernel) (pa_cons (pv 2) pa_nil)) (pa_cons (pe_revS (pv 6)) pa_nil)))))))))))))))
        (pss_cut (ps_set (i := 8) sc_law.nd rfl (Or.inl rfl) (pe_ifExp (pt_cmpR op_lt (pv 4) pe_int (nomark _)) (pv 5) (pe_call of hr2 (by rfl) gO kO bO .nil pass0 (pa_cons (pv 1) (pa_cons (pv 7) pa_nil)))))
        (pss_cut (ps_set (i := 9) sc_law.nd rfl (Or.inl rfl) (pe_and (pe_callB call_isi (by rfl) isi (by decide +kernel) (pa_cons (pv 8) (pa_cons (pe_bltn (v := .ty "str") (by rfl) str (by decide +kernel) rfl) pa_nil))) (pe_one (pe_cmpR op_in_seq (pv 8) (pv 2) (by rfl)))))
        (pss_cut (ps_set (i := 10) sc_law.nd rfl (Or.inl rfl) (pe_ifExp (pt_val (pv 9)) (pe_ix ix_list (pv 3) (pe_tix (pv 2) (pv 8)) (fun _ _ => rfl)) pe_int))
        (pss_cut (ps_set (i := 11) sc_law.nd rfl (Or.inl rfl) (pe_call of hr2 (by rfl) gO kO bO .nil pass0 (pa_cons (pv 1) (pa_cons (pe_lst (pa_cons (pv 10) (pa_cons (pe_op op_add (pv 10) pe_int) (pa_cons (pe_op op_sub (pv 10) pe_int) (pa_cons (pe_op op_add (pv 10) pe_int) (pa_cons pe_int (pa_cons (pe_un un_neg pe_int) (pa_cons pe_int (pa_cons (pe_op op_pow pe_int pe_int) (pa_cons (pe_op op_sub pe_int (pe_op op_pow pe_int pe_int)) (pa_cons (pe_call dr hr1 (by rfl) gD kD bD .nil pass0 (pa_cons (pv 1) (pa_cons (pe_op op_mul pe_int (pv 10)) pa_nil))) (pa_cons (pe_op op_add (pv 10) (pe_call dr hr1 (by rfl) gD kD bD .nil pass0 (pa_cons (pv 1) (pa_cons (pe_op op_pow pe_int pe_int) pa_nil)))) pa_nil)))))))))))) pa_nil))))
        (pss_cut (ps_set (i := 12) sc_law.nd rfl (Or.inl rfl) (pe_callB (cr_repr rfl hu) (by rfl) rep (by decide +kernel) (pa_cons (pv 8) pa_nil)))
        (pss_cut (ps_for PassesOwn.never rfl (pi_list (pe_lst (pa_cons (pe_cmpR op_gt (pv 4) pe_int (nomark _)) (pa_cons (pe_cmpR op_lt (pv 4) pe_int (nomark _)) pa_nil)))) (pg_name (i := 13) sc_law.nd rfl (Or.inl rfl))
          (pss_cons (ps_if (pt_not (pt_val (pe_call sm hr4 (by rfl) gS kS bS .nil pass0 (pa_cons (pe_call lm hr4 (by rfl) gL kL bL .nil pass0 (pa_cons (pv 8) (pa_cons (pv 13) pa_nil))) (pa_cons (pe_ifExp (pt_val (pv 9)) (pe_tup (pa_cons pe_str (pa_cons (pv 10) pa_nil))) (pe_tup (pa_cons pe_str (pa_cons (pv 8) pa_nil)))) pa_nil))))) (pss_one (ps_ret pe_bl)) pss_nil)
          (pss_cons (ps_set (i := 14) sc_law.nd rfl (Or.inl rfl) (pe_ifExp (pt_cmpR op_le (pv 11) (pv 10) (nomark _)) (pe_tup (pa_cons pe_str (pa_cons pe_non pa_nil))) (pe_tup (pa_cons pe_str (pa_cons (pv 8) (pa_cons (pv 11) pa_nil))))))
          (pss_one (ps_if (pt_not (pt_val (pe_call sm hr4 (by rfl) gS kS bS .nil pass0 (pa_cons (pe_call ch hr5 (by rfl) gC kC bC .nil pass0 (pa_cons (pv 8) (pa_cons (pv 11) (pa_cons (pv 13) pa_nil)))) (pa_cons (pe_ifExp (pt_val (pv 9)) (pv 14) (pe_tup (pa_cons pe_str (pa_cons (pv 8) pa_nil)))) pa_nil))))) (pss_one (ps_ret pe_bl)) pss_nil)))))
        (pss_one (ps_if (pt_cmpR op_ne (pe_callB (cr_repr rfl hu) (by rfl) rep (by decide +kernel) (pa_cons (pv 8) pa_nil)) (pv 12) (nomark _)) (pss_one (ps_ret pe_bl)) pss_nil)))))))))))))
      (pss_one (ps_ret pe_bl)))))), ?_⟩
  subst_vars
  -- bag, words, most
  refine ⟨_, rfl, a, ns, rfl, hS, by omega, fun b H0 hb0 s0 B0 => ?_⟩
  refine ⟨(by show 15 ≤ sizeLine; decide), fun pw ow hpw od oc => ?_⟩
  refine ⟨(by show 15 ≤ sizeLine; decide), fun pm hpm => ?_⟩
  have s1 := Same.new (Same.refl H0) (o := .frz ow (.tup (wordsL.map V.str))) hpw
  have s2 := Same.new s1 (o := .lst (mostL.map V.int)) hpm
  have L0 : LHp b pw pm (upd (upd H0 pw (.frz ow (.tup (wordsL.map V.str)))) pm (.lst (mostL.map V.int))) :=
    ⟨B0.same s2, B0.ne hpw, (B0.same s1).ne hpm, ⟨ow, od, oc, by rw [upd_ne (ne_of_none upd_same hpm), upd_same]⟩, upd_same⟩
  refine ⟨fun σ H => σ = sg a b pw pm none none none none none none none none none none none none ∧ LHp b pw pm H, ?_, ?_⟩
  · have every : ∀ q ∈ limTab, limV q.1 = some q.2 := by decide +kernel
    refine ⟨W, rfl, ⟨_, hW _⟩, fun D1 hD1 => lc_tup (K := K) (a := W) (xs := wordsL.map V.str) (fun i G => ∃ ts : List Addr, ts.length = i ∧ G D1 = some (.lst (ts.map V.ref)) ∧ Same (upd (upd H0 pw (.frz ow (.tup (wordsL.map V.str)))) pm (.lst (mostL.map V.int))) G ∧
      ∀ (j : Nat) (T : Addr), ts[j]? = some T → ∃ v, mostL[j]? = some v ∧ G T = some (.tup [.str "told", .int v])) ⟨[], rfl, upd_same, Same.new (Same.refl (upd (upd H0 pw (.frz ow (.tup (wordsL.map V.str)))) pm (.lst (mostL.map V.int)))) hD1, fun j T h => by simp at h⟩ (fun i G _ _ => hW G) (fun i x G hx pv => ?_) (fun G pv => ?_)⟩
    · obtain ⟨ts, tl, tD, tS, tT⟩ := pv
      obtain ⟨q, hq, rfl⟩ : ∃ q : Str × Int, limTab[i]? = some q ∧ x = .str q.1 := by
        rw [show wordsL.map V.str = limTab.map (fun q => V.str q.1) from by simp [wordsL], List.getElem?_map] at hx
        cases e : limTab[i]? with
        | none => rw [e] at hx; cases hx
        | some q => rw [e] at hx; exact ⟨q, rfl, (Option.some.inj hx).symm⟩
      have hv := every q (List.mem_of_getElem? hq)
      refine ⟨rfl, ?_⟩
      refine ⟨_, rfl, .str q.1, false, rfl, .inl ⟨q.1, q.2, rfl, hv, fun T G' sG hT => ?_⟩⟩
      have dT : T ≠ D1 := ne_of hT (sG _ _ tD) (by intro z; cases z)
      have il : i < 15 := by
        have := (List.getElem?_eq_some_iff.mp hq).1
        exact this
      refine ⟨_, sG _ _ tD, by rw [List.length_map, tl, sizeLine_eq]; omega, ts ++ [T], by rw [List.length_append, tl]; rfl, by rw [upd_same, List.map_append]; rfl, (fun c o e => ?_), fun j T' h => ?_⟩
      · have e' := sG _ _ (tS _ _ e)
        rw [upd_ne (ne_of_none e hD1)]
        exact e'
      · by_cases hj : j < ts.length
        · rw [List.getElem?_append_left hj] at h
          obtain ⟨v, e1, e2⟩ := tT j T' h
          have e3 := sG _ _ e2
          exact ⟨v, e1, by rw [upd_ne (ne_of e3 (sG _ _ tD) (by intro z; cases z))]; exact e3⟩
        · rw [List.getElem?_append_right (by omega)] at h
          have hj0 : j - ts.length = 0 := by
            cases e : j - ts.length with
            | zero => rfl
            | succ n => rw [e] at h; simp at h
          rw [hj0] at h
          cases Option.some.inj h
          refine ⟨q.2, ?_, by rw [upd_ne dT]; exact hT⟩
          have : j = i := by omega
          rw [this]
          show (limTab.map (·.2))[i]? = some q.2
          rw [List.getElem?_map, hq]
          rfl
    obtain ⟨ts1, tl1, tD1, tS1, tT1⟩ := pv
    refine ⟨(by show 2 ≤ sizeLine; decide), fun p1 hp1 => ?_⟩
    have u1 := Same.new tS1 (o := .lst [.ref W, .ref D1]) hp1
    have L1 := L0.same u1
    refine ⟨_, rfl, _, rfl, pm, rfl, ⟨_, SqL.of L1.m⟩, fun D2 hD2 => lc_list (K := K) (a := pm) (xs := mostL.map V.int) (fun i G' => ∃ ts : List Addr, ts.length = i ∧ G' D2 = some (.lst (ts.map V.ref)) ∧ Same (upd G p1 (.lst [.ref W, .ref D1])) G' ∧
      ∀ (j : Nat) (T : Addr), ts[j]? = some T → ∃ v, mostL[j]? = some v ∧ G' T = some (.tup [.str "told", .int v])) ⟨[], rfl, upd_same, Same.new (Same.refl _) hD2, fun j T h => by simp at h⟩ (fun i G' _ pv => SqL.of (pv.choose_spec.2.2.1 _ _ L1.m)) (fun i x G' hx pv => ?_) (fun G' pv => ?_)⟩
    · obtain ⟨ts, tl, tD, tS, tT⟩ := pv
      obtain ⟨n, hn, rfl⟩ : ∃ n : Int, mostL[i]? = some n ∧ x = .int n := by
        rw [List.getElem?_map] at hx
        cases e : mostL[i]? with
        | none => rw [e] at hx; cases hx
        | some q => rw [e] at hx; exact ⟨q, rfl, (Option.some.inj hx).symm⟩
      have il : i < 15 := by
        have := (List.getElem?_eq_some_iff.mp hn).1
        exact this
      refine ⟨rfl, ?_⟩
      refine ⟨_, rfl, (by show 2 ≤ sizeLine; decide), fun T hT => ?_⟩
      have sG := Same.new (Same.refl G') (o := .tup [.str "told", .int n]) hT
      have dT : T ≠ D2 := fun e => by rw [e, tD] at hT; cases hT
      refine ⟨_, sG _ _ tD, by rw [List.length_map, tl, sizeLine_eq]; omega, ts ++ [T], by rw [List.length_append, tl]; rfl, by rw [upd_same, List.map_append]; rfl, (fun c o e => ?_), fun j T' h => ?_⟩
      · have e' := sG _ _ (tS _ _ e)
        rw [upd_ne (ne_of_none e hD2)]
        exact e'
      · by_cases hj : j < ts.length
        · rw [List.getElem?_append_left hj] at h
          obtain ⟨v, e1, e2⟩ := tT j T' h
          have e3 := sG _ _ e2
          exact ⟨v, e1, by rw [upd_ne (ne_of e3 (sG _ _ tD) (by intro z; cases z))]; exact e3⟩
        · rw [List.getElem?_append_right (by omega)] at h
          have hj0 : j - ts.length = 0 := by
            cases e : j - ts.length with
            | zero => rfl
            | succ n => rw [e] at h; simp at h
          rw [hj0] at h
          cases Option.some.inj h
          refine ⟨n, ?_, by rw [upd_ne dT, upd_same]⟩
          have : j = i := by omega
          rw [this]
          exact hn
    obtain ⟨ts2, tl2, tD2, tS2, tT2⟩ := pv
    refine ⟨(by show 2 ≤ sizeLine; decide), fun p2 hp2 => ?_⟩
    have u2 := Same.new tS2 (o := .lst [.ref pw, .ref D2]) hp2
    have v2 := Same.new (Same.refl G') (o := .lst [.ref pw, .ref D2]) hp2
    have L2 := L1.same u2
    refine ⟨.ref p1, .ref p2, rfl, ?_, fun G3 s3 => ⟨true, rfl, iteF ⟨rfl, L2.same s3⟩⟩⟩
    refine .inr (.inl ⟨p1, p2, _, _, rfl, rfl, SqL.of (u2 _ _ upd_same), SqL.of upd_same, (by show 2 < sizeLine; decide), .cons ?_ (.cons ?_ .nil)⟩)
    · exact .inr (.inr ⟨W, pw, _, _, rfl, rfl, hW _, L2.wq, (by decide), paired_imp (fun _ _ q => .inl q) (leaf_strs wordsL)⟩)
    · refine .inr (.inl ⟨D1, D2, _, _, rfl, rfl, SqL.of (u2 _ _ (Same.new (Same.refl G) hp1 _ _ tD1)), SqL.of (v2 _ _ tD2), by rw [List.length_map, tl1]; decide, paired_of_at (by rw [List.length_map, List.length_map, tl1, tl2]; rfl) fun j x y hx hy => ?_⟩)
      rw [List.getElem?_map] at hx hy
      cases e1 : ts1[j]? with
      | none => rw [e1] at hx; cases hx
      | some T1 =>
        cases e2 : ts2[j]? with
        | none => rw [e2] at hy; cases hy
        | some T2 =>
          rw [e1] at hx
          rw [e2] at hy
          cases Option.some.inj hx
          cases Option.some.inj hy
          obtain ⟨a1, b1, c1⟩ := tT1 j T1 e1
          obtain ⟨a2, b2, c2⟩ := tT2 j T2 e2
          rw [b1] at b2
          cases b2
          exact .inr (.inr ⟨T1, T2, _, _, rfl, rfl, SqT.of (u2 _ _ (Same.new (Same.refl G) hp1 _ _ c1)), SqT.of (v2 _ _ c2), (by show 2 < sizeLine; decide), .cons (.inl ⟨rfl, rfl⟩) (.cons (.inl ⟨rfl, rfl⟩) .nil)⟩)
  · rintro σ H2 ⟨rfl, L2⟩
    refine ⟨12, rfl, by decide, by decide, for_range (n := 12) (fun _ σ H => (∃ x4 x5 x6 x7 x8 x9 x10 x11 x12 x13 x14 x15, σ = sg a b pw pm x4 x5 x6 x7 x8 x9 x10 x11 x12 x13 x14 x15) ∧ LHp b pw pm H) ⟨⟨_, _, _, _, _, _, _, _, _, _, _, _, rfl⟩, L2⟩ ?_ (fun σ H _ => k _)⟩
    rintro t σ H3 ht ⟨⟨x4, x5, x6, x7, x8, x9, x10, x11, x12, x13, x14, x15, rfl⟩, L3⟩
    -- near
    refine ⟨fun σ H => ∃ z, z ∈ wordsL ∧ σ = sg a b pw pm (some (.int (0 + (t : Int)))) (some (.str z)) x6 x7 x8 x9 x10 x11 x12 x13 x14 x15 ∧ LHp b pw pm H, ?_, ?_⟩
    · refine ⟨_, rfl, _, rfl, of_seq (E := E0) L3.B L3.nw (.inr L3.wq) (by decide) (by decide) fun v H' hv B' kk fr => ?_⟩
      obtain ⟨z, hz, rfl⟩ := List.mem_map.mp hv
      exact ⟨z, hz, rfl, L3.keep B' kk⟩
    rintro σ H4 ⟨z, hz, rfl, L4⟩
    obtain ⟨w1, w2, w3, w4⟩ := words_small z hz
    have zs : Sm 100 z := smB_ok w1
    have zl : z.length ≤ sizeLine := zs.line (by decide)
    -- far
    refine ⟨fun σ H => ∃ f, Sm 300 f ∧ σ = sg a b pw pm (some (.int (0 + (t : Int)))) (some (.str z)) (some (.str f)) x7 x8 x9 x10 x11 x12 x13 x14 x15 ∧ LHp b pw pm H, ?_, ?_⟩
    · refine ⟨_, rfl, _, rfl, _, rfl, z, rfl, zl, b, (z.length : Int), rfl, L4.B, by omega, by rw [Int.natAbs_natCast]; exact log2_small (by omega), fun d H5 d0 d1 B5 kk5 _ => ⟨_, rfl, z, rfl, zl, ?_⟩⟩
      have L5 := L4.keep B5 kk5
      refine ⟨_, rfl, (by show 5 ≤ sizeLine; decide), fun p hp => of_seq (E := E0) (L5.B.new hp) (L5.B.ne hp) (.inl (SqL.of upd_same)) (by show 0 < 5; decide) (by show 5 < 2 ^ 62; decide) fun v H6 hv B6 kk6 _ => ?_⟩
      have L6 : LHp b pw pm H6 := (L5.same (Same.new (Same.refl _) hp)).keep B6 kk6
      obtain ⟨c, rfl, cs⟩ : ∃ c, v = .str c ∧ smB c = true := by
        have : v = V.str "" ∨ v = V.str " " ∨ v = V.str "s" ∨ v = V.str "S" ∨ v = V.str "\n" := by simpa using hv
        rcases this with rfl | rfl | rfl | rfl | rfl
        · exact ⟨_, rfl, by decide +kernel⟩
        · exact ⟨_, rfl, by decide +kernel⟩
        · exact ⟨_, rfl, by decide +kernel⟩
        · exact ⟨_, rfl, by decide +kernel⟩
        · exact ⟨_, rfl, by decide +kernel⟩
      have sm1 := (zs.cut none (some d)).app (smB_ok cs)
      refine ⟨_, _, rfl, rfl, by rw [← Str.length_append]; exact sm1.line (by decide), ?_⟩
      refine ⟨_, rfl, _, rfl, _, rfl, z, rfl, zl, b, (z.length : Int), rfl, L6.B, by omega, by rw [Int.natAbs_natCast]; exact log2_small (by omega), fun d2 H7 _ _ B7 kk7 _ => ⟨_, rfl, z, rfl, zl, ?_⟩⟩
      have sm2 := sm1.app (zs.cut (some d2) none)
      exact ⟨_, _, rfl, rfl, by rw [← Str.length_append]; exact sm2.line (by decide), _, sm2, rfl, L6.keep B7 kk7⟩
    rintro σ H5 ⟨f, fs, rfl, L5⟩
    -- the menu: its plain part
    have fl : f.length ≤ sizeLine := fs.line (by decide)
    refine ⟨fun σ H => ∃ m L, σ = sg a b pw pm (some (.int (0 + (t : Int)))) (some (.str z)) (some (.str f)) (some (.ref m)) x8 x9 x10 x11 x12 x13 x14 x15 ∧ LHp b pw pm H ∧ H m = some (.lst L) ∧ m ≠ b ∧ L.length = 18 ∧ ∀ v ∈ L, Plain v, ?_, ?_⟩
    · have add : ∀ {x y : Str}, Sm 100 x → Sm 100 y → x.length + y.length ≤ sizeLine ∧ Plain (.str (x ++ y)) := fun h1 h2 => ⟨by rw [← Str.length_append]; exact (h1.app h2).line (by decide), .str _ ((h1.app h2).mono (by decide))⟩
      have c1 : Sm 100 ("s" : Str) := smB_ok (by decide +kernel)
      have c2 : Sm 100 (" " : Str) := smB_ok (by decide +kernel)
      have c3 : Sm 100 ("\n" : Str) := smB_ok (by decide +kernel)
      refine ⟨_, rfl, _, rfl, _, rfl, _, _, rfl, rfl, (add zs c1).1, _, rfl, _, _, rfl, rfl, (add c2 zs).1, _, rfl, _, _, rfl, rfl, (add zs c2).1, _, rfl, ⟨_, rfl⟩, z, rfl, rfl, by omega, _, rfl, _, _, rfl, rfl, (add zs c3).1, (by show 18 ≤ sizeLine; decide), fun p hp => ?_⟩
      refine ⟨p, _, rfl, L5.same (Same.new (Same.refl _) hp), upd_same, L5.B.ne hp, rfl, ?_⟩
      have pf : Plain (.str f) := .str f (fs.mono (by decide))
      have pc : ∀ {c : Str}, smB c = true → Plain (.str c) := fun h => .str _ ((smB_ok h).mono (by decide))
      intro v hv
      simp only [List.mem_cons, List.not_mem_nil, or_false] at hv
      rcases hv with rfl | rfl | rfl | rfl | rfl | rfl | rfl | rfl | rfl | rfl | rfl | rfl | rfl | rfl | rfl | rfl | rfl | rfl
      · exact .non
      · exact .bl _
      · exact .bl _
      · exact .int _ (by decide)
      · exact .int _ (by decide)
      · exact pc (by decide +kernel)
      · exact pc (by decide +kernel)
      · exact pc (by decide +kernel)
      · exact pc (by decide +kernel)
      · exact pc (by decide +kernel)
      · exact pc (by decide +kernel)
      · exact pf
      · exact pf
      · exact (add zs c1).2
      · exact (add c2 zs).2
      · exact (add zs c2).2
      · exact pc w2
      · exact (add zs c3).2
    rintro σ H6 ⟨m, L, rfl, L6, hm, mb, len18, hL⟩
    -- the menu: with objects
    refine ⟨fun σ H => ∃ m L, σ = sg a b pw pm (some (.int (0 + (t : Int)))) (some (.str z)) (some (.str f)) (some (.ref m)) x8 x9 x10 x11 x12 x13 x14 x15 ∧ LHp b pw pm H ∧ H m = some (.lst L) ∧ m ≠ b ∧ L.length = 30 ∧ ∀ v ∈ L, Drawn b K H v, ?_, ?_⟩
    · obtain ⟨o1, o2⟩ := words_one z hz
      obtain ⟨o3, o4⟩ := words_split z hz
      obtain ⟨o5, o6, o7⟩ := words_dict z hz
      refine ⟨_, rfl, _, rfl, (by show 1 ≤ sizeLine; decide), fun p1 h1 => ?_⟩
      refine ⟨_, rfl, (by show 1 ≤ sizeLine; decide), fun p2 h2 => ?_⟩
      refine fun p3 h3 => ⟨_, rfl, upd_same, [(.inr z, .int 12)], rfl, (by show 1 ≤ 15; decide), ?_⟩
      rw [upd_upd]
      refine ⟨_, rfl, ⟨_, rfl⟩, z, " ", rfl, rfl, by decide +kernel, by rw [sizeLine_eq]; omega, fun p4 h4 => ?_⟩
      refine ⟨Nat.zero_le _, fun p5 h5 => ⟨Nat.zero_le _, fun p6 h6 => fun p7 h7 => ⟨(by show 2 ≤ sizeLine; decide), fun p8 h8 => ?_⟩⟩⟩
      have sq : ∀ {G : Hp}, Same H6 G → SqT K G pw (wordsL.map V.str) := fun s => (L6.same s).wq
      have t1 := Same.new (Same.refl H6) (o := .tup [.str z]) h1
      have t2 := Same.new t1 (o := .lst [.str z]) h2
      have t3 := Same.new t2 (o := .dK (mergeK [] [(.inr z, .int 12)])) h3
      have t4 := Same.new t3 (o := .lst ((Txt.split z " ").map V.str)) h4
      have t5 := Same.new t4 (o := .tup []) h5
      have t6 := Same.new t5 (o := .lst []) h6
      have t7 := Same.new t6 (o := .dK []) h7
      have t8 := Same.new t7 (o := .tup [.str "price", .str "rows"]) h8
      refine ⟨_, rfl, _, rfl, pw, _, rfl, .inr (sq t8), fun p9 h9 => ?_⟩
      have t9 := Same.new t8 (o := .lst (wordsL.map V.str)) h9
      refine ⟨_, rfl, f, 300, rfl, fs, by decide, fun y ys => ⟨(by show 12 ≤ sizeLine; decide), fun p10 h10 => ?_⟩⟩
      have t10 := Same.new t9 (o := .lst [.ref p1, .ref p2, .ref p3, .ref p4, .ref p5, .ref p6, .ref p7, .ref p8, .str "rows", .ref pw, .ref p9, .str y]) h10
      refine ⟨m, p10, L, _, rfl, rfl, t10 _ _ hm, upd_same, (by rw [len18]; show 18 + 12 ≤ sizeLine; decide), fun p11 h11 => ?_⟩
      have t11 := Same.new t10 (o := .lst (L ++ [.ref p1, .ref p2, .ref p3, .ref p4, .ref p5, .ref p6, .ref p7, .ref p8, .str "rows", .ref pw, .ref p9, .str y])) h11
      refine ⟨p11, _, rfl, L6.same t11, upd_same, (L6.same t10).B.ne h11, by rw [List.length_append, len18]; rfl, ?_⟩
      -- what stands in the last heap
      have z10 := Same.new (Same.refl _) (o := HO.lst (L ++ [.ref p1, .ref p2, .ref p3, .ref p4, .ref p5, .ref p6, .ref p7, .ref p8, .str "rows", .ref pw, .ref p9, .str y])) h11
      have z9 := (Same.new (Same.refl _) (o := HO.lst [.ref p1, .ref p2, .ref p3, .ref p4, .ref p5, .ref p6, .ref p7, .ref p8, .str "rows", .ref pw, .ref p9, .str y]) h10).trans z10
      have z8 := (Same.new (Same.refl _) (o := HO.lst (wordsL.map V.str)) h9).trans z9
      have z7 := (Same.new (Same.refl _) (o := HO.tup [.str "price", .str "rows"]) h8).trans z8
      have z6 := (Same.new (Same.refl _) (o := HO.dK []) h7).trans z7
      have z5 := (Same.new (Same.refl _) (o := HO.lst []) h6).trans z6
      have z4 := (Same.new (Same.refl _) (o := HO.tup []) h5).trans z5
      have z3 := (Same.new (Same.refl _) (o := HO.lst ((Txt.split z " ").map V.str)) h4).trans z4
      have z2 := (Same.new (Same.refl _) (o := HO.dK (mergeK [] [(.inr z, .int 12)])) h3).trans z3
      have z1 := (Same.new (Same.refl _) (o := HO.lst [.str z]) h2).trans z2
      have n1 := L6.B.ne h1
      have n2 := (L6.same t1).B.ne h2
      have n3 := (L6.same t2).B.ne h3
      have n4 := (L6.same t3).B.ne h4
      have n5 := (L6.same t4).B.ne h5
      have n6 := (L6.same t5).B.ne h6
      have n7 := (L6.same t6).B.ne h7
      have n8 := (L6.same t7).B.ne h8
      have n9 := (L6.same t8).B.ne h9
      intro v hv
      rw [List.mem_append] at hv
      rcases hv with hv | hv
      · exact (hL v hv).drawn
      simp only [List.mem_cons, List.not_mem_nil, or_false] at hv
      have tupD : ∀ {p : Addr} {zs : List Str}, p ≠ b → upd (upd (upd (upd (upd (upd (upd (upd (upd (upd (upd H6 p1 (.tup [.str z])) p2 (.lst [.str z])) p3 (.dK (mergeK [] [(.inr z, .int 12)]))) p4 (.lst ((Txt.split z " ").map V.str))) p5 (.tup [])) p6 (.lst [])) p7 (.dK [])) p8 (.tup [.str "price", .str "rows"])) p9 (.lst (wordsL.map V.str))) p10 (.lst [.ref p1, .ref p2, .ref p3, .ref p4, .ref p5, .ref p6, .ref p7, .ref p8, .str "rows", .ref pw, .ref p9, .str y])) p11 (.lst (L ++ [.ref p1, .ref p2, .ref p3, .ref p4, .ref p5, .ref p6, .ref p7, .ref p8, .str "rows", .ref pw, .ref p9, .str y])) p = some (.tup (zs.map V.str)) →
          okD (.tuple (zs.map .str)) = true → zs.length < sizeLine → Drawn b K _ (.ref p) := fun n e ok hl => drawn_tup (fun H' k => .inl (.inl (k _ _ e n))) ok hl
      rcases hv with rfl | rfl | rfl | rfl | rfl | rfl | rfl | rfl | rfl | rfl | rfl | rfl
      · exact tupD (zs := [z]) n1 (z1 _ _ upd_same) o2 (by show 1 < sizeLine; decide)
      · exact drawn_lst (zs := [z]) (z2 _ _ upd_same) n2 o1 (by show 1 < sizeLine; decide)
      · exact drawn_dct (kvs := [(.inr z, .int 12)]) (z3 _ _ upd_same) n3 (fun q hq => by cases List.mem_singleton.mp hq; exact ⟨by simp [valV], rfl, rfl⟩) o5 o6 o7
      · exact drawn_lst (z4 _ _ upd_same) n4 o3 o4
      · exact tupD (zs := []) n5 (z5 _ _ upd_same) (by decide +kernel) (by show 0 < sizeLine; decide)
      · exact drawn_lst (zs := []) (z6 _ _ upd_same) n6 (by decide +kernel) (by show 0 < sizeLine; decide)
      · exact drawn_dct (kvs := []) (z7 _ _ upd_same) n7 (fun q hq => by cases hq) (by decide +kernel) (by decide +kernel) (by decide +kernel)
      · exact tupD (zs := ["price", "rows"]) n8 (z8 _ _ upd_same) (by decide +kernel) (by show 2 < sizeLine; decide)
      · exact (Plain.str "rows" ((smB_ok (by decide +kernel)).mono (by decide))).drawn
      · exact drawn_tup (fun H' k => ((L6.same t11).keep ((L6.same t11).B.same (fun _ _ q => q)) (Keep.refl b _)).wq.elim (fun q => (q.elim (fun q => .inl (.inl (k _ _ q L6.nw))) fun ⟨o, q⟩ => .inl (.inr ⟨o, k _ _ q L6.nw⟩))) fun q => .inr q) words_all.1 (by decide)
      · exact drawn_lst (z9 _ _ upd_same) n9 words_all.2 (by decide)
      · exact (Plain.str y (ys.mono (by decide))).drawn
    rintro σ H7 ⟨m', L', rfl, L7, hm', mb', len30, hL'⟩
    -- the value
    refine ⟨fun σ H => ∃ v m, σ = sg a b pw pm (some (.int (0 + (t : Int)))) (some (.str z)) (some (.str f)) (some (.ref m)) (some v) x9 x10 x11 x12 x13 x14 x15 ∧ LHp b pw pm H ∧ Drawn b K H v, ?_, ?_⟩
    · refine ⟨_, rfl, _, _, rfl, rfl, _, rfl, ite2 (fun _ => ?_) (fun _ => ?_)⟩
      · exact ⟨_, rfl, _, m', rfl, L7, (Plain.str z (zs.mono (by decide))).drawn⟩
      · exact ⟨_, rfl, _, rfl, of_seq (E := E0) L7.B mb' (.inl (SqL.of hm')) (by omega) (by omega) fun v H' hv B' kk fr => ⟨v, m', rfl, L7.keep B' kk, (hL' v hv).keep kk⟩⟩
    rintro σ H8 ⟨v, m, rfl, L8, dv⟩
    -- known
    refine ⟨fun σ H => ∃ kn, σ = sg a b pw pm (some (.int (0 + (t : Int)))) (some (.str z)) (some (.str f)) (some (.ref m)) (some v) (some (.bl kn)) x10 x11 x12 x13 x14 x15 ∧ LHp b pw pm H ∧ Drawn b K H v ∧ Kn6 b K H v kn, ?_, ?_⟩
    · by_cases hs : ∃ y, v = .str y
      · obtain ⟨y, rfl⟩ := hs
        refine rd_is (b := true) (i := 8) rfl (.base (.str y)) (by decide +kernel) ⟨_, rfl, iteT ⟨_, rfl, _, rfl, pw, _, rfl, .inr L8.wq, rfl, by decide, ?_⟩⟩
        cases hy : limV y with
        | some i =>
          have e : inV (.str y) (wordsL.map V.str) = true := look_in limTab hy
          simp only [Bool.false_eq_true, if_false, e]
          exact ⟨true, rfl, L8, dv, .inl ⟨rfl, y, i, rfl, hy⟩⟩
        | none =>
          have e : inV (.str y) (wordsL.map V.str) = false := look_none limTab hy
          simp only [Bool.false_eq_true, if_false, e]
          exact ⟨false, rfl, L8, dv, .inr ⟨rfl, fun H' _ => .inl ⟨y, rfl, hy⟩⟩⟩
      · obtain ⟨d, _, _, _, dg⟩ := id dv
        have nw : ∀ H', Keep b H8 H' → ∃ T, TyX K H' v (.type T) ∧ kitB T "str" = some false := fun H' k => (dg H' k).kd.elim (fun q => absurd q hs) id
        obtain ⟨T, ty, hT⟩ := nw H8 (Keep.refl b H8)
        exact rd_is (i := 8) rfl ty hT ⟨_, rfl, iteF ⟨false, rfl, L8, dv, .inr ⟨rfl, fun H' k => .inr (nw H' k)⟩⟩⟩
    rintro σ H9 ⟨kn, rfl, L9, dv9, k6⟩
    -- the limit
    refine ⟨fun σ H => ∃ tp, σ = sg a b pw pm (some (.int (0 + (t : Int)))) (some (.str z)) (some (.str f)) (some (.ref m)) (some v) (some (.bl kn)) (some (.int tp)) x11 x12 x13 x14 x15 ∧ LHp b pw pm H ∧ Drawn b K H v ∧ Kn7 b K H v kn tp, ?_, ?_⟩
    · rcases k6 with ⟨rfl, y, i, rfl, hy⟩ | ⟨rfl, nw⟩
      · obtain ⟨j, j1, j2, j3⟩ := look_at limTab hy
        obtain ⟨ow', od', oc', hw'⟩ := L9.w
        refine ⟨_, rfl, _, rfl, iteT ⟨_, rfl, _, rfl, ⟨pw, ow', _, rfl, hw', od', oc'⟩, _, rfl, pw, ow', wordsL, y, j, rfl, rfl, hw', j1, j3, pm, _, _, .int i, rfl, rfl, SqL.of L9.m, atI_nat (by rw [List.getElem?_map]; exact congrArg (Option.map V.int) j2), ?_⟩⟩
        exact ⟨i, rfl, L9, dv9, .inl ⟨rfl, y, rfl, hy⟩⟩
      · exact ⟨_, rfl, _, rfl, iteF ⟨12, rfl, L9, dv9, .inr ⟨rfl, rfl, nw⟩⟩⟩
    rintro σ H10 ⟨tp, rfl, L10, dv10, k7⟩
    obtain ⟨t5, t400⟩ := k7.pos
    -- the count
    refine ⟨fun σ H => ∃ c, σ = sg a b pw pm (some (.int (0 + (t : Int)))) (some (.str z)) (some (.str f)) (some (.ref m)) (some v) (some (.bl kn)) (some (.int tp)) (some (.int c)) x12 x13 x14 x15 ∧ LHp b pw pm H ∧ Drawn b K H v ∧ Kn7 b K H v kn tp, ?_, ?_⟩
    · refine ⟨_, rfl, _, rfl, _, rfl, _, _, rfl, rfl, _, rfl, _, _, rfl, rfl, _, rfl, _, _, rfl, rfl, 1, rfl, _, _, rfl, rfl, ⟨by decide, by decide, by decide⟩, _, _, rfl, rfl, ⟨by decide, by decide, by decide⟩, _, _, rfl, rfl, ?_⟩
      refine ⟨_, rfl, _, rfl, _, _, rfl, rfl, .inl ⟨by decide, by decide⟩, b, 2 * tp, rfl, L10.B, by omega, log2_small (by omega), fun d H11 _ _ B11 kk11 _ => ?_⟩
      have L11 := L10.keep B11 kk11
      refine ⟨_, rfl, _, rfl, _, _, rfl, rfl, ⟨by decide, by decide, by decide⟩, b, _, rfl, B11, (by show (0 : Int) < 10 ^ (39 : Int).toNat; decide), (by show ((10 : Int) ^ (39 : Int).toNat).natAbs.log2 < 9000; decide +kernel), fun d2 H12 _ _ B12 kk12 _ => ?_⟩
      have L12 := L11.keep B12 kk12
      refine ⟨_, _, rfl, rfl, (by show 11 ≤ sizeLine; decide), fun p hp => ?_⟩
      have s13 := Same.new (Same.refl H12) (o := HO.lst [.int tp, .int (tp + 1), .int (tp - 1), .int (tp + 2), .int 0, .int (-1), .int 1, .int (10 ^ (39 : Int).toNat), .int (0 - 10 ^ (39 : Int).toNat), .int d, .int (tp + d2)]) hp
      refine of_seq (E := E0) (L12.same s13).B (L12.B.ne hp) (.inl (SqL.of upd_same)) (by show 0 < 11; decide) (by show 11 < 2 ^ 62; decide) fun v' H14 hv B14 kk14 _ => ?_
      have kk : Keep b H10 H14 := ((kk11.trans kk12).same s13).trans kk14
      obtain ⟨c, rfl⟩ : ∃ c, v' = .int c := by
        simp only [List.mem_cons, List.not_mem_nil, or_false] at hv
        rcases hv with rfl | rfl | rfl | rfl | rfl | rfl | rfl | rfl | rfl | rfl | rfl <;> exact ⟨_, rfl⟩
      exact ⟨c, rfl, L10.keep B14 kk, dv10.keep kk, k7.keep kk⟩
    rintro σ H11 ⟨c, rfl, L11, ⟨d, ds1, ds2, ds3, dg⟩, k11⟩
    -- its repr
    refine ⟨fun σ H => σ = sg a b pw pm (some (.int (0 + (t : Int)))) (some (.str z)) (some (.str f)) (some (.ref m)) (some v) (some (.bl kn)) (some (.int tp)) (some (.int c)) (some (.str d.shown)) x13 x14 x15 ∧ H = H11, ?_, ?_⟩
    · exact ⟨_, rfl, v, d, rfl, (dg H11 (Keep.refl b H11)).sh, ds1, ds2, ds3, rfl, rfl⟩
    rintro σ H12 ⟨rfl, rfl⟩
    -- twice: by place and by name
    refine ⟨fun σ H => (∃ x13 x14, σ = sg a b pw pm (some (.int (0 + (t : Int)))) (some (.str z)) (some (.str f)) (some (.ref m)) (some v) (some (.bl kn)) (some (.int tp)) (some (.int c)) (some (.str d.shown)) x13 x14 x15) ∧ Same H12 H, ?_, ?_⟩
    · refine ⟨_, rfl, _, _, rfl, rfl, _, rfl, _, _, rfl, rfl, (by show 2 ≤ sizeLine; decide), fun p hp => ?_⟩
      have s0 := Same.new (Same.refl H12) (o := HO.lst [.bl (decide ((2 : Int) < 0 + t)), .bl (decide ((0 : Int) + t < 9))]) hp
      refine ⟨p, rfl, ⟨_, SqL.of upd_same⟩, for_list (K := K) (a := p) (xs := [.bl (decide ((2 : Int) < 0 + t)), .bl (decide ((0 : Int) + t < 9))]) (fun _ σ H => (∃ x13 x14, σ = sg a b pw pm (some (.int (0 + (t : Int)))) (some (.str z)) (some (.str f)) (some (.ref m)) (some v) (some (.bl kn)) (some (.int tp)) (some (.int c)) (some (.str d.shown)) x13 x14 x15) ∧ Same (upd H12 p (.lst [.bl (decide ((2 : Int) < 0 + t)), .bl (decide ((0 : Int) + t < 9))])) H)
        ⟨⟨_, _, rfl⟩, Same.refl _⟩ (fun i σ H _ q => q.2.seq (SqL.of upd_same)) ?_ (fun σ H q => ⟨q.1, s0.trans q.2⟩)⟩
      rintro i x σ H13 hx ⟨⟨y13, y14, rfl⟩, s13⟩
      obtain ⟨nb, rfl⟩ : ∃ nb, x = .bl nb := by
        match i, hx with
        | 0, hx => exact ⟨_, (Option.some.inj hx).symm⟩
        | 1, hx => exact ⟨_, (Option.some.inj hx).symm⟩
        | i + 2, hx => simp at hx
      have s12 := s0.trans s13
      have g13 := dg H13 (Keep.ofSame s12)
      have lv : ∀ {G : Hp}, Same H13 G → Alike K G 1 v v := fun s => (dg _ (Keep.ofSame (s12.trans s))).al
      have pair : ∀ {G : Hp} {T1 T2 : Addr} {q : Str} {u : V}, G T1 = some (.tup [.str q, u]) → G T2 = some (.tup [.str q, u]) → Alike K G 1 u u → Alike K G 3 (.ref T1) (.ref T2) := fun e1 e2 hu =>
        .inr (.inr ⟨_, _, _, _, rfl, rfl, SqT.of e1, SqT.of e2, (by show 2 < sizeLine; decide), .cons (.inl (.inl ⟨rfl, rfl⟩)) (.cons hu.succ .nil)⟩)
      have three : ∀ {G : Hp} {T1 T2 : Addr} {q : Str} {u : V} {i : Int}, G T1 = some (.tup [.str q, u, .int i]) → G T2 = some (.tup [.str q, u, .int i]) → Alike K G 1 u u → Alike K G 3 (.ref T1) (.ref T2) := fun e1 e2 hu =>
        .inr (.inr ⟨_, _, _, _, rfl, rfl, SqT.of e1, SqT.of e2, (by show 3 < sizeLine; decide), .cons (.inl (.inl ⟨rfl, rfl⟩)) (.cons hu.succ (.cons (.inl (.inl ⟨rfl, rfl⟩)) .nil))⟩)
      have back : ∀ {G : Hp} {y14 : Option V}, Same H13 G → (∃ x13 x14, sg a b pw pm (some (.int (0 + (t : Int)))) (some (.str z)) (some (.str f)) (some (.ref m)) (some v) (some (.bl kn)) (some (.int tp)) (some (.int c)) (some (.str d.shown)) (some (.bl nb)) y14 x15
          = sg a b pw pm (some (.int (0 + (t : Int)))) (some (.str z)) (some (.str f)) (some (.ref m)) (some v) (some (.bl kn)) (some (.int tp)) (some (.int c)) (some (.str d.shown)) x13 x14 x15) ∧ Same (upd H12 p (.lst [.bl (decide ((2 : Int) < 0 + t)), .bl (decide ((0 : Int) + t < 9))])) G := fun s => ⟨⟨_, _, rfl⟩, s13.trans s⟩
      rcases k11 with ⟨rfl, y, rfl, hy⟩ | ⟨rfl, rfl, nw⟩
      · refine ⟨_, rfl, _, rfl, V.str y, nb, rfl, .inl ⟨y, tp, rfl, hy, fun T1 G1 s1 h1 => ?_⟩⟩
        refine ⟨_, rfl, _, rfl, iteT ⟨_, rfl, (by show 2 ≤ sizeLine; decide), fun T2 h2 => ?_⟩⟩
        have q2 := Same.new (Same.refl G1) (o := .tup [.str "told", .int tp]) h2
        refine ⟨.ref T1, .ref T2, rfl, pair (q2 _ _ h1) upd_same (.inl (.inl ⟨rfl, rfl⟩)), fun G3 s3 => ⟨true, rfl, iteF ?_⟩⟩
        have r3 := (s1.trans q2).trans s3
        refine ⟨_, rfl, _, rfl, c, tp, rfl, rfl, _, rfl, ite2 (fun hc => ?_) (fun hc => ?_)⟩
        · have hc' : c ≤ tp := of_decide_eq_true hc
          refine ⟨(by show 2 ≤ sizeLine; decide), fun T3 h3 => ?_⟩
          have q3 := Same.new (Same.refl G3) (o := .tup [.str "let", .non]) h3
          refine ⟨_, rfl, _, rfl, _, rfl, V.str y, c, nb, rfl, .inl ⟨y, tp, rfl, hy, (fun _ T4 G4 s4 h4 => ?_), fun h => absurd hc' (by omega)⟩⟩
          refine ⟨_, rfl, _, rfl, iteT ⟨_, rfl, .ref T4, .ref T3, rfl, pair h4 (s4 _ _ upd_same) (.inl (.inl ⟨rfl, rfl⟩)), fun G5 s5 => ⟨true, rfl, iteF ?_⟩⟩⟩
          exact back (((r3.trans q3).trans s4).trans s5)
        · have hc' : ¬ c ≤ tp := fun h => hc (decide_eq_true h)
          refine ⟨_, rfl, _, rfl, (by show 3 ≤ sizeLine; decide), fun T3 h3 => ?_⟩
          have q3 := Same.new (Same.refl G3) (o := .tup [.str "TooMany", .str y, .int c]) h3
          refine ⟨_, rfl, _, rfl, _, rfl, V.str y, c, nb, rfl, .inl ⟨y, tp, rfl, hy, (fun h => absurd h hc'), (fun _ T4 G4 s4 h4 => ?_)⟩⟩
          refine ⟨_, rfl, _, rfl, iteT ⟨_, rfl, .ref T4, .ref T3, rfl, three h4 (s4 _ _ upd_same) (.inl (.inl ⟨rfl, rfl⟩)), fun G5 s5 => ⟨true, rfl, iteF ?_⟩⟩⟩
          exact back (((r3.trans q3).trans s4).trans s5)
      · refine ⟨_, rfl, _, rfl, v, nb, rfl, .inr ⟨nw _ (Keep.ofSame s12), fun T1 G1 s1 h1 => ?_⟩⟩
        refine ⟨_, rfl, _, rfl, iteF ⟨_, rfl, (by show 2 ≤ sizeLine; decide), fun T2 h2 => ?_⟩⟩
        have q2 := Same.new (Same.refl G1) (o := .tup [.str "UnknownName", v]) h2
        refine ⟨.ref T1, .ref T2, rfl, pair (q2 _ _ h1) upd_same (lv (s1.trans q2)), fun G3 s3 => ⟨true, rfl, iteF ?_⟩⟩
        have r3 := (s1.trans q2).trans s3
        have again : ∀ {G : Hp} {y14 : V} {D : Ends}, True := trivial
        refine ⟨_, rfl, _, rfl, c, 12, rfl, rfl, _, rfl, ite2 (fun hc => ?_) (fun hc => ?_)⟩
        · refine ⟨(by show 2 ≤ sizeLine; decide), fun T3 h3 => ?_⟩
          have q3 := Same.new (Same.refl G3) (o := .tup [.str "let", .non]) h3
          refine ⟨_, rfl, _, rfl, _, rfl, v, c, nb, rfl, .inr ⟨nw _ (Keep.ofSame (s12.trans (r3.trans q3))), fun T4 G4 s4 h4 => ?_⟩⟩
          refine ⟨_, rfl, _, rfl, iteF ⟨_, rfl, (by show 2 ≤ sizeLine; decide), fun T5 h5 => ?_⟩⟩
          have q5 := Same.new (Same.refl G4) (o := .tup [.str "UnknownName", v]) h5
          refine ⟨.ref T4, .ref T5, rfl, pair (q5 _ _ h4) upd_same (lv (((r3.trans q3).trans s4).trans q5)), fun G6 s6 => ⟨true, rfl, iteF ?_⟩⟩
          exact back ((((r3.trans q3).trans s4).trans q5).trans s6)
        · refine ⟨_, rfl, _, rfl, (by show 3 ≤ sizeLine; decide), fun T3 h3 => ?_⟩
          have q3 := Same.new (Same.refl G3) (o := .tup [.str "TooMany", v, .int c]) h3
          refine ⟨_, rfl, _, rfl, _, rfl, v, c, nb, rfl, .inr ⟨nw _ (Keep.ofSame (s12.trans (r3.trans q3))), fun T4 G4 s4 h4 => ?_⟩⟩
          refine ⟨_, rfl, _, rfl, iteF ⟨_, rfl, (by show 2 ≤ sizeLine; decide), fun T5 h5 => ?_⟩⟩
          have q5 := Same.new (Same.refl G4) (o := .tup [.str "UnknownName", v]) h5
          refine ⟨.ref T4, .ref T5, rfl, pair (q5 _ _ h4) upd_same (lv (((r3.trans q3).trans s4).trans q5)), fun G6 s6 => ⟨true, rfl, iteF ?_⟩⟩
          exact back ((((r3.trans q3).trans s4).trans q5).trans s6)
    · rintro σ H13 ⟨⟨y13, y14, rfl⟩, s13⟩
      refine ⟨_, rfl, v, d, rfl, (dg H13 (Keep.ofSame s13)).sh, ds1, ds2, ds3, _, rfl, rfl, _, rfl, iteNS rfl ?_⟩
      exact ⟨⟨_, _, _, _, _, _, _, _, _, _, _, _, rfl⟩, L11.same s13⟩
end
end K01

end

section
set_option Elab.async false
set_option linter.all false
set_option maxRecDepth 100000
set_option maxHeartbeats 8000000
namespace K01
open PySem L2 SB
/-- a written dict's entries: texts and whole numbers -/
inductive Entries : List (Str × Int) → List DictEntry → Prop
  | nil : Entries [] []
  | cons {k : Str} {v : Int} {e : DictEntry} {l : List (Str × Int)} {es : List DictEntry} (hk : ∃ t, e.key = .str k t) (hv : ∃ t, e.val = .int v t) (r : Entries l es) : Entries ((k, v) :: l) (e :: es)
theorem entries_find : ∀ {l : List (Str × Int)} {es : List DictEntry}, Entries l es → ∀ z : Str, (l.lookup z = none ∧ es.find? (·.key.isStr z) = none ∧ es.any (·.refKey) = false) ∨ ∃ i t e, l.lookup z = some i ∧ es.find? (·.key.isStr z) = some e ∧ e.val = .int i t
  | _, _, .nil, z => .inl ⟨rfl, rfl, rfl⟩
  | _, _, .cons (k := k) (v := v) (e := e) (l := l) (es := es) ⟨t, hk⟩ ⟨u, hv⟩ r, z => by
    by_cases q : z = k
    · subst q
      refine .inr ⟨v, u, e, by simp [List.lookup], ?_, hv⟩
      rw [List.find?_cons_of_pos]
      rw [hk]
      simp [Value.isStr]
    · have q' : (z == k) = false := by simpa using q
      have h1 : e.key.isStr z = false := by
        rw [hk]
        simp only [Value.isStr]
        simpa using fun y => q y.symm
      have h2 : e.refKey = false := by
        unfold DictEntry.refKey
        rw [hk]
      rcases entries_find r z with ⟨a1, a2, a3⟩ | ⟨i, t', e', a1, a2, a3⟩
      · exact .inl ⟨by simpa [List.lookup, q'] using a1, by rw [List.find?_cons_of_neg (by rw [h1]; simp)]; exact a2, by rw [List.any_cons, h2, a3]; rfl⟩
      · exact .inr ⟨i, t', e', by simpa [List.lookup, q'] using a1, by rw [List.find?_cons_of_neg (by rw [h1]; simp)]; exact a2, a3⟩
theorem lims_of {K : PySem.W.Frag} {w : World} {mg : Str → Option Value} {L : Addr} {es : Array DictEntry} {n : Nat} (g : mg "LIMITS" = some (.ref L)) (il : K.lookup L = some ⟨.type "dict", none, .dict es n, #[]⟩) (ik : PySem.W.KeysLit w.params es.toList) (io : (L == sysModules) = false) (ir : Entries limTab es.toList) : Lims K w mg L where
  g := g
  d := ⟨es, n, ⟨il, ik, io⟩⟩
  look z := by
    rcases entries_find ir z with ⟨a1, a2, a3⟩ | ⟨i, t, e, a1, a2, a3⟩
    · refine .inl ⟨a1, ?_⟩
      unfold PySem.W.nsIn
      rw [il]
      dsimp only
      rw [a2]
      dsimp only
      rw [if_neg (by rw [a3]; simp)]
    · refine .inr ⟨i, t, a1, ?_⟩
      unfold PySem.W.nsIn
      rw [il]
      dsimp only
      rw [a2]
      dsimp only
      rw [a3]
theorem all_mk {l : PySem.W.OpenLaw} {w : World} {K : PySem.W.Frag} {h : Heap} {mg : Str → Option Value} {fa W L f0 f1 f2 f3 f4 f5 f6 f7 f8 C0 gi0 C1 gi1 : Addr} (X : K.In h) (G : h.Ns mainGlobals mg) (hfa : mg "law" = some (.ref fa))
    {od0 an0 od1 an1 od2 an2 od3 an3 od4 an4 od5 an5 od6 an6 od7 an7 od8 an8 oe0 ae0 oe1 ae1 ddW : Option Addr} {sl0 sl1 sl2 sl3 sl4 sl5 sl6 sl7 sl8 se0 se1 slW : Array (Option Value)} {oc0 kV0 dc0 pm0 cd0 ct0 oc1 kV1 dc1 pm1 cd1 ct1 oc2 kV2 dc2 pm2 cd2 ct2 oc3 kV3 dc3 pm3 cd3 ct3 oc4 kV4 dc4 pm4 cd4 ct4 oc5 kV5 dc5 pm5 cd5 ct5 oc6 kV6 dc6 pm6 cd6 ct6 oc7 kV7 dc7 pm7 cd7 ct7 oc8 kV8 dc8 pm8 cd8 ct8 oce0 kVe0 dce0 pme0 cde0 cte0 oce1 kVe1 dce1 pme1 cde1 cte1 : Value} {itsW : Array Value} {nW nL : Nat} {esL : Array DictEntry}
    (a0 : PySem.W.nsIn K mainGlobals "limit_of" = some (some (.ref f0)))
    (l0 : K.lookup f0 = some ⟨oc0, od0, .func (PySem.W.fnOf "limit_of" "limit_of" (defArgs s_limit_of) (defBody s_limit_of) (defScope s_limit_of) .none kV0 dc0 pm0 an0 cd0 ct0), sl0⟩)
    (c0 : PySem.W.codeIn K cd0 "limit_of" = true)
    (k0 : PySem.W.keepIn K (.ref f0) = true)
    (a1 : PySem.W.nsIn K mainGlobals "check_limit" = some (some (.ref f1)))
    (l1 : K.lookup f1 = some ⟨oc1, od1, .func (PySem.W.fnOf "check_limit" "check_limit" (defArgs s_check_limit) (defBody s_check_limit) (defScope s_check_limit) .none kV1 dc1 pm1 an1 cd1 ct1), sl1⟩)
    (c1 : PySem.W.codeIn K cd1 "check_limit" = true)
    (k1 : PySem.W.keepIn K (.ref f1) = true)
    (a2 : PySem.W.nsIn K mainGlobals "_law_bag" = some (some (.ref f2)))
    (l2 : K.lookup f2 = some ⟨oc2, od2, .func (PySem.W.fnOf "_law_bag" "_law_bag" (defArgs s_l_bag) (defBody s_l_bag) (defScope s_l_bag) .none kV2 dc2 pm2 an2 cd2 ct2), sl2⟩)
    (c2 : PySem.W.codeIn K cd2 "_law_bag" = true)
    (k2 : PySem.W.keepIn K (.ref f2) = true)
    (a3 : PySem.W.nsIn K mainGlobals "_law_draw" = some (some (.ref f3)))
    (l3 : K.lookup f3 = some ⟨oc3, od3, .func (PySem.W.fnOf "_law_draw" "_law_draw" (defArgs s_l_draw) (defBody s_l_draw) (defScope s_l_draw) .none kV3 dc3 pm3 an3 cd3 ct3), sl3⟩)
    (c3 : PySem.W.codeIn K cd3 "_law_draw" = true)
    (k3 : PySem.W.keepIn K (.ref f3) = true)
    (a4 : PySem.W.nsIn K mainGlobals "_law_of" = some (some (.ref f4)))
    (l4 : K.lookup f4 = some ⟨oc4, od4, .func (PySem.W.fnOf "_law_of" "_law_of" (defArgs s_l_of) (defBody s_l_of) (defScope s_l_of) .none kV4 dc4 pm4 an4 cd4 ct4), sl4⟩)
    (c4 : PySem.W.codeIn K cd4 "_law_of" = true)
    (k4 : PySem.W.keepIn K (.ref f4) = true)
    (a5 : PySem.W.nsIn K mainGlobals "_law_same" = some (some (.ref f5)))
    (l5 : K.lookup f5 = some ⟨oc5, od5, .func (PySem.W.fnOf "_law_same" "_law_same" (defArgs s_l_same) (defBody s_l_same) (defScope s_l_same) .none kV5 dc5 pm5 an5 cd5 ct5), sl5⟩)
    (c5 : PySem.W.codeIn K cd5 "_law_same" = true)
    (k5 : PySem.W.keepIn K (.ref f5) = true)
    (a6 : PySem.W.nsIn K mainGlobals "_law_limit" = some (some (.ref f6)))
    (l6 : K.lookup f6 = some ⟨oc6, od6, .func (PySem.W.fnOf "_law_limit" "_law_limit" (defArgs s_l_limit) (defBody s_l_limit) (defScope s_l_limit) .none kV6 dc6 pm6 an6 cd6 ct6), sl6⟩)
    (c6 : PySem.W.codeIn K cd6 "_law_limit" = true)
    (k6 : PySem.W.keepIn K (.ref f6) = true)
    (a7 : PySem.W.nsIn K mainGlobals "_law_checked" = some (some (.ref f7)))
    (l7 : K.lookup f7 = some ⟨oc7, od7, .func (PySem.W.fnOf "_law_checked" "_law_checked" (defArgs s_l_checked) (defBody s_l_checked) (defScope s_l_checked) .none kV7 dc7 pm7 an7 cd7 ct7), sl7⟩)
    (c7 : PySem.W.codeIn K cd7 "_law_checked" = true)
    (k7 : PySem.W.keepIn K (.ref f7) = true)
    (a8 : PySem.W.nsIn K mainGlobals "law" = some (some (.ref f8)))
    (l8 : K.lookup f8 = some ⟨oc8, od8, .func (PySem.W.fnOf "law" "law" (defArgs s_law) (defBody s_law) (defScope s_law) .none kV8 dc8 pm8 an8 cd8 ct8), sl8⟩)
    (c8 : PySem.W.codeIn K cd8 "law" = true)
    (k8 : PySem.W.keepIn K (.ref f8) = true)
    (xa0 : PySem.W.nsIn K mainGlobals "UnknownName" = some (some (.ref C0)))
    (xm0 : PySem.W.excInitIn K C0 bmLE "LookupError.__new__" = true)
    (xo0 : PySem.W.excOver K C0 bmLE = true)
    (xh0 : PySem.W.hasDictIn K C0 = true)
    (xs0 : PySem.W.findIn K (.ref C0) "__setattr__" = some (some (.builtin "object.__setattr__")))
    (xe0 : PySem.W.subIn K (.ref C0) (.type "BaseException") = some true)
    (xt0 : PySem.W.typeIn K (.ref C0) = some (.type "type"))
    (xk0 : PySem.W.keepIn K (.ref C0) = true)
    (xg0 : PySem.W.findIn K (.ref C0) "__getattribute__" = some (some (.builtin "BaseException.__getattribute__")))
    (xq0 : PySem.W.findIn K (.ref C0) "__getattr__" = some none)
    (xi0 : PySem.W.findIn K (.ref C0) "__init__" = some (some (.ref gi0)))
    (xf0 : PySem.W.typeIn K (.ref gi0) = some (.type "function"))
    (xl0 : K.lookup gi0 = some ⟨oce0, oe0, .func (PySem.W.fnOf "__init__" "UnknownName.__init__" (defArgs s_UnknownName_init) (defBody s_UnknownName_init) (defScope s_UnknownName_init) .none kVe0 dce0 pme0 ae0 cde0 cte0), se0⟩)
    (xc0 : PySem.W.codeIn K cde0 "UnknownName.__init__" = true)
    (xp0 : PySem.W.keepIn K (.ref gi0) = true)
    (xn0 : PySem.W.findIn K (.ref C0) "code" = some none)
    (xz0 : PySem.W.subIn K (.ref C0) (.ref C0) = some true)
    (xy0name : PySem.W.findIn K (.ref C0) "name" = some none)
    (xa1 : PySem.W.nsIn K mainGlobals "TooMany" = some (some (.ref C1)))
    (xm1 : PySem.W.excInitIn K C1 bmVE "ValueError.__new__" = true)
    (xo1 : PySem.W.excOver K C1 bmVE = true)
    (xh1 : PySem.W.hasDictIn K C1 = true)
    (xs1 : PySem.W.findIn K (.ref C1) "__setattr__" = some (some (.builtin "object.__setattr__")))
    (xe1 : PySem.W.subIn K (.ref C1) (.type "BaseException") = some true)
    (xt1 : PySem.W.typeIn K (.ref C1) = some (.type "type"))
    (xk1 : PySem.W.keepIn K (.ref C1) = true)
    (xg1 : PySem.W.findIn K (.ref C1) "__getattribute__" = some (some (.builtin "BaseException.__getattribute__")))
    (xq1 : PySem.W.findIn K (.ref C1) "__getattr__" = some none)
    (xi1 : PySem.W.findIn K (.ref C1) "__init__" = some (some (.ref gi1)))
    (xf1 : PySem.W.typeIn K (.ref gi1) = some (.type "function"))
    (xl1 : K.lookup gi1 = some ⟨oce1, oe1, .func (PySem.W.fnOf "__init__" "TooMany.__init__" (defArgs s_TooMany_init) (defBody s_TooMany_init) (defScope s_TooMany_init) .none kVe1 dce1 pme1 ae1 cde1 cte1), se1⟩)
    (xc1 : PySem.W.codeIn K cde1 "TooMany.__init__" = true)
    (xp1 : PySem.W.keepIn K (.ref gi1) = true)
    (xn1 : PySem.W.findIn K (.ref C1) "code" = some none)
    (xz1 : PySem.W.subIn K (.ref C1) (.ref C1) = some true)
    (xy1what : PySem.W.findIn K (.ref C1) "what" = some none)
    (xy1count : PySem.W.findIn K (.ref C1) "count" = some none)
    (cr10 : PySem.W.subIn K (.ref C1) (.ref C0) = some false)
    (z_int : PySem.W.nsIn K mainGlobals "int" = some none)
    (z_list : PySem.W.nsIn K mainGlobals "list" = some none)
    (z_len : PySem.W.nsIn K mainGlobals "len" = some none)
    (z_abs : PySem.W.nsIn K mainGlobals "abs" = some none)
    (z_isinstance : PySem.W.nsIn K mainGlobals "isinstance" = some none)
    (z_tuple : PySem.W.nsIn K mainGlobals "tuple" = some none)
    (z_all : PySem.W.nsIn K mainGlobals "all" = some none)
    (z_zip : PySem.W.nsIn K mainGlobals "zip" = some none)
    (z_bool : PySem.W.nsIn K mainGlobals "bool" = some none)
    (z_str : PySem.W.nsIn K mainGlobals "str" = some none)
    (z_range : PySem.W.nsIn K mainGlobals "range" = some none)
    (z_repr : PySem.W.nsIn K mainGlobals "repr" = some none)
    (wa : PySem.W.nsIn K mainGlobals "WORDS" = some (some (.ref W)))
    (wl : K.lookup W = some ⟨.type "tuple", ddW, .seq itsW nW, slW⟩)
    (ww : Vals (wordsL.map V.str) itsW.toList)
    (wz : itsW.size ≤ sizeLine)
    (ia : PySem.W.nsIn K mainGlobals "LIMITS" = some (some (.ref L)))
    (il : K.lookup L = some ⟨.type "dict", none, .dict esL nL, #[]⟩)
    (ik : PySem.W.KeysLit w.params esL.toList)
    (io : (L == sysModules) = false)
    (ir : Entries limTab esL.toList) :
    ∃ fd : FuncData, (∀ (s : Shared) (v : Value), BindsTo s fd ⟨[v], []⟩ [("_law_script", v)]) ∧ ∀ base : Heap, K.In base → base.Ns mainGlobals mg → AtCaller l.prog w K mg base fa fd "_law_script" (spLaw K) := by
  have e := hfa.symm.trans (PySem.W.mg_of X G a8)
  cases e
  have m0 := PySem.W.mg_of X G a0
  have F0 := fun_mk (st := s_limit_of) l0 c0 k0
  have m1 := PySem.W.mg_of X G a1
  have F1 := fun_mk (st := s_check_limit) l1 c1 k1
  have m2 := PySem.W.mg_of X G a2
  have F2 := fun_mk (st := s_l_bag) l2 c2 k2
  have m3 := PySem.W.mg_of X G a3
  have F3 := fun_mk (st := s_l_draw) l3 c3 k3
  have m4 := PySem.W.mg_of X G a4
  have F4 := fun_mk (st := s_l_of) l4 c4 k4
  have m5 := PySem.W.mg_of X G a5
  have F5 := fun_mk (st := s_l_same) l5 c5 k5
  have m6 := PySem.W.mg_of X G a6
  have F6 := fun_mk (st := s_l_limit) l6 c6 k6
  have m7 := PySem.W.mg_of X G a7
  have F7 := fun_mk (st := s_l_checked) l7 c7 k7
  have m8 := PySem.W.mg_of X G a8
  have F8 := fun_mk (st := s_law) l8 c8 k8
  have n_int := PySem.W.mg_none_of X G z_int
  have n_list := PySem.W.mg_none_of X G z_list
  have n_len := PySem.W.mg_none_of X G z_len
  have n_abs := PySem.W.mg_none_of X G z_abs
  have n_isinstance := PySem.W.mg_none_of X G z_isinstance
  have n_tuple := PySem.W.mg_none_of X G z_tuple
  have n_all := PySem.W.mg_none_of X G z_all
  have n_zip := PySem.W.mg_none_of X G z_zip
  have n_bool := PySem.W.mg_none_of X G z_bool
  have n_str := PySem.W.mg_none_of X G z_str
  have n_range := PySem.W.mg_none_of X G z_range
  have n_repr := PySem.W.mg_none_of X G z_repr
  have b0 := F0.binds (ps := ["what"]) fun _ _ _ _ _ _ us hl => match us, hl with | [_], _ => rfl
  have b1 := F1.binds (ps := ["what", "count"]) fun _ _ _ _ _ _ us hl => match us, hl with | [_, _], _ => rfl
  have b2 := F2.binds (ps := ["_law_script"]) fun _ _ _ _ _ _ us hl => match us, hl with | [_], _ => rfl
  have b3 := F3.binds (ps := ["_law_bag_here", "_law_top"]) fun _ _ _ _ _ _ us hl => match us, hl with | [_, _], _ => rfl
  have b4 := F4.binds (ps := ["_law_bag_here", "_law_some"]) fun _ _ _ _ _ _ us hl => match us, hl with | [_, _], _ => rfl
  have b5 := F5.binds (ps := ["_law_found", "_law_due"]) fun _ _ _ _ _ _ us hl => match us, hl with | [_, _], _ => rfl
  have b6 := F6.binds (ps := ["_law_v", "_law_named"]) fun _ _ _ _ _ _ us hl => match us, hl with | [_, _], _ => rfl
  have b7 := F7.binds (ps := ["_law_v", "_law_n", "_law_named"]) fun _ _ _ _ _ _ us hl => match us, hl with | [_, _, _], _ => rfl
  have E0 := fun_mk (st := s_UnknownName_init) xl0 xc0 xp0
  have be0 := E0.binds (ps := ["self", "name"]) fun _ _ _ _ _ _ us hl => match us, hl with | [_, _], _ => rfl
  have X0 : XFacts K mg "UnknownName" C0 gi0 bmLE "LookupError.__new__" := ⟨⟨xm0, xo0, xh0, xs0, xe0, xt0, xk0⟩, ⟨xg0, xq0, xe0, xh0⟩, PySem.W.mg_of X G xa0, xi0, xf0, xn0, PySem.W.exm_ref xe0 xh0 xt0 xz0⟩
  have E1 := fun_mk (st := s_TooMany_init) xl1 xc1 xp1
  have be1 := E1.binds (ps := ["self", "what", "count"]) fun _ _ _ _ _ _ us hl => match us, hl with | [_, _, _], _ => rfl
  have X1 : XFacts K mg "TooMany" C1 gi1 bmVE "ValueError.__new__" := ⟨⟨xm1, xo1, xh1, xs1, xe1, xt1, xk1⟩, ⟨xg1, xq1, xe1, xh1⟩, PySem.W.mg_of X G xa1, xi1, xf1, xn1, PySem.W.exm_ref xe1 xh1 xt1 xz1⟩
  have lims : Lims K w mg L := lims_of (PySem.W.mg_of X G ia) il ik io ir
  have kb1 : KBinds K (PySem.W.fnOf "limit_of" "limit_of" (defArgs s_limit_of) (defBody s_limit_of) (defScope s_limit_of) .none kV0 dc0 pm0 an0 cd0 ct0) ["what"] ["what"] g1 g1 :=
    ⟨fun s us ws _ hl => match us, ws, hl with
      | [], [_], _ => .of_eq rfl
      | [_], [], _ => .of_eq rfl, fun r q => Vals.append r q⟩
  have kb2 : KBinds K (PySem.W.fnOf "check_limit" "check_limit" (defArgs s_check_limit) (defBody s_check_limit) (defScope s_check_limit) .none kV1 dc1 pm1 an1 cd1 ct1) ["what", "count"] ["count", "what"] g2 g2 :=
    ⟨fun s us ws _ hl => match us, ws, hl with
      | [], [_, _], _ => .of_eq rfl, fun {vs us zs ws} r q => by
        cases r with
        | nil =>
          cases q with
          | nil => exact .nil
          | cons a q =>
            cases q with
            | nil => exact .nil
            | cons b q =>
              cases q with
              | nil => exact .cons b (.cons a .nil)
              | cons c q => exact .nil
        | cons a r => exact .nil⟩
  refine ⟨PySem.W.fnOf "law" "law" (defArgs s_law) (defBody s_law) (defScope s_law) .none kV8 dc8 pm8 an8 cd8 ct8, fun s v => .of_eq rfl, fun base _ _ => ?_⟩
  · have GU := ok_lim (P := l.prog) (base := base) F0 n_isinstance n_str lims X0 xy0name E0 be0
    have GC := ok_chk (P := l.prog) (base := base) (L := L) (fI := gi0) F1 m0 k0 b0 GU X1 xy1what xy1count E1 be1
    have GD := ok_draw (P := l.prog) (w := w) (base := base) F3 n_int n_len n_abs
    exact ok_law (W := W) F8 {
      bg := ⟨_, _, m2, k2, b2, ok_bag F2 n_int n_list⟩
      dr := ⟨_, _, m3, k3, b3, GD⟩
      of := ⟨_, _, m4, k4, b4, ok_of F4 n_len m3 GD k3 b3⟩
      sm := ⟨_, _, m5, k5, b5, ok_same F5 ⟨n_isinstance, n_list, n_tuple, n_len, n_all, n_zip, n_bool, n_int, n_str⟩ m5 b5 4⟩
      lm := ⟨_, _, m6, k6, b6, ok_limit F6 m0 k0 b0 kb1 GU X0 xy0name⟩
      ch := ⟨_, _, m7, k7, b7, ok_checked F7 m1 k1 b1 kb2 GC X0 xy0name X1 xy1what xy1count (PySem.W.exm_ref xe0 xh0 xt0 cr10)⟩
      gW := PySem.W.mg_of X G wa
      W := fun H => .inr ⟨_, itsW, nW, wl, rfl, rfl, wz, ww⟩
      len := n_len
      isi := n_isinstance
      str := n_str
      lst := n_list
      rng := n_range
      rep := n_repr }
end K01

end

section
set_option Elab.async false
set_option linter.all false
open PySem PySem.W PyProof.Rows
set_option maxRecDepth 100000 in
set_option maxHeartbeats 0 in
theorem PySem.Challenge.cw_shapebetween_k01_limits_told_holds : PySem.Challenge.rw_shapebetween_k01_limits_told.Holds := by
  w_on; o_law; k_head; (case hw => w_witness2)
  k_fill
  refine SB.caller_walk (n := 63) (x := "_law_script") (sp := fun w => K01.spLaw _) rfl (by decide) rfl (fun w h Y => PySem.W.kIn_of Y) ?F (fun w H a ns hl hS => ⟨a, ns, rfl, hS, hl, fun _ => rfl⟩)
  case F =>
    intro w mg fa h KX G hmg
    refine' K01.all_mk KX G hmg ?a0 ?l0 ?c0 ?k0 ?a1 ?l1 ?c1 ?k1 ?a2 ?l2 ?c2 ?k2 ?a3 ?l3 ?c3 ?k3 ?a4 ?l4 ?c4 ?k4 ?a5 ?l5 ?c5 ?k5 ?a6 ?l6 ?c6 ?k6 ?a7 ?l7 ?c7 ?k7 ?a8 ?l8 ?c8 ?k8 ?xa0 ?xm0 ?xo0 ?xh0 ?xs0 ?xe0 ?xt0 ?xk0 ?xg0 ?xq0 ?xi0 ?xf0 ?xl0 ?xc0 ?xp0 ?xn0 ?xz0 ?xy0name ?xa1 ?xm1 ?xo1 ?xh1 ?xs1 ?xe1 ?xt1 ?xk1 ?xg1 ?xq1 ?xi1 ?xf1 ?xl1 ?xc1 ?xp1 ?xn1 ?xz1 ?xy1what ?xy1count ?cr10 ?z_int ?z_list ?z_len ?z_abs ?z_isinstance ?z_tuple ?z_all ?z_zip ?z_bool ?z_str ?z_range ?z_repr ?wa ?wl ?ww ?wz ?ia ?il ?ik ?io ?ir
    (case a0 => k_is)
    (case l0 => k_is)
    (case c0 => k_is)
    (case k0 => k_is)
    (case a1 => k_is)
    (case l1 => k_is)
    (case c1 => k_is)
    (case k1 => k_is)
    (case a2 => k_is)
    (case l2 => k_is)
    (case c2 => k_is)
    (case k2 => k_is)
    (case a3 => k_is)
    (case l3 => k_is)
    (case c3 => k_is)
    (case k3 => k_is)
    (case a4 => k_is)
    (case l4 => k_is)
    (case c4 => k_is)
    (case k4 => k_is)
    (case a5 => k_is)
    (case l5 => k_is)
    (case c5 => k_is)
    (case k5 => k_is)
    (case a6 => k_is)
    (case l6 => k_is)
    (case c6 => k_is)
    (case k6 => k_is)
    (case a7 => k_is)
    (case l7 => k_is)
    (case c7 => k_is)
    (case k7 => k_is)
    (case a8 => k_is)
    (case l8 => k_is)
    (case c8 => k_is)
    (case k8 => k_is)
    (case xa0 => k_is)
    (case xm0 => kx_is)
    (case xo0 => kx_is)
    (case xh0 => k_is)
    (case xs0 => k_is)
    (case xe0 => k_is)
    (case xt0 => k_is)
    (case xk0 => k_is)
    (case xg0 => k_is)
    (case xq0 => k_is)
    (case xi0 => k_is)
    (case xf0 => k_is)
    (case xl0 => k_is)
    (case xc0 => k_is)
    (case xp0 => k_is)
    (case xn0 => k_is)
    (case xz0 => k_is)
    (case xy0name => k_is)
    (case xa1 => k_is)
    (case xm1 => kx_is)
    (case xo1 => kx_is)
    (case xh1 => k_is)
    (case xs1 => k_is)
    (case xe1 => k_is)
    (case xt1 => k_is)
    (case xk1 => k_is)
    (case xg1 => k_is)
    (case xq1 => k_is)
    (case xi1 => k_is)
    (case xf1 => k_is)
    (case xl1 => k_is)
    (case xc1 => k_is)
    (case xp1 => k_is)
    (case xn1 => k_is)
    (case xz1 => k_is)
    (case xy1what => k_is)
    (case xy1count => k_is)
    (case cr10 => k_is)
    (case z_int => k_is)
    (case z_list => k_is)
    (case z_len => k_is)
    (case z_abs => k_is)
    (case z_isinstance => k_is)
    (case z_tuple => k_is)
    (case z_all => k_is)
    (case z_zip => k_is)
    (case z_bool => k_is)
    (case z_str => k_is)
    (case z_range => k_is)
    (case z_repr => k_is)
    (case wa => k_is)
    (case wl => k_is)
    (case ww => exact (by repeat (first | exact .nil | refine .cons ⟨_, rfl⟩ ?_)))
    (case wz => decide)
    (case ia => k_is)
    (case il => k_is)
    (case ik => exact (by repeat (first | exact True.intro | refine ⟨⟨_, _, rfl, rfl⟩, ?_⟩)))
    (case io => rfl)
    (case ir => exact (by repeat (first | exact .nil | refine .cons ⟨_, rfl⟩ ⟨_, rfl⟩ ?_)))

end
