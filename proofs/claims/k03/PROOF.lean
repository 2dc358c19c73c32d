import PyProof.Rows.All
import Wide.All
import OpenK.AllK
import Wide.FinOn
import KE.KExcPX
import KE.KExcInit
import HandS.Base
import HandS.Call
import HandS.List
import HandS.Ends
import HandS.Exc
import HandS.ExcInit
import HandS.Words
import HandS.WordsExc
import HandS.Wide
import HandS.WordsList
import HandS.Comp
import HandS.Iter
import HandS.Zip
import HandS.IsInst
import HandS.DeepEq
import HandS.ExcField
import HandS.ExcOwn
import HandS.More
import HandS.MakeKwOnly
import PyProof.ReprRoads
import HandS.Text
import HandS.Style
import HandS.Strs
import PyProof.StrLawsRepr
import PySem.Challenge.RW_shapebetween_k03_rows_told
import HandS.SetFor
import HandS.FStr
import PyProof.InstNe
import HandS.SlotsOwn
import HandS.OwnEq
import KE.KCallOwn
import PyProof.ReprBulk
import HandS.TupAny
import HandS.Conv
import HandS.Codes
import HandS.Dict
import HandS.Small
import HandS.ClsMeth
import HandS.Steps
import KE.KExcLine
import HandS.ExcIs
section
set_option Elab.async false
set_option linter.all false
set_option maxRecDepth 100000
set_option maxHeartbeats 4000000
/-! try with several clauses `except C as n`; own exception classes over any base. -/
namespace SB
open PySem PySem.Spec PyProof.Rows L2

/-- clauses, each with a name: what is wished of an exception, clause by clause -/
inductive Clauses (X : Cx) (D : Ends) (Wout : WX) : List ExceptHandler → WX → Prop
  | done : Clauses X D Wout [] Wout
  | more {x n : Str} {c : Value} {i : Nat} {ts : Addr → Value → Option Addr → TS} {b₀ : Stmt} {suite : List Stmt} {np pc : Pos} {rest : List ExceptHandler} {W : WX}
      (hi : X.N[i]? = some n) (hl : X.env.kindOf n = some .local) (hc : Names X x c)
      (hs : ∀ (a : Addr) (oe : Obj) (cls : Value) (d : Option Addr) (pn : List (Addr × Obj)), Zc cls d oe → (∃ vs, oe.data = .fields vs) → PSs (X.suite a ((a, oe) :: pn)) (b₀ :: suite) (ts a cls d))
      (r : Clauses X D Wout rest W) : Clauses X D Wout (.ExceptHandler (some (.Name x np)) (some n) (b₀ :: suite) pc :: rest) (wAs X.K c i ts W D)

section
variable {X : Cx} {body : List Stmt} {h₀ : ExceptHandler} {hds : List ExceptHandler} {pos : Pos} {tb : WX → TS} {Wout : WX}

/-- the exception at a, seen by the clauses that are left -/
theorem clauses_run {D : Ends} {pins : List (Addr × Obj)} {a : Addr} {B : Heap} {cls : Value} {d : Option Addr} {sI s' : Shared} {σ : L2.St} {H : Hp}
    (hst : X.stack = X.env :: X.outer) (hf : X.env.frame = some X.env.locals) (hN : X.N.Nodup) (tk : Takes X Wout) (J : Inv X pins σ H sI)
    (nb : ∀ b o, sI.heap.get? b = some o → b ∉ frs X.stack → B.get? b = some o) (os : s'.os = sI.os) (ag : AllBare s'.gens) (na : H a = none) :
    ∀ {hs : List ExceptHandler} {W : WX}, Clauses X D Wout hs W → ∀ h3 : Heap, HandSPX.FlyingZ B (X.env :: X.outer) a (Zc cls d) h3 → sI.heap.UpToSlots h3 → W cls d σ H →
      wpAny (model X.prog X.w) X.A (handleBy (.ref a) X.env hs) (SP X pins D) X.xe { s' with heap := h3 } := by
  intro hs W hk
  induction hk with
  | done =>
    intro h3 fl up w
    refine PX.no_clauseZ (B := B) (outer := X.outer) (Z := Zc cls d) hf fl fun h4 hh up4 => tk _ _ ?_
    exact ⟨a, B, sI, pins, σ, H, cls, d, rfl, J, nb, up.trans up4, .inr (.inr (by rw [hst]; exact hh)), na, os, ag, w⟩
  | @more x n c i ts b₀ suite np pc rest W hi hl hc hsu r ih =>
    intro h3 fl up w
    obtain ⟨b, hb, yes, no⟩ := w
    have ok := J.ok
    have J3 : Inv X pins σ H { s' with heap := h3 } := J.landed nb fl.1 up os ag
    obtain ⟨oe, vs, he, hz, hd⟩ := fl.there
    have out : a ∉ frs (X.env :: X.outer) := fun hm => by
      obtain ⟨_, o', e', hnf⟩ := fl.2.2.1.mem hm
      rw [he] at e'
      cases e'
      exact hnf _ hd
    have nL : a ≠ X.env.locals := fun z => out (List.mem_filterMap.mpr ⟨X.env, List.mem_cons_self, by rw [hf, z]⟩)
    have nF : a ∉ X.fs := fun hm => by
      obtain ⟨e, h1, h2⟩ := List.mem_filterMap.mp hm
      exact out (List.mem_filterMap.mpr ⟨e, List.mem_cons_of_mem _ h1, h2⟩)
    have S3 := J3.suite he hd na nL nF
    have asked : ∀ {Q' : Value → Shared → Prop} {E' : Value → Shared → Prop}, Q' c { s' with heap := h3 } → wpAny (model X.prog X.w) (X.A.mark (some (.ref a))) (eval (.Name x np) X.env) Q' E' { s' with heap := h3 } := fun {Q' E'} q => by
      obtain ⟨hg, hdb, hm | ⟨hm, hv, hnn⟩⟩ := hc
      · exact ld_glob (X := X.suite a ((a, oe) :: (X.pn ++ pins))) S3 hg hm q hdb
      · exact ld_blt (X := X.suite a ((a, oe) :: (X.pn ++ pins))) S3 hg hm hv q hnn hdb
    cases b with
    | false => exact PX.clause_passZ (B := B) (outer := X.outer) (Z := Zc cls d) J3.kIn (fun o z => z.1) fl hb asked (ih h3 fl up (no rfl))
    | true =>
      refine PX.clause_asZ (B := B) (outer := X.outer) (Z := Zc cls d) J3.kIn (fun o z => z.1) fl hb asked fun h4 fl4 up4 => ?_
      have J4 : Inv X pins σ H { s' with heap := h4 } := J.landed nb fl4.1 (up.trans up4) os ag
      obtain ⟨oe4, vs4, he4, hz4, hd4⟩ := HandSPX.FlyingZ.there fl4
      have S4 := J4.suite he4 hd4 na nL nF
      refine store_ok (X := X.suite a ((a, oe4) :: (X.pn ++ pins))) (v := .ref a) S4 hN hi (.inl hl) rfl (fun s5 S5 => ?_) (.inr hl)
      refine wpAny_mono ((hsu a oe4 cls d (X.pn ++ pins) hz4 ⟨_, hd4⟩).run [] s5 _ H _ S5 (yes rfl a na)) (fun f s6 hsp => ?_) (fun _ _ z => False.elim z)
      have gone : ∀ {σ6 : L2.St} {H6 : Hp} {Q : Shared → Prop}, Inv (X.suite a ((a, oe4) :: (X.pn ++ pins))) [] σ6 H6 s6 → (∀ s7, Inv X pins (σ6.set i none) H6 s7 → Q s7) →
          wpAny (model X.prog X.w) X.A (do bindName X.env n .none; unbindBehindTheSuite X.env n pc) (fun _ s7 => Q s7) X.xe s6 := fun S6 hq => gone_ok (S6.unsuite ok) hN hi hl hq
      cases f with
      | next => exact let ⟨σ6, H6, S6, q6⟩ := hsp; gone S6 fun s7 J7 => ⟨_, _, J7, q6⟩
      | brk => exact let ⟨σ6, H6, S6, q6⟩ := hsp; gone S6 fun s7 J7 => ⟨_, _, J7, q6⟩
      | cont => exact let ⟨σ6, H6, S6, q6⟩ := hsp; gone S6 fun s7 J7 => ⟨_, _, J7, q6⟩
      | ret u => exact let ⟨v6, σ6, H6, S6, r6, q6⟩ := hsp; gone S6 fun s7 J7 => ⟨_, _, _, J7, r6, q6⟩

/-- try: body except A as n: .. except B as n: .. -/
theorem ps_try_clauses (hst : X.stack = X.env :: X.outer) (hf : X.env.frame = some X.env.locals) (hN : X.N.Nodup) (tk : Takes X Wout) {wW : Ends → WX}
    (hb : ∀ (W : WX) (pn : List (Addr × Obj)) (xe : Value → Shared → Prop), Takes (X.tr pn xe) W → PassesOwn (model X.prog X.w) X.A X.env xe → PSs (X.tr pn xe) body (tb W))
    (hh : ∀ D, Clauses X D Wout (h₀ :: hds) (wW D)) : PS X (.Try body (h₀ :: hds) [] [] pos) (fun D σ H => tb (wW D) D σ H) := by
  refine ⟨fun pins s σ H D I h => ?_⟩
  have ok := I.ok
  have hfr : X.A.frames = some (X.env :: X.outer) := ok.frames.trans (congrArg some hst)
  refine wpAny_Try_except (wpAny_mono ((hb (wW D) (X.pn ++ pins) (fun e s₁ => wpAny (model X.prog X.w) X.A (noteFrame e X.env) (fun _ s₂ => wpAny (model X.prog X.w) X.A (setFlight e none)
    (fun _ s₃ => wpAny (model X.prog X.w) X.A (handleBy e X.env (h₀ :: hds)) (SP X pins D) X.xe s₃) X.xe s₂) X.xe s₁) (fun u s' xx => ?_) PassesOwn.looking).run [] s σ H D (I.toTry _) h) (fun f s1 hsp => ?_) fun e s1 he => he)
  · obtain ⟨a, B, sI, pins', σ', H', cls, d, rfl, J', nb, up, sky, na, os, ag, w⟩ := xx
    have J : Inv X pins σ' H' sI := J'.ofTry ok
    have sk : Sky B (X.env :: X.outer) a (Zc cls d) X.env.locals s'.heap := hst ▸ sky
    exact Sky.land Zc.steady hfr hf sk fun h3 fl3 up3 => clauses_run hst hf hN tk J nb os ag na (hh D) h3 fl3 (up.trans up3) w
  · cases f with
    | next => exact let ⟨σ', H', J', q⟩ := hsp; wpAny_execs_nil ⟨σ', H', J'.ofTry ok, q⟩
    | brk => exact let ⟨σ', H', J', q⟩ := hsp; ⟨σ', H', J'.ofTry ok, q⟩
    | cont => exact let ⟨σ', H', J', q⟩ := hsp; ⟨σ', H', J'.ofTry ok, q⟩
    | ret u => exact let ⟨v, σ', H', J', r, q⟩ := hsp; ⟨v, σ', H', J'.ofTry ok, r, q⟩
end
end SB

end

section
set_option Elab.async false
set_option linter.all false
set_option maxRecDepth 100000
set_option maxHeartbeats 4000000
/-! own exception classes over a built-in base, whose __init__ stores fields. -/
namespace SB
open PySem PySem.Spec PyProof.Rows L2

section
open PySem.W PySem.Calls Builtin Builtin.ObjectAttr
variable {prog : Program} {w : World} {A : Around} {E : Value → Shared → Prop} {R : Result → Shared → Prop} {hp : Heap} {g : Array GenState} {d : Drawn} {t : Nat} {os : OsState} {B : String} {bmB : List Value}
/-- the first field that is stored: the exception gets its dict -/
theorem put_first {K : W.Frag} {name : Str} {tk : Tok} {v : Value} {x C : Addr} {fv : Array Value} (SF : StoreFacts B bmB "object.__setattr__" "object") (X : K.In hp) (hx : hp.get? x = some { cls := .ref C, data := .fields fv })
    (ov : W.excOver K C bmB = true) (hdc : W.hasDictIn K C = true) (ha : W.takerIn K C name = some none)
    (hq : ∀ h' tk' dx, (∀ b o, b ≠ x → hp.get? b = some o → h'.get? b = some o) → hp.objs.size ≤ dx → dx ≠ x → h'.get? x = some { cls := .ref C, dict := some dx, data := .fields fv } →
      h'.Ns1 dx (fun y => if y = name then some v else none) → R (.ok (.ret .none)) ⟨h', g, d, tk', os⟩) :
    codeAny (model prog w) A (.call (.builtin "object.__setattr__") ⟨[.ref x, .str name tk, v], []⟩) R ⟨hp, g, d, t, os⟩ := by
  have I : W.InstAt hp x { cls := .ref C, data := .fields fv } C none := ⟨hx, rfl, rfl, trivial⟩
  have apart : x ≠ hp.objs.size := Nat.ne_of_lt (Heap.lt_size hx)
  refine W.osa_openX (s := ⟨hp, g, d, t, os⟩) SF X I ov ha fun b => ?_
  obtain ⟨cd, hcd, hh⟩ := W.any_some hdc
  have known : W.Looks (model prog w) hp (classData C) cd := W.looks_clsIn X hcd
  obtain ⟨nm, bs, mro, ns, qn, hdd, sn, sb, ab, col, del⟩ := cd
  dsimp only at hh
  subst hh
  unfold storeInOwnDict ownDictForStores
  repeat (first | with_reducible refine HandSPX.store_in_new ?_ ?_ | with_reducible refine wpAny_loadPart_at hx ?_ | with_reducible refine known.at ?_ | wp_step)
  · exact ⟨_, #[], _, (Heap.get?_update_ne _ _ _ _ apart.symm).trans (Heap.get?_push_at rfl rfl), rfl, fun e he => absurd he (by simp), fun _ => rfl⟩
  · intro h' tk' hn' hs
    have there : (hp.push { cls := .type "dict", data := .dict #[] }).get? x = some { cls := .ref C, data := .fields fv } := Heap.get?_push_of_some _ hx
    refine hq h' tk' hp.objs.size (fun b o hb ho => ?_) (Nat.le_refl _) apart.symm ?_ hn'
    · exact (hs.2 b (Nat.ne_of_lt (Heap.lt_size ho))).trans ((Heap.get?_update_ne _ _ _ _ hb).trans (Heap.get?_push_of_some _ ho))
    · exact (hs.2 x apart).trans (Heap.get?_update_self _ there rfl)
/-- a further field -/
theorem put_more {K : W.Frag} {name : Str} {tk : Tok} {v : Value} {x C dx : Addr} {fv : Array Value} {m0 : Str → Option Value} {nl : List Str} (SF : StoreFacts B bmB "object.__setattr__" "object")
    (X : K.In hp) (hx : hp.get? x = some { cls := .ref C, dict := some dx, data := .fields fv }) (hns : hp.Ns1 dx m0) (hw : Within m0 nl) (hz : nl.length ≤ 1000)
    (ov : W.excOver K C bmB = true) (hdc : W.hasDictIn K C = true) (ha : W.takerIn K C name = some none)
    (hq : ∀ h' tk', (∀ b o, b ≠ dx → hp.get? b = some o → h'.get? b = some o) → h'.Ns1 dx (fun y => if y = name then some v else m0 y) → R (.ok (.ret .none)) ⟨h', g, d, tk', os⟩) :
    codeAny (model prog w) A (.call (.builtin "object.__setattr__") ⟨[.ref x, .str name tk, v], []⟩) R ⟨hp, g, d, t, os⟩ := by
  obtain ⟨oD, esD, epD, hoD, hdD, _⟩ := hns.count hw
  have I : W.InstAt hp x { cls := .ref C, dict := some dx, data := .fields fv } C (some oD) := ⟨hx, rfl, rfl, hoD⟩
  refine W.osa_openX (s := ⟨hp, g, d, t, os⟩) SF X I ov ha fun b => ?_
  obtain ⟨cd, hcd, hh⟩ := W.any_some hdc
  have known : W.Looks (model prog w) hp (classData C) cd := W.looks_clsIn X hcd
  obtain ⟨nm, bs, mro, ns, qn, hdd, sn, sb, ab, col, del⟩ := cd
  dsimp only at hh
  subst hh
  unfold storeInOwnDict ownDictForStores
  repeat (first | with_reducible refine OEX.store_in_old hns hw hz ?_ | with_reducible refine wpAny_loadPart_at hx ?_ | with_reducible refine known.at ?_ | wp_step)
  intro h' tk' hn' hs
  exact hq h' tk' (fun b o hb ho => (hs.2 b hb).trans ho) hn'
end

/-- what the written part says of an exception class of the text -/
structure ExCls (K : PySem.W.Frag) (C : Addr) (bmB : List Value) (newId : String) : Prop where
  made : PySem.W.excInitIn K C bmB newId = true
  over : PySem.W.excOver K C bmB = true
  hd : PySem.W.hasDictIn K C = true
  sa : PySem.W.findIn K (.ref C) "__setattr__" = some (some (.builtin "object.__setattr__"))
  exC : PySem.W.subIn K (.ref C) (.type "BaseException") = some true
  tyC : PySem.W.typeIn K (.ref C) = some (.type "type")
  kC : PySem.W.keepIn K (.ref C) = true

/-- self.f = e in an exception's __init__ -/
def tPut (K : PySem.W.Frag) (C : Addr) (f : Str) (to te : TE) : TS := fun D σ H => te σ H fun y H1 => to σ H1 fun x H2 => ∃ a : Addr, x = .ref a ∧
  ((H2 a = some (exo a C none) ∧ ∀ dx, H2 dx = none → dx ≠ a → D.nx σ (upd (upd H2 dx (exd dx [(f, y)])) a (exo a C (some dx)))) ∨
    ∃ (dx : Addr) (fs : List (Str × V)), H2 a = some (exo a C (some dx)) ∧ H2 dx = some (exd dx fs) ∧ fs.length ≤ 900 ∧ D.nx σ (upd H2 dx (exd dx ((f, y) :: fs))))

section
variable {X : Cx} {o e : Expr} {es : List Expr} {to te : TE} {ta : TA} {f : Str} {p p' pos : Pos} {C : Addr} {B newId initId : String} {bmB : List Value}
theorem ps_put (SF : StoreFacts B bmB "object.__setattr__" "object") (T : ExCls X.K C bmB newId) (hno : PySem.W.findIn X.K (.ref C) f = some none) (ho : PE X o to) (he : PE X e te)
    (hs : swapsWith e (some (.Attribute o f p')) pos.line X.env = pure false := by rfl) : PS X (.Assign [.Attribute o f p'] e pos) (tPut X.K C f to te) := by
  refine ⟨fun pins s σ H D I h => ?_⟩
  refine plainObj_wpAny_Assign_Attribute (thn (he.run pins s σ H _ I h) fun v s1 ⟨y, H1, I1, r1, q1⟩ => thn (ho.run pins s1 σ H1 _ I1 q1) fun u s2 ⟨x, H2, I2, r2, a, ex, q⟩ => ?_) hs
  subst ex
  obtain rfl : u = Value.ref a := r2
  have tkr : PySem.W.takerIn X.K C f = some none := NoAttr.taker hno
  rcases q with ⟨ea, q⟩ | ⟨dx, fs, ea, ed, hl, q⟩
  · obtain ⟨t1, hat⟩ := exo_at I2.hok ea
    obtain ⟨hp, g, d, t, os⟩ := s2
    refine PySem.W.set_plain I2.kIn (ox := { cls := .ref C, dict := none, data := .fields #[.ref t1, .none, .none, .none, .bool false, .none] }) (od := none) ⟨hat, rfl, rfl, trivial⟩ T.sa ?_
    refine put_first SF I2.kIn hat T.over T.hd tkr fun h' tk' dx k dn dne hx hn => ?_
    have free : H2 dx = none := I2.hok.fresh dn
    have old : ∀ {b : Addr} {o : Obj}, hp.get? b = some o → b ≠ dx := fun q => Nat.ne_of_lt (Nat.lt_of_lt_of_le (Heap.lt_size q) dn)
    have no : ∀ {b : Addr}, H2 b = none → b ≠ a := fun n z => by rw [z, ea] at n; cases n
    have U : Un X.fs [] H2 (upd (upd H2 dx (exd dx [(f, y)])) a (exo a C (some dx))) hp h' := {
      keep := fun b o q n _ _ => k b o (no n) q
      slot := fun b o q n _ _ => ⟨o.slots, k b o (no n) q⟩
      free := fun b o q n _ => by rw [upd_ne (no n), upd_ne (old q)]; exact n
      there := fun b o q _ => by
        by_cases hb : b = a
        · subst hb
          exact ⟨_, hx⟩
        · exact ⟨o, k b o hb q⟩
      tups := fun b xs q => by rw [upd_ne (at_ne ea q exo_tup), upd_ne (ne_of_none q free)]; exact q
      frzs := fun b o v q => by rw [upd_ne (at_ne ea q exo_frz), upd_ne (ne_of_none q free)]; exact q
      tbls := fun b ps q => ⟨#[], by rw [upd_ne (at_ne ea q exo_tbl), upd_ne (ne_of_none q free), q]; simp⟩ }
    refine ⟨σ, _, I2.un (t' := tk') U fun b o q' => ?_, q dx free dne⟩
    by_cases hb : b = a
    · subst hb
      rw [upd_same] at q'
      cases q'
      exact exo_ok hx
    · rw [upd_ne hb] at q'
      by_cases hdd : b = dx
      · subst hdd
        rw [upd_same] at q'
        cases q'
        exact exd_ok hn (relO_put (fs := []) r1 fun g => True.intro)
      · rw [upd_ne hdd] at q'
        refine (I2.hok b o q').stay (fun c v hc z => k c v (hc.elim (fun hc => by rw [hc]; exact hb) fun hc => at_ne ea hc exo_own) z) (fun c hc => ?_) (fun c xs hc => ?_)
        · rw [upd_ne (at_ne ea hc exo_own), upd_ne (ne_of_none hc free)]; exact hc
        · rw [upd_ne (at_ne ea hc exo_tup), upd_ne (ne_of_none hc free)]; exact hc
  · obtain ⟨t1, hat⟩ := exo_at I2.hok ea
    obtain ⟨mA, hns, rel⟩ := exd_at I2.hok ed
    have hw := within_of rel
    obtain ⟨hp, g, d, t, os⟩ := s2
    obtain ⟨oD, _, _, hoD, _, _⟩ := hns.count hw
    refine PySem.W.set_plain I2.kIn (ox := { cls := .ref C, dict := some dx, data := .fields #[.ref t1, .none, .none, .none, .bool false, .none] }) (od := some oD) ⟨hat, rfl, rfl, hoD⟩ T.sa ?_
    refine put_more SF I2.kIn hat hns hw (by rw [List.length_map]; omega) T.over T.hd tkr fun h' tk' k hn => ?_
    have hdx : ∃ o, h'.get? dx = some o := let ⟨o, _, _, e', _⟩ := hn; ⟨o, e'⟩
    exact ⟨σ, _, I2.write (t' := tk') (x := dx) (e := dx) (o := exd dx ((f, y) :: fs)) (by rw [ed]; exact True.intro) (.inl rfl) k hdx (exd_ok hn (relO_put r1 rel)), q⟩

/-- C(e, ..), to be raised: C's own __init__ keeps sp -/
theorem pmk_exg {CX : CXT} {x : Str} {fI : Addr} {k : Nat} {fd : FuncData} {ps : List Str} {sp : Sp} {ds : List Value} {dvs : List V} (FB : ExcBaseFacts B newId initId bmB) (T : ExCls X.K C bmB newId)
    (iC : PySem.W.findIn X.K (.ref C) "__init__" = some (some (.ref fI))) (tI : PySem.W.typeIn X.K (.ref fI) = some (.type "function"))
    (F1 : FnOk X.prog X.w X.K X.mg X.base CX k fI fd ps sp) (hr : Room (k + 1) X.A) (hb : Binds X.K fd ps ds) (hd : Vals dvs ds) (hx : Passes CX X (fun _ _ _ => False)) (hg : Gl X x) (hm : X.mg x = some (.ref C)) (ha : PA X (e :: es) ta)
    (hdb : (x == ("__debug__" : Str)) = false := by decide) (he : starEach (e :: es) X.env = (false, eval e X.env) :: starEach es X.env := by rfl) (hpl : (backTo pos (starEach es X.env)).any (·.1) = false := by rfl) :
    PMk X (.Call (.Name x p) (e :: es) [] pos) (tMkO C sp dvs ta) := by
  intro pins s σ H Q I h
  refine wpAny_Call_Name_kw (ld_glob I hg hm ?_ hdb)
  refine PySem.W.callWith_K (h₀ := X.base) I.ok.mod.kin T.kC (thn (ha.run pos pins s σ H _ I h) fun us s1 ⟨vs, H1, I1, r1, hz, q1⟩ => ⟨I1.kIn, ?_⟩) he hpl
  show wpAny _ _ (call (.ref C) us) _ _ _
  obtain ⟨hp, g, dr, tk, os⟩ := s1
  obtain ⟨nm, N, qn, bs, bm, hdct, sn, sub, ab, col, dd, k0, k1, k2, k3, k5, hC, hbm⟩ := PySem.W.excInit_of I1.kIn T.made
  have grow : hp.objs.size ≤ hp.objs.size + 1 := Nat.le_succ _
  have hn : H1 (hp.objs.size + 1) = none := I1.hok.fresh grow
  have hq := q1 (hp.objs.size + 1) hn
  have keep2 : ∀ b o, hp.get? b = some o → ((hp.push (PySem.W.kdv_tup us)).push (PySem.HandSPX.excO C hp.objs.size)).get? b = some o := fun b o e => Heap.get?_push_of_some _ (Heap.get?_push_of_some _ e)
  have new : ((hp.push (PySem.W.kdv_tup us)).push (PySem.HandSPX.excO C hp.objs.size)).get? (hp.objs.size + 1) = some (PySem.HandSPX.excO C hp.objs.size) := by heap_get
  have I2 := I1.laid (t' := tk) (a := hp.objs.size + 1) (o := exo (hp.objs.size + 1) C none) keep2 grow (exo_ok new)
  have r2 : Vals (V.ref (hp.objs.size + 1) :: (vs ++ dvs)) (Value.ref (hp.objs.size + 1) :: (us ++ ds)) := .cons rfl (r1.append hd)
  have hl : (Value.ref (hp.objs.size + 1) :: us ++ ds).length = ps.length := (r2.length.symm.trans (F1.len _ _ _ _ hq))
  have hus : us.length ≤ sizeLine := by rw [← Paired.length r1, sizeLine_eq]; omega
  refine wpAny_call (PySem.HandSPX.call_own FB hbm hC (PySem.W.looks_findIn I1.kIn iC) (fun self => PySem.W.bind_fn I1.kIn self tI) hus
    (codeAny_mono (F1.run _ X.stack _ _ ⟨Value.ref (hp.objs.size + 1) :: us, []⟩ (Value.ref (hp.objs.size + 1) :: (us ++ ds)) _ _ (fun _ _ _ => False) (hr.make C us []) (I2.env0.make C us []) (hb _ (Value.ref (hp.objs.size + 1) :: us) I2.kIn hl) r2 hq) fun r s' hq' => ?_))
  cases r with
  | error er => exact hx pins σ _ _ er s' I2 hq'
  | ok fl =>
    cases fl with
    | ret u =>
      obtain ⟨v, H2, os2, bare2, un2, hok2, rv, ev, d, fs, ea, ed, hd1, q2⟩ := hq'
      subst ev
      obtain ⟨h2, g2, d2, t2, os'⟩ := s'
      exact ⟨rv, mk_end (raises_own T.exC T.tyC) I1 grow keep2 un2 hok2 os2 bare2 ea ed hd1 q2⟩
    | next => exact False.elim hq'
    | brk => exact False.elim hq'
    | cont => exact False.elim hq'
end
end SB

end

section
set_option Elab.async false
set_option linter.all false
set_option maxRecDepth 100000
set_option maxHeartbeats 4000000
/-! cuts: an assertion between two parts; what the drawing defs of a law promise. -/
namespace SB
open PySem PySem.Spec PyProof.Rows L2
section
variable {X : Cx} {st : Stmt} {rest sts : List Stmt} {e : Expr} {t u : TS} {te : TE} {tt : TT}
def tCut (t u : TS) : TS := fun D σ H => ∃ P : L2.St → Hp → Prop, t { D with nx := P } σ H ∧ ∀ σ' H', P σ' H' → u D σ' H'
/-- a block, an assertion behind its first statement -/
theorem pss_cut (h1 : PS X st t) (h2 : PSs X rest u) : PSs X (st :: rest) (tCut t u) := by
  refine ⟨fun pins s σ H D I ⟨P, h, k⟩ => ?_⟩
  refine wpAny_execs_cons (thn (h1.run pins s σ H { D with nx := P } I h) fun f s1 q => ?_)
  cases f with
  | next => exact let ⟨σ', H', I', q⟩ := q; h2.run pins s1 σ' H' D I' (k σ' H' q)
  | ret v => exact q
  | brk => exact q
  | cont => exact q
def eCut (t : TE) : TE := fun σ H Q => ∃ P : V → Hp → Prop, t σ H P ∧ ∀ v H', P v H' → Q v H'
/-- an expression, what it gives said by an assertion -/
theorem pe_cut (h : PE X e te) : PE X e (eCut te) :=
  ⟨fun pins s σ H Q I ⟨P, h1, k⟩ => thn (h.run pins s σ H P I h1) fun _ _ ⟨v, H', I', r, q⟩ => ⟨v, H', I', r, k v H' q⟩⟩
def bCut (t : TT) : TT := fun σ H Q => ∃ P : Bool → Hp → Prop, t σ H P ∧ ∀ v H', P v H' → Q v H'
theorem pt_cut (h : PT X e tt) : PT X e (bCut tt) :=
  ⟨fun pins s σ H Q I ⟨P, h1, k⟩ => thn (h.run pins s σ H P I h1) fun _ _ ⟨H', I', q⟩ => ⟨H', I', k _ H' q⟩⟩
end

/-- all that stood but what stands at b is as it was -/
def Keep (b : Addr) (H H' : Hp) : Prop := ∀ c o, H c = some o → c ≠ b → H' c = some o
theorem Keep.refl (b : Addr) (H : Hp) : Keep b H H := fun _ _ e _ => e
theorem Keep.trans {b : Addr} {H H1 H2 : Hp} (x : Keep b H H1) (y : Keep b H1 H2) : Keep b H H2 := fun c o e n => y c o (x c o e n) n
theorem Keep.upd {b : Addr} {H H1 : Hp} {o : HO} (x : Keep b H H1) : Keep b H (upd H1 b o) := fun c u e n => by rw [upd_ne n]; exact x c u e n
theorem Keep.new {b p : Addr} {H H1 : Hp} {o : HO} (x : Keep b H H1) (hp : H1 p = none) : Keep b H (L2.upd H1 p o) := fun c u e n => by rw [upd_ne (ne_of_none (x c u e n) hp)]; exact x c u e n
theorem Keep.same {b : Addr} {H H1 H2 : Hp} (x : Keep b H H1) (y : Same H1 H2) : Keep b H H2 := fun c o e n => y c o (x c o e n)
theorem Keep.ofSame {b : Addr} {H H1 : Hp} (y : Same H H1) : Keep b H H1 := fun c o e _ => y c o e
theorem Same.new {p : Addr} {H H1 : Hp} {o : HO} (x : Same H H1) (hp : H1 p = none) : Same H (L2.upd H1 p o) := fun c u e => by rw [upd_ne (ne_of_none (x c u e) hp)]; exact x c u e
/-- the bag of a law: its list of cells, the next one, the rest of a great cell, the mixed number, how many draws -/
def BagAt (H : Hp) (b : Addr) : Prop := ∃ (l : Addr) (ns : List Int) (i g m c : Int), H b = some (.lst [.ref l, .int i, .int g, .int m, .int c]) ∧ H l = some (.lst (ns.map V.int)) ∧ l ≠ b ∧ 0 ≤ i ∧ 0 ≤ g ∧ 0 ≤ m ∧ m < 2147483648
theorem BagAt.same {H H' : Hp} {b : Addr} (x : BagAt H b) (s : Same H H') : BagAt H' b := let ⟨l, ns, i, g, m, c, h1, h2, r⟩ := x; ⟨l, ns, i, g, m, c, s _ _ h1, s _ _ h2, r⟩
def spBag (K : PySem.W.Frag) : Sp := fun vs H Q _ => ∃ (a : Addr) (ns : List Int), vs = [.ref a] ∧ SqL K H a (ns.map V.int) ∧ ns.length ≤ 1000 ∧
  ∀ b H', H b = none → Same H H' → BagAt H' b → Q (.ref b) H'
def spDraw : Sp := fun vs H Q _ => ∃ (b : Addr) (top : Int), vs = [.ref b, .int top] ∧ BagAt H b ∧ 0 < top ∧ top.natAbs.log2 < 9000 ∧
  ∀ d H', 0 ≤ d → d < top → BagAt H' b → Keep b H H' → (∀ c, H c = none → H' c = none) → Q (.int d) H'
/-- one of the items of a list or a tuple -/
def spOf (K : PySem.W.Frag) : Sp := fun vs H Q _ => ∃ (b p : Addr) (xs : List V), vs = [.ref b, .ref p] ∧ BagAt H b ∧ p ≠ b ∧ (SqL K H p xs ∨ SqT K H p xs) ∧ 0 < xs.length ∧ xs.length < 2 ^ 62 ∧
  (∀ H', Keep b H H' → SqL K H p xs → SqL K H' p xs) ∧ (∀ H', Keep b H H' → SqT K H p xs → SqT K H' p xs) ∧
  ∀ v H', v ∈ xs → BagAt H' b → Keep b H H' → (∀ c, H c = none → H' c = none) → Q v H'
end SB

end

section
set_option Elab.async false
set_option linter.all false
set_option maxRecDepth 100000
set_option maxHeartbeats 4000000
namespace SB
open PySem PySem.Spec PyProof.Rows L2
/-- a list comprehension over any walk: an assertion by turns -/
theorem lc_walk {J : It} {n : Nat} {g : TG} {tt : TT} {te : TE} {vs : List Nat} {σ : L2.St} {H1 : Hp} {D : Addr} {Qd : Hp → Prop} (Pv : Nat → Hp → Prop) (h0 : Pv 0 (upd H1 D (.lst [])))
    (hgo : ∀ i H, i < n → Pv i H → J.go i H) (hst : ∀ H, Pv n H → J.stop n H)
    (hs : ∀ i x H H', i < n → Pv i H → J.yld i H x H' → g x (wipe σ vs) H' fun σ2 H2 => wipe σ2 vs = wipe σ vs ∧ tt σ2 H2 fun b H3 =>
      if b = true then te σ2 H3 fun y H4 => ∃ acc, H4 D = some (.lst acc) ∧ acc.length < sizeLine ∧ Pv (i + 1) (upd H4 D (.lst (acc ++ [y]))) else Pv (i + 1) H3)
    (hd : ∀ H, Pv n H → Qd H) :
    ∃ W : Nat → Nat → Hp → Prop, (∃ m, W 0 m (upd H1 D (.lst []))) ∧ ∀ i m H, W i m H →
      (J.stop i H ∧ Qd H) ∨ (J.go i H ∧ ∃ Nx : Hp → Prop, (∀ H', Nx H' → ∃ m', m' < m ∧ W (i + 1) m' H') ∧ ∀ x H', J.yld i H x H' → g x (wipe σ vs) H' fun σ2 H2 => wipe σ2 vs = wipe σ vs ∧ tt σ2 H2 fun b H3 =>
        if b = true then te σ2 H3 fun y H4 => ∃ acc, H4 D = some (.lst acc) ∧ acc.length < sizeLine ∧ Nx (upd H4 D (.lst (acc ++ [y]))) else Nx H3) := by
  refine ⟨fun i m H => i + m = n ∧ Pv i H, ⟨n, by omega, h0⟩, fun i m H ⟨e, p⟩ => ?_⟩
  cases m with
  | zero =>
    obtain rfl : i = n := by omega
    exact .inl ⟨hst H p, hd H p⟩
  | succ m => exact .inr ⟨hgo i H (by omega) p, Pv (i + 1), fun H' p' => ⟨m, by omega, by omega, p'⟩, fun x H' y => hs i x H H' (by omega) p y⟩

/-- values that `_law_same` finds to be the same, n levels deep -/
def Leaf (H : Hp) (x y : V) : Prop := (x = y ∧ flatV x = true) ∨ ∃ a kvs, x = .ref a ∧ y = .ref a ∧ H a = some (.dK kvs) ∧ ∀ p ∈ kvs, valV kvs p.1 = some p.2 ∧ flatB p.2 = true
def Alike (K : PySem.W.Frag) (H : Hp) : Nat → V → V → Prop
  | 0 => fun x y => Leaf H x y
  | n + 1 => fun x y => Leaf H x y ∨ (∃ a b xs ys, x = .ref a ∧ y = .ref b ∧ SqL K H a xs ∧ SqL K H b ys ∧ xs.length < sizeLine ∧ Paired (Alike K H n) xs ys) ∨
      ∃ a b xs ys, x = .ref a ∧ y = .ref b ∧ SqT K H a xs ∧ SqT K H b ys ∧ xs.length < sizeLine ∧ Paired (Alike K H n) xs ys
theorem sqT_same {K : PySem.W.Frag} {H H' : Hp} {a : Addr} {xs : List V} (e : Same H H') (h : SqT K H a xs) : SqT K H' a xs := by
  rcases h with h | h
  · rcases h with h | ⟨o, h⟩
    · exact .inl (.inl (e _ _ h))
    · exact .inl (.inr ⟨o, e _ _ h⟩)
  · exact .inr h
theorem paired_imp {α β : Type} {F G : α → β → Prop} (h : ∀ a b, F a b → G a b) : ∀ {xs : List α} {ys : List β}, Paired F xs ys → Paired G xs ys
  | _, _, .nil => .nil
  | _, _, .cons a t => .cons (h _ _ a) (paired_imp h t)
theorem Leaf.same {H H' : Hp} {x y : V} (s : Same H H') (h : Leaf H x y) : Leaf H' x y := by
  rcases h with h | ⟨a, kvs, h1, h2, h3, h4⟩
  · exact .inl h
  · exact .inr ⟨a, kvs, h1, h2, s _ _ h3, h4⟩
theorem Alike.same {K : PySem.W.Frag} {H H' : Hp} (s : Same H H') : ∀ {n : Nat} {x y : V}, Alike K H n x y → Alike K H' n x y
  | 0, x, y, h => Leaf.same s h
  | n + 1, x, y, h => by
    rcases h with h | ⟨a, b, xs, ys, e1, e2, h1, h2, hz, h3⟩ | ⟨a, b, xs, ys, e1, e2, h1, h2, hz, h3⟩
    · exact .inl (Leaf.same s h)
    · exact .inr (.inl ⟨a, b, xs, ys, e1, e2, s.seq h1, s.seq h2, hz, paired_imp (fun _ _ q => Alike.same s q) h3⟩)
    · exact .inr (.inr ⟨a, b, xs, ys, e1, e2, sqT_same s h1, sqT_same s h2, hz, paired_imp (fun _ _ q => Alike.same s q) h3⟩)
theorem Alike.succ {K : PySem.W.Frag} {H : Hp} : ∀ {n : Nat} {x y : V}, Alike K H n x y → Alike K H (n + 1) x y
  | 0, x, y, h => .inl h
  | n + 1, x, y, h => by
    rcases h with h | ⟨a, b, xs, ys, e1, e2, h1, h2, hz, h3⟩ | ⟨a, b, xs, ys, e1, e2, h1, h2, hz, h3⟩
    · exact .inl h
    · exact .inr (.inl ⟨a, b, xs, ys, e1, e2, h1, h2, hz, paired_imp (fun _ _ q => Alike.succ q) h3⟩)
    · exact .inr (.inr ⟨a, b, xs, ys, e1, e2, h1, h2, hz, paired_imp (fun _ _ q => Alike.succ q) h3⟩)
theorem paired_len {α β : Type} {F : α → β → Prop} : ∀ {xs : List α} {ys : List β}, Paired F xs ys → xs.length = ys.length
  | _, _, .nil => rfl
  | _, _, .cons _ t => congrArg (· + 1) (paired_len t)
theorem paired_at {α β : Type} {F : α → β → Prop} : ∀ {xs : List α} {ys : List β} {i : Nat} {x : α} {y : β}, Paired F xs ys → xs[i]? = some x → ys[i]? = some y → F x y
  | _, _, 0, x, y, .cons a _, h1, h2 => by
    cases Option.some.inj h1
    cases Option.some.inj h2
    exact a
  | _, _, i + 1, x, y, .cons _ t, h1, h2 => paired_at (i := i) t (by simpa using h1) (by simpa using h2)
  | _, _, _, _, _, .nil, h1, _ => by simp at h1
def spSame (K : PySem.W.Frag) : Nat → Sp
  | 0 => fun _ _ _ _ => False
  | n + 1 => fun vs H Q _ => ∃ x y, vs = [x, y] ∧ Alike K H n x y ∧ ∀ H', Same H H' → Q (.bl true) H'
/-- the types -/
theorem ty_list {K : PySem.W.Frag} {H : Hp} {a : Addr} {xs : List V} (h : SqL K H a xs) : TyX K H (.ref a) (.type "list") := by
  rcases h with (h | ⟨o, h⟩) | ⟨o, its, n, h, hc, _⟩
  · exact .base (.lst h)
  · exact .base (.frz h)
  · exact .kList h hc
theorem ty_tup {K : PySem.W.Frag} {H : Hp} {a : Addr} {xs : List V} (h : SqT K H a xs) : TyX K H (.ref a) (.type "tuple") := by
  rcases h with (h | ⟨o, h⟩) | ⟨o, its, n, h, hc, _⟩
  · exact .base (.tup h)
  · exact .fTuple h
  · exact .kTuple h hc
/-- the built-in type of a value -/
inductive Ty (K : PySem.W.Frag) (H : Hp) (x : V) (T : String) : Prop where
  | mk (h : TyX K H x (.type T)) : Ty K H x T
end SB

end

section
set_option Elab.async false
set_option linter.all false
set_option maxRecDepth 100000
set_option maxHeartbeats 4000000
namespace SB
open PySem PySem.Spec PyProof.Rows L2
theorem tyX_same {K : PySem.W.Frag} {H H' : Hp} {x : V} {t : Value} (s : Same H H') (h : TyX K H x t) : TyX K H' x t := by
  cases h with
  | base h =>
    refine .base ?_
    cases h with
    | non => exact .non
    | bl b => exact .bl b
    | int i => exact .int i
    | str z => exact .str z
    | flt z => exact .flt z
    | lst e => exact .lst (s _ _ e)
    | frz e => exact .frz (s _ _ e)
    | tup e => exact .tup (s _ _ e)
    | dK e => exact .dK (s _ _ e)
    | dT e => exact .dT (s _ _ e)
    | ins e cl ha hn ht hm => exact .ins (s _ _ e) cl ha hn ht hm
  | byt b => exact .byt b
  | set e => exact .set (s _ _ e)
  | kList e c => exact .kList e c
  | kTuple e c => exact .kTuple e c
  | kDict e c => exact .kDict e c
  | fTuple e => exact .fTuple (s _ _ e)
  | fDict e => exact .fDict (s _ _ e)
/-- isinstance(x, (list, tuple)); isinstance(x, T) -/
abbrev tIsLT (K : PySem.W.Frag) (i : Nat) : TE := tCB (rIsiT K) (tCons (tVar i) (tCons (tTup (tCons (tC (.ty "list")) (tCons (tC (.ty "tuple")) tNil))) tNil))
abbrev tIs (K : PySem.W.Frag) (i : Nat) (T : String) : TE := tCB (rIsi K) (tCons (tVar i) (tCons (tC (.ty T)) tNil))
theorem rd_isLT {K : PySem.W.Frag} {i : Nat} {σ : L2.St} {H : Hp} {Q : VK} {x : V} {T : String} {b : Bool} (e : σ[i]? = some (some x)) (ty : TyX K H x (.type T)) (hk : PySem.W.kitAny K (.type T) [.type "list", .type "tuple"] = some b)
    (k : ∀ H', Same H H' → Q (.bl b) H') : tIsLT K i σ H Q :=
  ⟨x, e, (by show 2 ≤ sizeLine; decide), fun p hp => ⟨x, p, _, _, _, b, rfl, upd_same, .cons (.ty _) (.cons (.ty _) .nil), tyX_same (Same.new (Same.refl H) hp) ty, hk, k _ (Same.new (Same.refl H) hp)⟩⟩
theorem rd_is {K : PySem.W.Frag} {i : Nat} {σ : L2.St} {H : Hp} {Q : VK} {x : V} {T U : String} {b : Bool} (e : σ[i]? = some (some x)) (ty : TyX K H x (.type U)) (hk : kitB U T = some b)
    (k : Q (.bl b) H) : tIs K i T σ H Q :=
  ⟨x, e, x, .ty T, _, _, b, rfl, .ty T, ty, kit_ty hk, k⟩
theorem lt_of {K : PySem.W.Frag} {U : String} {b c : Bool} (h1 : kitB U "list" = some b) (h2 : kitB U "tuple" = some c) : PySem.W.kitAny K (.type U) [.type "list", .type "tuple"] = some (b || c) := by
  refine kitAny_cons (kit_ty h1) (fun hb => kitAny_cons (kit_ty h2) (fun hc => ?_) (fun hc => ?_)) (fun hb => ?_)
  · rw [hb, hc]; exact kitAny_nil
  · rw [hb, hc]; rfl
  · rw [hb]; rfl
end SB

end

section
set_option Elab.async false
set_option linter.all false
set_option maxRecDepth 100000
set_option maxHeartbeats 4000000
namespace SB
open PySem PySem.Spec PyProof.Rows L2
section
variable {X : Cx} {CX : CXT} {x : Str} {f : Addr} {k : Nat} {fd : FuncData} {ps ks : List Str} {sp : Sp} {g : List Value → List Value → List Value} {gV : List V → List V → List V} {E : L2.St → XK} {kws : List Keyword} {p pos : Pos} {tk : TA}
/-- f(k = e, ..): what is raised is wished for at the caller's slots -/
def tKW (sp : Sp) (gV : List V → List V → List V) (E : L2.St → XK) (tk : TA) : TE := fun σ H Q => tk σ H fun zs H2 => sp (gV [] zs) H2 Q (E σ)
theorem pe_callKW (F : FnOk X.prog X.w X.K X.mg X.base CX k f fd ps sp) (hr : Room k X.A) (hg : Gl X x) (hm : X.mg x = some (.ref f)) (hk : PySem.W.keepIn X.K (.ref f) = true) (hb : KBinds X.K fd ps ks g gV) (hx : ∀ σ, PassesAt CX X σ (E σ))
    (hkw : PK X kws tk) (hall : (backToKw pos (keywordEach kws X.env)).all (·.1.isSome) = true := by rfl) (hks : (backToKw pos (keywordEach kws X.env)).filterMap (·.1) = ks := by rfl)
    (hdb : (x == ("__debug__" : Str)) = false := by decide)
    (hpl : ((backTo pos (starEach [] X.env)).any (·.1) || (backToKw pos (keywordEach kws X.env)).any (·.1.isNone)) = false := by rfl) :
    PE X (.Call (.Name x p) [] kws pos) (tKW sp gV E tk) := by
  refine ⟨fun pins s σ H Q I h => ?_⟩
  refine wpAny_Call_Name_kw (ld_glob I hg hm ?_ hdb)
  refine PySem.W.callWith_KW0 (h₀ := X.base) I.ok.mod.kin hk hall ?_ hpl
  refine thn (hkw.run pos pins s σ H _ I h) fun ws s2 ⟨zs, H2, I2, rz, q2⟩ => ⟨I2.kIn, ?_⟩
  rw [hks]
  have r2 := hb.rel (vs := []) .nil rz
  have hl : (g [] ws).length = ps.length := r2.length.symm.trans (F.len _ _ _ _ q2)
  refine wpAny_call (codeAny_mono (F.run X.A X.stack s2 H2 ⟨[], ks.zip ws⟩ (g [] ws) (gV [] zs) Q (E σ) hr I2.env0 (hb.to s2 [] ws I2.kIn hl) r2 q2) fun r s' hq => ?_)
  cases r with
  | error e => exact hx σ pins H2 s2 e s' I2 hq
  | ok fl =>
    cases fl with
    | ret u => exact I2.after hq
    | next => exact False.elim hq
    | brk => exact False.elim hq
    | cont => exact False.elim hq
end
/-- what an __init__ of an exception promises: its fields, the last one first -/
def spX (C : Addr) (n : Nat) (fs : List V → List (Str × V)) : Sp := fun vs H Q _ => ∃ (a : Addr) (ws : List V), vs = .ref a :: ws ∧ ws.length = n ∧ H a = some (exo a C none) ∧
  ∀ d H', H d = none → d ≠ a → H' a = some (exo a C (some d)) → H' d = some (exd d (fs ws)) → (∀ c, c ≠ a → c ≠ d → H' c = H c) → Q .non H'
/-- raise C(..): the exception with its dict at d -/
theorem rd_raise {C : Addr} {n : Nat} {fs : List V → List (Str × V)} {vs : List V} {H1 : Hp} {Q : XK} (hl : vs.length = n) (hn : n ≤ 1000) (k : ∀ d, H1 d = none → Q (.ref C) (some d) (upd H1 d (.xd (fs vs)))) :
    vs.length ≤ 1000 ∧ ∀ a, H1 a = none → spX C n fs (.ref a :: (vs ++ [])) (upd H1 a (exo a C none))
      (fun v H2 => v = .non ∧ ∃ (d : Addr) (fs : List (Str × V)), H2 a = some (exo a C (some d)) ∧ H2 d = some (exd d fs) ∧ H1 d = none ∧ Q (.ref C) (some d) (upd (del H2 a) d (.xd fs))) (fun _ _ _ => False) := by
  refine ⟨by omega, fun a ha => ⟨a, vs, by rw [List.append_nil], hl, upd_same, fun d H' hd hda h1 h2 h3 => ⟨rfl, d, fs vs, h1, h2, ?_, ?_⟩⟩⟩
  · rw [upd_ne hda] at hd; exact hd
  · rw [upd_ne hda] at hd
    have e : upd (del H' a) d (.xd (fs vs)) = upd H1 d (.xd (fs vs)) := by
      funext c
      by_cases hc : c = d
      · rw [hc, upd_same, upd_same]
      · rw [upd_ne hc, upd_ne hc]
        by_cases hca : c = a
        · rw [hca, del_same, ha]
        · rw [del_ne hca, h3 c hca hc, upd_ne hca]
    rw [e]
    exact k d hd
/-- all that a text's exception class is asked for -/
structure XFacts (K : PySem.W.Frag) (mg : Str → Option Value) (name : Str) (C fI : Addr) (bmB : List Value) (newId : String) : Prop where
  T : ExCls K C bmB newId
  F : XfC K C
  g : mg name = some (.ref C)
  iC : PySem.W.findIn K (.ref C) "__init__" = some (some (.ref fI))
  tI : PySem.W.typeIn K (.ref fI) = some (.type "function")
  nC : PySem.W.findIn K (.ref C) "code" = some none
  me : PySem.W.exmOne K (.ref C) (.ref C) = some true
end SB

end

section
set_option Elab.async false
set_option linter.all false
set_option maxRecDepth 100000
set_option maxHeartbeats 4000000
/-! repr of data; the law's own def at the caller, where no guard stands. -/
namespace SB
open PySem PySem.Spec PyProof.Rows L2
def keyD : Key → PyData
  | .inl i => .int i
  | .inr x => .str x
def flatD : V → PyData
  | .bl b => .bool b
  | .int i => .int i
  | .str x => .str x
  | _ => .none
inductive Sh (K : PySem.W.Frag) (H : Hp) : V → PyData → Prop
  | dp {v : V} {d : PyData} (h : Dp K H v d) (hd : d.hasDict = false) : Sh K H v d
  | dct {a : Addr} {kvs : List (Key × V)} (h : H a = some (.dK kvs)) (hf : ∀ p ∈ kvs, flatV p.2 = true) : Sh K H (.ref a) (.dict (kvs.map fun p => (keyD p.1, flatD p.2)))
theorem reads_flat {h : Heap} {v : V} {u : Value} (r : RelV v u) (f : flatV v = true) : Reads h u (flatD v) [] := by
  cases v with
  | non => cases (show u = Value.none from r); exact .none
  | bl b => cases (show u = Value.bool b from r); exact .bool b
  | int i => obtain ⟨t, rfl⟩ := (show ∃ t, u = Value.int i t from r); exact .int i t
  | str x => obtain ⟨t, rfl⟩ := (show ∃ t, u = Value.str x t from r); exact .str x t
  | byt q => cases f
  | flt q => cases f
  | ref q => cases f
  | ty q => cases f
theorem reads_kvs {P : Program} {w : World} {h : Heap} : ∀ {kvs : List (Key × V)} {vs : List (Key × Value)} {es : List DictEntry}, KV kvs vs → Pairs (mixKind P w) es vs → (∀ p ∈ kvs, flatV p.2 = true) →
    ReadsAll h (es.map (·.key)) ((kvs.map fun p => (keyD p.1, flatD p.2)).map (·.1)) [] ∧ ReadsAll h (es.map (·.val)) ((kvs.map fun p => (keyD p.1, flatD p.2)).map (·.2)) []
  | [], _, _, .nil, .nil, _ => ⟨.nil, .nil⟩
  | (k, v) :: kvs, (k', u) :: vs, e :: es, .cons ⟨h1, h2⟩ t, .cons p1 p2 p3, f => by
    obtain ⟨i1, i2⟩ := reads_kvs (P := P) (w := w) (h := h) t p3 fun p hp => f p (List.mem_cons_of_mem _ hp)
    have hk : Reads h e.key (keyD k) [] := by
      have h1' : k = k' := h1
      subst h1'
      have p1' : keyIs k e.key = true := p1
      rcases keyIs_shape p1' with ⟨i, t, e1, e2⟩ | ⟨x, t, e1, e2⟩
      · rw [e1, e2]; exact .int i t
      · rw [e1, e2]; exact .str x t
    have hv : Reads h e.val (flatD v) [] := by
      have p2' : e.val = u := p2
      rw [p2']
      exact reads_flat h2 (f _ (List.mem_cons_self ..))
    exact ⟨ReadsAll.cons (as := []) (bs := []) hk i1, ReadsAll.cons (as := []) (bs := []) hv i2⟩
section
variable {X : Cx}
theorem sh_reads {pins : List (Addr × Obj)} {σ : L2.St} {H : Hp} {s : Shared} (I : Inv X pins σ H s) {v : V} {u : Value} {d : PyData} (h : Sh X.K H v d) (r : RelV v u) : ∃ as, Reads s.heap u d as ∧ (d.hasDict = true → sysModules ∉ as) := by
  cases h with
  | dp h hd =>
    obtain ⟨as, q⟩ := Dp.reads I _ _ _ h r
    exact ⟨as, q, fun z => by rw [hd] at z; cases z⟩
  | @dct a kvs h hf =>
    cases (show u = Value.ref a from r)
    obtain ⟨hz, hs, vs, kv, o, es, ep, ho, ⟨hc, _⟩, hd, _, hp, _⟩ := I.hok a _ h
    obtain ⟨i1, i2⟩ := reads_kvs (h := s.heap) kv hp hf
    refine ⟨_, Reads.dict (as := []) (bs := []) ho hc hd i1 i2, fun _ hm => ?_⟩
    have e : sysModules = a := by simpa using hm
    rw [e] at hs
    simp at hs
/-- repr(x): its text, by the data alone -/
def rRepr (K : PySem.W.Frag) : List V → Hp → VK → Prop := fun xs H Q => ∃ v d, xs = [v] ∧ Sh K H v d ∧ d.showable = true ∧ d.shown.length ≤ sizeLine ∧ d.depth ≤ 8 ∧ Q (.str d.shown) H
theorem cr_repr (hg : X.A.guards = some []) (hu : X.A.units + 40 < cLine) : CallR X (.builtin "repr") (rRepr X.K) := by
  intro pins s σ H xs us Q I r h
  obtain ⟨v, d, rfl, sh, hs, hz, hd, q⟩ := h
  obtain ⟨u, rfl, ru⟩ := vals1 r
  have fin : ∀ (h' : Heap) (t : Tok) (tk : Nat), (∀ b o, s.heap.get? b = some o → h'.get? b = some o) → EP X pins σ Q (.str d.shown t) { s with heap := h', toks := tk } := fun h' t tk k => ⟨.str d.shown, H, I.kept k, ⟨t, rfl⟩, q⟩
  obtain ⟨as, rd, hsm⟩ := sh_reads I sh ru
  cases rd with
  | none => exact P.repr_of_none (fin s.heap _ _ fun _ _ e => e)
  | bool b => exact P.repr_of_bool (fin s.heap _ _ fun _ _ e => e)
  | int i t => exact P.repr_of_int (by simpa [PyData.showable] using hs) (fin s.heap _ _ fun _ _ e => e)
  | str x t => exact P.repr_of_str (fin s.heap _ _ fun _ _ e => e) hz
  | list a1 a2 a3 a4 => exact repr_of_reads' (.list a1 a2 a3 a4) hs hsm hg (by omega) (fun _ _ e => e) (fun h' t tk k => fin h' t tk k) hz
  | tuple a1 a2 a3 a4 => exact repr_of_reads' (.tuple a1 a2 a3 a4) hs hsm hg (by omega) (fun _ _ e => e) (fun h' t tk k => fin h' t tk k) hz
  | dict a1 a2 a3 a4 a5 => exact repr_of_reads' (.dict a1 a2 a3 a4 a5) hs hsm hg (by omega) (fun _ _ e => e) (fun h' t tk k => fin h' t tk k) hz
end
end SB

end

section
set_option Elab.async false
set_option linter.all false
set_option maxRecDepth 100000
set_option maxHeartbeats 4000000
/-! the law's own def, entered where the row calls it (callerA): there no frame and no guard stands. -/
namespace SB
open PySem PySem.Spec PyProof.Rows L2
/-- what a def of one name keeps when it is entered at the caller -/
structure AtCaller (P : Program) (w : World) (K : PySem.W.Frag) (mg : Str → Option Value) (base : Heap) (f : Addr) (fd : FuncData) (x : Str) (sp : Sp) : Prop where
  run : ∀ (s : Shared) (H : Hp) (u : Value) (v : V) (Q : VK), Env0 P w K mg base callerA [] s H → RelV v u → BindsTo s fd ⟨[u], []⟩ [(x, u)] → sp [v] H Q (fun _ _ _ => False) →
    codeAny (model P w) callerA (.call (.ref f) ⟨[u], []⟩) (CR CX0 [] P w H s Q (fun _ _ _ => False)) s
theorem caller_ok {P : Program} {w : World} {K : PySem.W.Frag} {mg : Str → Option Value} {base : Heap} {k : Nat} {f : Addr} {fd : FuncData} {nm qual x : Str} {st : Stmt} {N : List Str} {sp : Sp} (F : Fun K nm qual st f fd) (S : FnScope N [x] (defScope st)) (room : Room (k + 1) callerA)
    (hbody : ∀ (cdv : Value) (s : Shared) (H : Hp) (v : V) (Q : VK), Room k (callerA.deeper (PyProof.Rows.envOfC qual (defScope st) s.heap.objs.size f cdv)) → sp [v] H Q (fun _ _ _ => False) →
      ∃ t, PSs (cxOf CX0 P w K mg base N qual (defScope st) f cdv callerA [] s H (fun _ _ _ => False)).nox (defBody st) t ∧ t { nx := fun _ H' => Q .non H', rt := Q } (L2.start N [v]) H) : AtCaller P w K mg base f fd x sp := by
  obtain ⟨⟨oc, od, kV, doc, pm, an, cdv, ct, osl, rfl, lk, hcd⟩, _⟩ := F
  refine ⟨fun s H u v Q e0 ruv hb hsp => ?_⟩
  have KX : K.In s.heap := e0.mod.kin.keeps fun b o e => (e0.bs b o e).1
  have lim : s.heap.NoLimit := e0.mod.nolimit.keeps fun b o e => (e0.bs b o e).1
  have kinds : ∀ y ∈ [(x, u)], (defScope st).names.lookup y.1 = some .local ∨ ((defScope st).names.lookup y.1 = some .cell ∧ ((cellsFrom (s.heap.objs.size + 1) (defScope st).names []).lookup y.1).isSome = true) := fun y hy => by
    obtain rfl := List.mem_singleton.mp hy
    rcases S.par x (List.mem_singleton.mpr rfl) with q | q
    · exact .inl q
    · exact .inr ⟨q, PySem.W.cellsFrom_some _ _ _ (.inl q)⟩
  refine codeAny_call_function room.depth (KX _ _ lk) rfl S.co S.gen rfl (PySem.W.codeRec_of KX hcd) (hb _ _ _ _ ?_)
  refine wpAny_newFunctionEnv_cells S.kind kinds fun env he s1 y => ?_
  subst he
  refine ⟨lim.keeps y.toInCall.keep, codeAny_func ?_⟩
  obtain ⟨t, ht, hq⟩ := hbody cdv s H v Q (room.deeper _) hsp
  have I : Inv (cxOf CX0 P w K mg base N qual (defScope st) f cdv callerA [] s H (fun _ _ _ => False)) [] (L2.start N [v]) H s1 := inv_start S room.hd e0 rfl (.cons ruv .nil) y
  refine wpAny_mono ((PSs.nox ht).run [] s1 (L2.start N [v]) H _ I hq) (fun fl s' hs => ?_) fun e s' hs => hs
  have out : ∀ {σ' : L2.St} {H' : Hp} {v' : V} {u' : Value}, Inv (cxOf CX0 P w K mg base N qual (defScope st) f cdv callerA [] s H (fun _ _ _ => False)) [] σ' H' s' → RelV v' u' → Q v' H' → CE [] P w H s Q u' s' :=
    fun {_ H' v' _} J rv q => ⟨v', H', J.os, J.bare, J.base, J.hok, rv, q⟩
  cases fl with
  | ret u' => exact let ⟨_, _, _, J, rv, q⟩ := hs; out J rv q
  | next => exact let ⟨_, _, J, q⟩ := hs; out (v' := V.non) (u' := Value.none) J rfl q
  | brk => exact let ⟨_, _, _, q⟩ := hs; False.elim q
  | cont => exact let ⟨_, _, _, q⟩ := hs; False.elim q

/-- the row's call, from that -/
theorem caller_call {P : Program} {w : World} {K : PySem.W.Frag} {mg mb : Str → Option Value} {fa a : Addr} {fd : FuncData} {x : Str} {sp : Sp} {s₁ : Shared} {vs : List Value} {ns : List Int}
    (KX : K.In s₁.heap) (hns : s₁.heap.Ns mainGlobals mg) (hb : s₁.heap.Ns builtinsNs mb) (hbb : ∀ x : Str, x ≠ "__name__" → mb x = bootBuiltins x) (hlim : s₁.heap.NoLimit) (hg : s₁.gens = #[])
    (ha : s₁.heap.get? a = some { cls := .type "list", data := .seq vs.toArray }) (hi : IntsAre vs ns) (hl : ns.length ≤ sizeLine)
    (F : ∀ base : Heap, K.In base → base.Ns mainGlobals mg → AtCaller P w K mg base fa fd x sp) (hbind : ∀ (s : Shared) (u : Value), BindsTo s fd ⟨[u], []⟩ [(x, u)])
    (hsp : ∀ H : Hp, SqL K H a (ns.map V.int) → sp [.ref a] H (fun v _ => v = .bl true) fun _ _ _ => False) :
    codeAny (model P w) callerA (.call (.ref fa) ⟨[.ref a], []⟩) (fun r s' => r = .ok (.ret (.bool true)) ∧ OldK s₁.heap s'.heap ∧ s'.os = s₁.os ∧ AllBare s'.gens) s₁ := by
  have rv := vals_ints hi
  have same_len := hi.length
  -- H tracks the script at most, and as it stands
  have go : ∀ H : Hp, (∀ b, H b = none ∨ (b = a ∧ ∃ o xs, H b = some (.frz o (.lst xs)))) → (H a ≠ none → K.lookup a = none) → SqL K H a (ns.map V.int) → HOk P w H s₁.heap →
      codeAny (model P w) callerA (.call (.ref fa) ⟨[.ref a], []⟩) (fun r s' => r = .ok (.ret (.bool true)) ∧ OldK s₁.heap s'.heap ∧ s'.os = s₁.os ∧ AllBare s'.gens) s₁ := by
    intro H only own hS hok
    have isA : ∀ {b : Addr}, H b ≠ none → b = a := fun {b} z => (only b).elim (fun q => absurd q z) And.left
    have bare : ∀ {b : Addr} {m : Str → Option Value}, s₁.heap.Ns b m → (hidT s₁.heap H).Ns b m := fun {b m} ⟨o, es, ep, e, d, r⟩ => ⟨o, es, ep, hidT_get e (by
      cases q : H b with
      | none => rfl
      | some u =>
        obtain rfl := isA (b := b) (by rw [q]; simp)
        rw [ha] at e
        cases e
        have d' : Data.seq vs.toArray _ = Data.dict es ep := d
        cases d'), d, r⟩
    have inK : K.In (hidT s₁.heap H) := fun b o e => hidT_get (KX b o e) (by
      cases q : H b with
      | none => rfl
      | some u =>
        obtain rfl := isA (b := b) (by rw [q]; simp)
        rw [own (by rw [q]; simp)] at e
        cases e)
    have M : Mod K mg (hidT s₁.heap H) := ⟨inK, bare hns, ⟨mb, bare hb, hbb⟩, let ⟨mc, h1, h2⟩ := hlim; ⟨mc, bare h1, h2⟩⟩
    have e0 : Env0 P w K mg (hidT s₁.heap H) callerA [] s₁ H := ⟨rfl, M, fun b o e => of_hidT e, Nat.le_of_eq (hidT_size _ _), trivial, fun b hb => absurd (show b ∈ ([] : List Addr) from hb) (by simp), hok, .of_eq hg⟩
    refine codeAny_mono ((F _ inK (bare hns)).run s₁ H (.ref a) (.ref a) _ e0 rfl (hbind s₁ (.ref a)) (hsp H hS)) fun r s' h => ?_
    match r, h with
    | .ok (.ret u), ⟨v, H', os, bg, un, hok', r', q⟩ =>
      have q' : v = .bl true := q
      subst q'
      obtain rfl : u = Value.bool true := r'
      refine ⟨rfl, OldK.of_keep fun b o e => ?_, os, bg⟩
      rcases only b with z | ⟨_, ob, xs, z⟩
      · exact un.keep b o e z (fun y => absurd (show b ∈ ([] : List Addr) from y) (by simp)) (by simp)
      · obtain ⟨e1, _⟩ := hok b _ z
        obtain ⟨e2, _⟩ := hok' b _ (un.frzs b ob _ z)
        rw [e] at e1
        cases e1
        exact e2
    | .error e, h => exact False.elim h
  cases hk : K.lookup a with
  | some o =>
    have e := KX a o hk
    rw [ha] at e
    cases e
    exact go (fun _ => none) (fun _ => .inl rfl) (fun z => absurd rfl z) (.inr ⟨_, vs.toArray, _, hk, rfl, rfl, rfl, by rw [List.size_toArray, same_len]; exact hl, by simpa using rv⟩) (fun b u z => nomatch (show (none : Option HO) = some u from z))
  | none =>
    have at_ : ∀ b, b ≠ a → (if b = a then some (HO.frz { cls := .type "list", data := .seq vs.toArray } (.lst (ns.map V.int))) else none) = none := fun b hb => if_neg hb
    refine go (fun b => if b = a then some (.frz { cls := .type "list", data := .seq vs.toArray } (.lst (ns.map V.int))) else none) (fun b => ?_) (fun _ => hk) (.inl (.inr ⟨{ cls := .type "list", data := .seq vs.toArray }, if_pos rfl⟩)) (fun b u z => ?_)
    · by_cases hb : b = a
      · exact .inr ⟨hb, _, _, if_pos hb⟩
      · exact .inl (at_ b hb)
    · by_cases hb : b = a
      · cases (if_pos hb).symm.trans z
        subst hb
        exact ⟨ha, by rw [List.length_map]; exact hl, vs, _, rv, ha⟩
      · cases (at_ b hb).symm.trans z
theorem caller_walk {l : PySem.W.OpenLaw} {n : Nat} {q : Program} {loose : List Str} {XP : (Str → Option Value) → Heap → Prop} {YP : World → Heap → Prop} {d : DefRec} {K : Params → PySem.W.Frag} {sp : World → Sp} {x : Str}
    (hn : l.most = some n) (hn2 : n ≤ sizeLine) (hdf : d.params.defaults = []) (hY : ∀ (w : World) (h : Heap), YP w h → (K w.params).In h)
    (F : ∀ (w : World) (mg : Str → Option Value) (fa : Addr) (h : Heap), (K w.params).In h → h.Ns mainGlobals mg → mg d.name = some (.ref fa) →
      ∃ fd : FuncData, (∀ (s : Shared) (u : Value), BindsTo s fd ⟨[u], []⟩ [(x, u)]) ∧ ∀ base : Heap, (K w.params).In base → base.Ns mainGlobals mg → AtCaller l.prog w (K w.params) mg base fa fd x (sp w))
    (hsp : ∀ (w : World) (H : Hp) (a : Addr) (ns : List Int), ns.length ≤ n → SqL (K w.params) H a (ns.map V.int) → sp w [.ref a] H (fun v _ => v = .bl true) fun _ _ _ => False) :
    PySem.W.WalkO q loose XP YP l.row.toRowW d [] (fun f vs => PySem.call f vs) := by
  refine Att.attach_call hn hdf fun w s₀ s₁ mg mb fa o pm cd doc a vs ns G Y ho hd hcd hmg hobj hints hlen hg => ?_
  obtain ⟨fd, hb, hF⟩ := F w mg fa _ (hY w _ Y) G.T.g hmg
  exact caller_call (hY w _ Y) G.T.g G.T.b G.T.builtins G.T.nolimit hg hobj hints (Nat.le_trans hlen hn2) hF hb fun H hS => hsp w H a ns hlen hS
end SB

end

section
set_option Elab.async false
set_option linter.all false
set_option maxRecDepth 100000
set_option maxHeartbeats 4000000
/-! small texts; a text read backward. -/
namespace SB
open PySem PySem.Spec PyProof.Rows L2
/-- a small text -/
def Sm (n : Nat) (z : Str) : Prop := z.length ≤ n ∧ ∀ c ∈ z.cps.toList, c < 1114112
theorem Sm.app {m n : Nat} {x y : Str} (a : Sm m x) (b : Sm n y) : Sm (m + n) (x ++ y) := by
  refine ⟨by rw [Str.length_append]; exact Nat.add_le_add a.1 b.1, fun c hc => ?_⟩
  rw [Str.cps_append, Array.toList_append, List.mem_append] at hc
  exact hc.elim (a.2 c) (b.2 c)
theorem Sm.cut {n : Nat} {z : Str} (a : Sm n z) (lo hi : Option Int) : Sm n (cutS z lo hi) := by
  refine ⟨Nat.le_trans (cutS_length z lo hi) a.1, fun c hc => a.2 c ?_⟩
  unfold cutS at hc
  exact List.mem_of_mem_drop (List.mem_of_mem_take (by simpa using hc))
theorem Sm.mono {m n : Nat} {z : Str} (a : Sm m z) (h : m ≤ n) : Sm n z := ⟨Nat.le_trans a.1 h, a.2⟩
theorem Sm.repr {n : Nat} {z : Str} (a : Sm n z) : (reprText z).length ≤ 10 * n + 2 := by
  have := PySem.StrLaws.reprText_len z fun c hc => Nat.lt_of_lt_of_le (a.2 c hc) (by decide)
  have := a.1
  omega
theorem Sm.line {n : Nat} {z : Str} (a : Sm n z) (h : n ≤ 1000000) : z.length ≤ sizeLine := by
  have := a.1
  rw [sizeLine_eq]
  omega
/-- t[::-1]: some text, no longer, of the same signs -/
def tRevS (te : TE) : TE := fun σ H Q => te σ H fun x H1 => ∃ z n, x = .str z ∧ Sm n z ∧ n ≤ 1000000 ∧ ∀ y, Sm n y → Q (.str y) H1
theorem back_len (n : Nat) : (Builtin.Str.strSliceIndices none none (-1) n).length ≤ n := by
  unfold Builtin.Str.strSliceIndices sliceRange
  simp only [List.length_map, List.length_range]
  split
  · split <;> omega
  · split
    · have e : ((n : Int) - 1 - -1 - -1 - 1) / - -1 = (n : Int) := by
        rw [show - (-1 : Int) = 1 from rfl, Int.ediv_one]
        omega
      simp_all
    · omega
theorem pe_revS {X : Cx} {e : Expr} {te : TE} {k : Nat} {p1 p2 p3 pos : Pos} (he : PE X e te) : PE X (.Subscript e (.Slice none none (some (.UnaryOp .USub (.Constant (.int 1) k p1) p2)) p3) pos) (tRevS te) := by
  refine ⟨fun pins s σ H Q I h => ?_⟩
  refine Subscript_ (thn (he.run pins s σ H _ I h) fun v s1 ⟨x, H1, I1, r1, z, n, ex, sm, hn, q⟩ => ?_)
  subst ex
  obtain ⟨t, rfl⟩ := r1
  have step : PO X (some (.UnaryOp .USub (.Constant (.int 1) k p1) p2)) (tPart (tUn (rU fun i => .int (-i)) (tC (.int 1)))) := po_some (pe_un un_neg pe_int)
  refine wpAny_Slice (thn (po_none.run pins s1 σ H1 (fun o H2 => o = none ∧ H2 = H1) I1 ⟨rfl, rfl⟩) fun vl s2 ⟨l, H2, I2, pl, el, e2⟩ => ?_)
  subst el e2
  refine thn (po_none.run pins s2 σ H2 (fun o H3 => o = none ∧ H3 = H2) I2 ⟨rfl, rfl⟩) fun vu s3 ⟨u, H3, I3, pu, eu, e3⟩ => ?_
  subst eu e3
  refine thn (step.run pins s3 σ H3 (fun o H4 => o = some (-1) ∧ H4 = H3) I3 ⟨1, rfl, -1, rfl, rfl, rfl⟩) fun vs s4 ⟨o, H4, I4, ps, eo, e4⟩ => ?_
  subst eo e4
  have I5 : Inv X pins σ H4 { s4 with heap := s4.heap.push { cls := .type "slice", data := .fields #[vl, vu, vs] } } := I4.kept (t' := s4.toks) fun b ob q => Heap.get?_push_of_some _ q
  show wpAny (model X.prog X.w) X.A (subscriptTail e (.Slice none none (some (.UnaryOp .USub (.Constant (.int 1) k p1) p2)) p3) (.str z t) (.ref s4.heap.objs.size)) (EP X pins σ Q) X.xe { s4 with heap := s4.heap.push { cls := .type "slice", data := .fields #[vl, vu, vs] } }
  refine tail_any (ops := [.str z t, .ref s4.heap.objs.size]) (typeIs_str _ _ _) (F.slot_str_getitem.lookup) ?_ (by with_unfolding_all rfl)
  cases pl
  cases pu
  cases ps with
  | int _ t' =>
    refine wpAny_getItem_str_slice (l := none) (u := none) (st := some (-1, t')) ⟨_, Heap.get?_push_size _ rfl, rfl, rfl⟩ rfl ?_
    show Made.post (if ((-1 : Int) == 1 && (Builtin.Str.strSliceIndices none none (-1) z.length).length == z.length) = true then Made.val (.str z t)
      else Made.str ⟨((Builtin.Str.strSliceIndices none none (-1) z.length).filterMap (z.cps[·]?)).toArray⟩) _ _
    rw [if_neg (by simp)]
    have sm' : Sm n (⟨((Builtin.Str.strSliceIndices none none (-1) z.length).filterMap (z.cps[·]?)).toArray⟩ : Str) := by
      refine ⟨?_, fun c hc => ?_⟩
      · show ((Builtin.Str.strSliceIndices none none (-1) z.length).filterMap (z.cps[·]?)).toArray.size ≤ n
        rw [List.size_toArray]
        exact Nat.le_trans (List.length_filterMap_le _ _) (Nat.le_trans (back_len _) sm.1)
      · have hc' : c ∈ (Builtin.Str.strSliceIndices none none (-1) z.length).filterMap (z.cps[·]?) := by simpa using hc
        obtain ⟨i, _, hi⟩ := List.mem_filterMap.mp hc'
        exact sm.2 c (Array.mem_toList_iff.mpr (Array.mem_of_getElem? hi))
    exact ⟨sm'.line hn, .str _, H4, I5.tok _, ⟨_, rfl⟩, q _ sm'⟩
end SB

end

section
set_option Elab.async false
set_option linter.all false
set_option maxRecDepth 100000
set_option maxHeartbeats 4000000
/-! a tuple whose object is known (its methods may be called); values that a law may draw. -/
namespace SB
open PySem PySem.Spec PyProof.Rows L2
def tTupF (t : TA) : TE := fun σ H Q => t σ H fun xs H1 => xs.length ≤ sizeLine ∧ ∀ p o, H1 p = none → o.dict = none → o.cls = .type "tuple" → Q (.ref p) (upd H1 p (.frz o (.tup xs)))
section
variable {X : Cx} {es : List Expr} {t : TA} {pos : Pos}
theorem pe_tupF {x1} (h : PA X es t) : PE X (.Tuple es x1 pos) (tTupF t) := by
  refine ⟨fun pins s σ H Q I hq => ?_⟩
  refine wpAny_Tuple_spliced (thn (h.run pos pins s σ H _ I hq) fun us s1 ⟨xs, H1, I1, r, z, q⟩ => ⟨by rw [← r.length]; exact z, ?_⟩)
  have free : H1 s1.heap.objs.size = none := I1.hok.fresh (Nat.le_refl _)
  refine ⟨.ref s1.heap.objs.size, upd H1 s1.heap.objs.size (.frz _ (.tup xs)), I1.laid (t' := s1.toks) (fun b u e => Heap.get?_push_of_some _ e) (Nat.le_refl _) ⟨Heap.get?_push_size _ rfl, z, us, r, ⟨_, Heap.get?_push_size _ rfl, rfl, _, rfl⟩⟩, rfl, q _ _ free rfl rfl⟩
/-- t.index(z), t such a tuple of texts -/
def tTix (to te : TE) : TE := fun σ H Q => to σ H fun x H1 => (∃ p o u, x = .ref p ∧ H1 p = some (.frz o u) ∧ o.dict = none ∧ o.cls = .type "tuple") ∧ te σ H1 fun y H2 =>
  ∃ (p : Addr) (o : Obj) (ys : List Str) (z : Str) (j : Nat), x = .ref p ∧ y = .str z ∧ H2 p = some (.frz o (.tup (ys.map V.str))) ∧ ys[j]? = some z ∧ (∀ m, m < j → ys[m]? ≠ some z) ∧ Q (.int (j : Nat)) H2
theorem pe_tix {o e : Expr} {to te : TE} {apos cpos : Pos} (ho : PE X o to) (he : PE X e te)
    (hbase : attributeBase o "index" X.env (eval o X.env) = eval o X.env := by rfl)
    (hfew : ((backTo cpos (starEach [e] X.env)).all (fun x => !x.1) && (backToKw cpos (keywordEach [] X.env)).all (fun x => x.1.isSome)
      && decide ([e].length + ([] : List Keyword).length + (if ([] : List Keyword).isEmpty then 0 else 1) < 30)) = true := by rfl)
    (hline : (apos.endLine == cpos.line) = true := by rfl) (hs : starEach [e] X.env = (false, eval e X.env) :: starEach [] X.env := by rfl) :
    PE X (.Call (.Attribute o "index" apos) [e] [] cpos) (tTix to te) := by
  refine ⟨fun pins s σ H Q I h => ?_⟩
  refine wpAny_Call_method_late hbase hfew hline rfl (thn (ho.run pins s σ H _ I h) fun v s1 ⟨x, H1, I1, r1, ⟨p, ob, u, ex, hp, hd, hc⟩, q1⟩ => ?_)
  subst ex
  cases r1
  obtain ⟨at_, _⟩ := I1.hok p _ hp
  refine ⟨"tuple", _, PySem.F.plainAttrs_tuple, PySem.F.slot_tuple_index, PySem.F.type_tuple_index, ⟨ob, at_, hc⟩, fun a e' => by cases e'; exact ⟨ob, at_, hd⟩, ?_⟩
  have hA := (pa_cons (X := X) he pa_nil hs).run cpos pins s1 σ H1 (fun vs H2 => match vs with
    | [y] => ∃ (p' : Addr) (o' : Obj) (ys : List Str) (z : Str) (j : Nat), V.ref p = .ref p' ∧ y = .str z ∧ H2 p' = some (.frz o' (.tup (ys.map V.str))) ∧ ys[j]? = some z ∧ (∀ m, m < j → ys[m]? ≠ some z) ∧ Q (.int (j : Nat)) H2
    | _ => False) I1 q1
  rw [hs] at hA ⊢
  refine Calls.callWith_builtin rfl (Calls.evalArgs_plain ?_)
  refine thn hA fun us s2 ⟨vs, H2, I2, r2, q2⟩ => ?_
  match vs, r2, q2 with
  | [y], r2, ⟨p', o', ys, z, j, e1, e2, h1, h2, h3, q⟩ =>
    cases e1
    subst e2
    exact mt_tup_index pins s2 σ H2 (.ref p) [.str z] _ us Q I2 rfl r2 ⟨p, ys, z, j, rfl, rfl, .inl (.inr ⟨o', h1⟩), h2, h3, q⟩
end

/-- a datum whose repr is small -/
def okD (d : PyData) : Bool := d.showable && decide (d.shown.length ≤ 100000) && decide (d.depth ≤ 8) && !d.hasDict
theorem okD_all {d : PyData} (h : okD d = true) : d.showable = true ∧ d.shown.length ≤ sizeLine ∧ d.depth ≤ 8 ∧ d.hasDict = false := by
  unfold okD at h
  simp only [Bool.and_eq_true, decide_eq_true_eq, Bool.not_eq_true'] at h
  obtain ⟨⟨⟨h1, h2⟩, h3⟩, h4⟩ := h
  exact ⟨h1, by rw [sizeLine_eq]; omega, h3, h4⟩
/-- a value that a law has drawn: it is the same as itself, it has a repr, it is a text or none -/
structure GV (K : PySem.W.Frag) (H : Hp) (v : V) (d : PyData) : Prop where
  al : Alike K H 1 v v
  sh : Sh K H v d
  kd : (∃ z, v = .str z) ∨ ∃ T, TyX K H v (.type T) ∧ kitB T "str" = some false
/-- .. whatever is drawn later -/
def Drawn (b : Addr) (K : PySem.W.Frag) (H : Hp) (v : V) : Prop := ∃ d : PyData, d.showable = true ∧ d.shown.length ≤ sizeLine ∧ d.depth ≤ 8 ∧ ∀ H', Keep b H H' → GV K H' v d
theorem Drawn.keep {b : Addr} {K : PySem.W.Frag} {H H' : Hp} {v : V} (g : Drawn b K H v) (k : Keep b H H') : Drawn b K H' v :=
  let ⟨d, h1, h2, h3, h4⟩ := g
  ⟨d, h1, h2, h3, fun H2 k2 => h4 H2 (k.trans k2)⟩
/-- a value without an object -/
inductive Plain : V → Prop
  | non : Plain .non
  | bl (b : Bool) : Plain (.bl b)
  | int (i : Int) (h : i.natAbs.log2 < 1920) : Plain (.int i)
  | str (z : Str) (h : Sm 1000 z) : Plain (.str z)
theorem Plain.drawn {b : Addr} {K : PySem.W.Frag} {H : Hp} {v : V} (p : Plain v) : Drawn b K H v := by
  cases p with
  | non => exact ⟨.none, by decide, by decide, by decide, fun H' _ => ⟨.inl (.inl ⟨rfl, rfl⟩), .dp .non (by decide), .inr ⟨_, .base .non, by decide +kernel⟩⟩⟩
  | bl c => exact ⟨.bool c, by simp [PyData.showable], by cases c <;> decide, by simp [PyData.depth], fun H' _ => ⟨.inl (.inl ⟨rfl, rfl⟩), .dp (.bl c) (by simp [PyData.hasDict]), .inr ⟨_, .base (.bl c), by decide +kernel⟩⟩⟩
  | int i h => exact ⟨.int i, by simpa [PyData.showable] using h, int_text_fits h, by simp [PyData.depth], fun H' _ => ⟨.inl (.inl ⟨rfl, rfl⟩), .dp (.int i) (by simp [PyData.hasDict]), .inr ⟨_, .base (.int i), by decide +kernel⟩⟩⟩
  | str z h => exact ⟨.str z, by simp [PyData.showable], (by
      have := h.repr
      show (reprText z).length ≤ sizeLine
      rw [sizeLine_eq]
      omega), by simp [PyData.depth], fun H' _ => ⟨.inl (.inl ⟨rfl, rfl⟩), .dp (.str z) (by simp [PyData.hasDict]), .inl ⟨z, rfl⟩⟩⟩
theorem dpAll_strs {K : PySem.W.Frag} {H : Hp} : ∀ zs : List Str, DpAll K H (zs.map V.str) (zs.map PyData.str)
  | [] => .nil
  | z :: zs => .cons (.str z) (dpAll_strs zs)
theorem leaf_strs {H : Hp} : ∀ zs : List Str, Paired (Leaf H) (zs.map V.str) (zs.map V.str)
  | [] => .nil
  | z :: zs => .cons (.inl ⟨rfl, rfl⟩) (leaf_strs zs)
theorem drawn_lst {b p : Addr} {K : PySem.W.Frag} {H : Hp} {zs : List Str} (hp : H p = some (.lst (zs.map V.str))) (hb : p ≠ b) (ok : okD (.list (zs.map .str)) = true) (hl : zs.length < sizeLine) : Drawn b K H (.ref p) :=
  let ⟨h1, h2, h3, h4⟩ := okD_all ok
  ⟨_, h1, h2, h3, fun H' k => ⟨.inr (.inl ⟨p, p, _, _, rfl, rfl, SqL.of (k _ _ hp hb), SqL.of (k _ _ hp hb), by rw [List.length_map]; exact hl, leaf_strs zs⟩), .dp (.lst (SqL.of (k _ _ hp hb)) (dpAll_strs zs)) h4, .inr ⟨_, ty_list (SqL.of (k _ _ hp hb)), by decide +kernel⟩⟩⟩
theorem drawn_tup {b p : Addr} {K : PySem.W.Frag} {H : Hp} {zs : List Str} (hp : ∀ H', Keep b H H' → SqT K H' p (zs.map V.str)) (ok : okD (.tuple (zs.map .str)) = true) (hl : zs.length < sizeLine) : Drawn b K H (.ref p) :=
  let ⟨h1, h2, h3, h4⟩ := okD_all ok
  ⟨_, h1, h2, h3, fun H' k => ⟨.inr (.inr ⟨p, p, _, _, rfl, rfl, hp H' k, hp H' k, by rw [List.length_map]; exact hl, leaf_strs zs⟩), .dp (.tup (hp H' k) (dpAll_strs zs)) h4, .inr ⟨_, ty_tup (hp H' k), by decide +kernel⟩⟩⟩
theorem drawn_dct {b p : Addr} {K : PySem.W.Frag} {H : Hp} {kvs : List (Key × V)} (hp : H p = some (.dK kvs)) (hb : p ≠ b) (hf : ∀ q ∈ kvs, valV kvs q.1 = some q.2 ∧ flatB q.2 = true ∧ flatV q.2 = true)
    (h1 : (PyData.dict (kvs.map fun q => (keyD q.1, flatD q.2))).showable = true) (h2 : (PyData.dict (kvs.map fun q => (keyD q.1, flatD q.2))).shown.length ≤ sizeLine) (h3 : (PyData.dict (kvs.map fun q => (keyD q.1, flatD q.2))).depth ≤ 8) : Drawn b K H (.ref p) :=
  ⟨_, h1, h2, h3, fun H' k => ⟨.inl (.inr ⟨p, kvs, rfl, rfl, k _ _ hp hb, fun q hq => ⟨(hf q hq).1, (hf q hq).2.1⟩⟩), .dct (k _ _ hp hb) fun q hq => (hf q hq).2.2, .inr ⟨_, .base (.dK (k _ _ hp hb)), by decide +kernel⟩⟩⟩
end SB

end

section
set_option Elab.async false
set_option linter.all false
set_option maxRecDepth 100000
set_option maxHeartbeats 4000000
namespace SB
open PySem PySem.Spec PyProof.Rows L2
theorem seqL_keep {K : PySem.W.Frag} {H H' : Hp} {b p : Addr} {xs : List V} (k : Keep b H H') (n : p ≠ b) (h : SqL K H p xs) : SqL K H' p xs := by
  rcases h with (h | ⟨o, h⟩) | h
  · exact .inl (.inl (k _ _ h n))
  · exact .inl (.inr ⟨o, k _ _ h n⟩)
  · exact .inr h
theorem seqT_keep {K : PySem.W.Frag} {H H' : Hp} {b p : Addr} {xs : List V} (k : Keep b H H') (n : p ≠ b) (h : SqT K H p xs) : SqT K H' p xs := by
  rcases h with (h | ⟨o, h⟩) | h
  · exact .inl (.inl (k _ _ h n))
  · exact .inl (.inr ⟨o, k _ _ h n⟩)
  · exact .inr h
theorem of_seq {K : PySem.W.Frag} {H : Hp} {b p : Addr} {xs : List V} {Q : VK} {E : XK} (B : BagAt H b) (n : p ≠ b) (hs : SqL K H p xs ∨ SqT K H p xs) (h0 : 0 < xs.length) (h1 : xs.length < 2 ^ 62)
    (k : ∀ v H', v ∈ xs → BagAt H' b → Keep b H H' → (∀ c, H c = none → H' c = none) → Q v H') : spOf K [.ref b, .ref p] H Q E :=
  ⟨b, p, xs, rfl, B, n, hs, h0, h1, fun H' kk h => seqL_keep kk n h, fun H' kk h => seqT_keep kk n h, k⟩
theorem BagAt.new {H : Hp} {b p : Addr} {o : HO} (B : BagAt H b) (hp : H p = none) : BagAt (upd H p o) b := B.same (Same.new (Same.refl H) hp)
theorem BagAt.at {H : Hp} {b : Addr} (B : BagAt H b) : ∃ xs, H b = some (.lst xs) := let ⟨l, ns, i, g, m, c, h, _⟩ := B; ⟨_, h⟩
theorem BagAt.ne {H : Hp} {b p : Addr} (B : BagAt H b) (hp : H p = none) : p ≠ b := fun e => by
  obtain ⟨xs, h⟩ := B.at
  rw [e, h] at hp
  cases hp
/-- a table of texts -/
theorem look_at : ∀ (l : List (Str × Int)) {z : Str} {i : Int}, l.lookup z = some i → ∃ j : Nat, (l.map (·.1))[j]? = some z ∧ (l.map (·.2))[j]? = some i ∧ ∀ m : Nat, m < j → (l.map (·.1))[m]? ≠ some z
  | [], z, i, h => by cases h
  | (k, v) :: l, z, i, h => by
    by_cases e : z = k
    · subst e
      have : some v = some i := by simpa [List.lookup] using h
      cases this
      exact ⟨0, rfl, rfl, fun m hm => absurd hm (by omega)⟩
    · have h' : l.lookup z = some i := by
        have e' : (z == k) = false := by simpa using e
        simpa [List.lookup, e'] using h
      obtain ⟨j, h1, h2, h3⟩ := look_at l h'
      refine ⟨j + 1, h1, h2, fun m hm => ?_⟩
      cases m with
      | zero => exact fun q => e (Option.some.inj q).symm
      | succ m => exact h3 m (by omega)
theorem look_none : ∀ (l : List (Str × Int)) {z : Str}, l.lookup z = none → inV (.str z) ((l.map (·.1)).map V.str) = false
  | [], z, h => rfl
  | (k, v) :: l, z, h => by
    by_cases e : z = k
    · subst e
      simp [List.lookup] at h
    · have e' : (z == k) = false := by simpa using e
      have h' : l.lookup z = none := by simpa [List.lookup, e'] using h
      have ih := look_none l h'
      show (eqV (.str k) (.str z) || inV (.str z) ((l.map (·.1)).map V.str)) = false
      rw [ih]
      show ((k == z) || false) = false
      have : (k == z) = false := by simpa using fun q => e q.symm
      rw [this]
      rfl
theorem look_in : ∀ (l : List (Str × Int)) {z : Str} {i : Int}, l.lookup z = some i → inV (.str z) ((l.map (·.1)).map V.str) = true
  | [], z, i, h => by cases h
  | (k, v) :: l, z, i, h => by
    show (eqV (.str k) (.str z) || inV (.str z) ((l.map (·.1)).map V.str)) = true
    by_cases e : z = k
    · subst e
      show ((z == z) || _) = true
      simp
    · have e' : (z == k) = false := by simpa using e
      rw [look_in l (z := z) (i := i) (by simpa [List.lookup, e'] using h), Bool.or_true]
theorem look_mem : ∀ (l : List (Str × Int)) {z : Str}, z ∈ l.map (·.1) → ∃ i, l.lookup z = some i
  | [], z, h => by simp at h
  | (k, v) :: l, z, h => by
    by_cases e : z = k
    · subst e
      exact ⟨v, by simp [List.lookup]⟩
    · have e' : (z == k) = false := by simpa using e
      obtain ⟨i, hi⟩ := look_mem l (z := z) (by simpa [e] using h)
      exact ⟨i, by simpa [List.lookup, e'] using hi⟩
theorem look_val : ∀ (l : List (Str × Int)) {z : Str} {i : Int}, l.lookup z = some i → i ∈ l.map (·.2)
  | [], z, i, h => by cases h
  | (k, v) :: l, z, i, h => by
    by_cases e : z = k
    · subst e
      have : some v = some i := by simpa [List.lookup] using h
      cases this
      exact List.mem_cons_self ..
    · have e' : (z == k) = false := by simpa using e
      exact List.mem_cons_of_mem _ (look_val l (z := z) (by simpa [List.lookup, e'] using h))
def smB (z : Str) : Bool := decide (z.length ≤ 100) && z.cps.toList.all fun c => decide (c < 1114112)
theorem smB_ok {z : Str} (h : smB z = true) : Sm 100 z := by
  unfold smB at h
  simp only [Bool.and_eq_true, decide_eq_true_eq, List.all_eq_true] at h
  exact h
end SB

end

section
set_option Elab.async false
set_option linter.all false
set_option maxRecDepth 100000
set_option maxHeartbeats 4000000
/-! the bag with its list of cells named; what drawing from it promises. -/
namespace SB
open PySem PySem.Spec PyProof.Rows L2
/-- the bag at b, its cells at l -/
def BagL (H : Hp) (b l : Addr) : Prop := ∃ (ns : List Int) (i g m c : Int), H b = some (.lst [.ref l, .int i, .int g, .int m, .int c]) ∧ H l = some (.lst (ns.map V.int)) ∧ l ≠ b ∧ 0 ≤ i ∧ 0 ≤ g ∧ 0 ≤ m ∧ m < 2147483648
theorem BagL.same {H H' : Hp} {b l : Addr} (x : BagL H b l) (s : Same H H') : BagL H' b l := let ⟨ns, i, g, m, c, h1, h2, r⟩ := x; ⟨ns, i, g, m, c, s _ _ h1, s _ _ h2, r⟩
theorem BagL.new {H : Hp} {b l p : Addr} {o : HO} (B : BagL H b l) (hp : H p = none) : BagL (upd H p o) b l := B.same (Same.new (Same.refl H) hp)
theorem BagL.ne {H : Hp} {b l p : Addr} (B : BagL H b l) (hp : H p = none) : p ≠ b := fun e => by
  obtain ⟨ns, i, g, m, c, h, _⟩ := B
  rw [e, h] at hp
  cases hp
theorem BagL.nl {H : Hp} {b l p : Addr} (B : BagL H b l) (hp : H p = none) : p ≠ l := fun e => by
  obtain ⟨ns, i, g, m, c, _, h, _⟩ := B
  rw [e, h] at hp
  cases hp
/-- something that is no bag changes -/
theorem BagL.put {H : Hp} {b l p : Addr} {o : HO} (B : BagL H b l) (n1 : p ≠ b) (n2 : p ≠ l) : BagL (upd H p o) b l :=
  let ⟨ns, i, g, m, c, h1, h2, r⟩ := B
  ⟨ns, i, g, m, c, by rw [upd_ne (fun e => n1 e.symm)]; exact h1, by rw [upd_ne (fun e => n2 e.symm)]; exact h2, r⟩
def spBagL (K : PySem.W.Frag) : Sp := fun vs H Q _ => ∃ (a : Addr) (ns : List Int), vs = [.ref a] ∧ SqL K H a (ns.map V.int) ∧ ns.length ≤ 1000 ∧
  ∀ b l H', H b = none → H l = none → Same H H' → BagL H' b l → Q (.ref b) H'
def spDrawL : Sp := fun vs H Q _ => ∃ (b l : Addr) (top : Int), vs = [.ref b, .int top] ∧ BagL H b l ∧ 0 < top ∧ top.natAbs.log2 < 9000 ∧
  ∀ d H', 0 ≤ d → d < top → BagL H' b l → Keep b H H' → (∀ c, H c = none → H' c = none) → Q (.int d) H'
/-- one of the items of a list or a tuple -/
def spOfL (K : PySem.W.Frag) : Sp := fun vs H Q _ => ∃ (b l p : Addr) (xs : List V), vs = [.ref b, .ref p] ∧ BagL H b l ∧ p ≠ b ∧ (SqL K H p xs ∨ SqT K H p xs) ∧ 0 < xs.length ∧ xs.length < 2 ^ 62 ∧
  ∀ v H', v ∈ xs → BagL H' b l → Keep b H H' → (∀ c, H c = none → H' c = none) → Q v H'
theorem of_seqL {K : PySem.W.Frag} {H : Hp} {b l p : Addr} {xs : List V} {Q : VK} {E : XK} (B : BagL H b l) (n : p ≠ b) (hs : SqL K H p xs ∨ SqT K H p xs) (h0 : 0 < xs.length) (h1 : xs.length < 2 ^ 62)
    (k : ∀ v H', v ∈ xs → BagL H' b l → Keep b H H' → (∀ c, H c = none → H' c = none) → Q v H') : spOfL K [.ref b, .ref p] H Q E :=
  ⟨b, l, p, xs, rfl, B, n, hs, h0, h1, k⟩
theorem log_small {top : Int} (h0 : 0 < top) (h1 : top < 2 ^ 62) : top.natAbs.log2 < 9000 := by
  have h : top.natAbs < 2 ^ 62 := by omega
  have h2 : top.natAbs ≠ 0 := by omega
  exact Nat.lt_of_lt_of_le ((Nat.log2_lt h2).mpr h) (by decide)
end SB

end

section
set_option Elab.async false
set_option linter.all false
set_option maxRecDepth 100000
set_option maxHeartbeats 4000000
namespace K03
open PySem L2 SB
def top (i : Nat) : Stmt := PySem.Challenge.pw_shapebetween_k03_rows_told.main.body.getD i (.Pass ⟨0, 0, 0, 0⟩)
abbrev s_InvalidLot_init : Stmt := inClass (top 2) 0
abbrev N_InvalidLot_init : List Str := ["self", "value"]
theorem sc_InvalidLot_init : FnScope ["self", "value"] ["self", "value"] (defScope s_InvalidLot_init) := ⟨rfl, rfl, rfl, by decide +kernel, rfl, by decide +kernel, by decide +kernel⟩
-- InvalidLot_init: self:0 value:1
abbrev s_InvalidMark_init : Stmt := inClass (top 3) 0
abbrev N_InvalidMark_init : List Str := ["self", "value"]
theorem sc_InvalidMark_init : FnScope ["self", "value"] ["self", "value"] (defScope s_InvalidMark_init) := ⟨rfl, rfl, rfl, by decide +kernel, rfl, by decide +kernel, by decide +kernel⟩
-- InvalidMark_init: self:0 value:1
abbrev s_InvalidRow_init : Stmt := inClass (top 4) 0
abbrev N_InvalidRow_init : List Str := ["self", "at"]
theorem sc_InvalidRow_init : FnScope ["self", "at"] ["self", "at"] (defScope s_InvalidRow_init) := ⟨rfl, rfl, rfl, by decide +kernel, rfl, by decide +kernel, by decide +kernel⟩
-- InvalidRow_init: self:0 at:1
abbrev s_InvalidText_init : Stmt := inClass (top 5) 0
abbrev N_InvalidText_init : List Str := ["self", "at"]
theorem sc_InvalidText_init : FnScope ["self", "at"] ["self", "at"] (defScope s_InvalidText_init) := ⟨rfl, rfl, rfl, by decide +kernel, rfl, by decide +kernel, by decide +kernel⟩
-- InvalidText_init: self:0 at:1
abbrev s_is_number : Stmt := top 7
abbrev N_is_number : List Str := ["value"]
theorem sc_is_number : FnScope ["value"] ["value"] (defScope s_is_number) := ⟨rfl, rfl, rfl, by decide +kernel, rfl, by decide +kernel, by decide +kernel⟩
-- is_number: value:0
abbrev s_is_key : Stmt := top 11
abbrev N_is_key : List Str := ["value"]
theorem sc_is_key : FnScope ["value"] ["value"] (defScope s_is_key) := ⟨rfl, rfl, rfl, by decide +kernel, rfl, by decide +kernel, by decide +kernel⟩
-- is_key: value:0
abbrev s_is_key_set : Stmt := top 12
abbrev N_is_key_set : List Str := ["value", "at", "key"]
theorem sc_is_key_set : FnScope ["value", "at", "key"] ["value"] (defScope s_is_key_set) := ⟨rfl, rfl, rfl, by decide +kernel, rfl, by decide +kernel, by decide +kernel⟩
-- is_key_set: value:0(cell) at:1 key:2
abbrev s_is_lot : Stmt := top 13
abbrev N_is_lot : List Str := ["value"]
theorem sc_is_lot : FnScope ["value"] ["value"] (defScope s_is_lot) := ⟨rfl, rfl, rfl, by decide +kernel, rfl, by decide +kernel, by decide +kernel⟩
-- is_lot: value:0
abbrev s_lives_in : Stmt := top 14
abbrev N_lives_in : List Str := ["living", "value"]
theorem sc_lives_in : FnScope ["living", "value"] ["living", "value"] (defScope s_lives_in) := ⟨rfl, rfl, rfl, by decide +kernel, rfl, by decide +kernel, by decide +kernel⟩
-- lives_in: living:0 value:1
abbrev s_key_of_word : Stmt := top 15
abbrev N_key_of_word : List Str := ["word", "sign"]
theorem sc_key_of_word : FnScope ["word", "sign"] ["word"] (defScope s_key_of_word) := ⟨rfl, rfl, rfl, by decide +kernel, rfl, by decide +kernel, by decide +kernel⟩
-- key_of_word: word:0 sign:1
abbrev s_Row_init : Stmt := inClass (top 17) 0
abbrev N_Row_init : List Str := ["self", "lot", "coming", "going"]
theorem sc_Row_init : FnScope ["self", "lot", "coming", "going"] ["self", "lot", "coming", "going"] (defScope s_Row_init) := ⟨rfl, rfl, rfl, by decide +kernel, rfl, by decide +kernel, by decide +kernel⟩
-- Row_init: self:0 lot:1 coming:2 going:3
abbrev s_Row_lot_before : Stmt := inClass (top 17) 1
abbrev N_Row_lot_before : List Str := ["self", "key"]
theorem sc_Row_lot_before : FnScope ["self", "key"] ["self"] (defScope s_Row_lot_before) := ⟨rfl, rfl, rfl, by decide +kernel, rfl, by decide +kernel, by decide +kernel⟩
-- Row_lot_before: self:0(cell) key:1
abbrev s_Row_lot_after : Stmt := inClass (top 17) 2
abbrev N_Row_lot_after : List Str := ["self", "key"]
theorem sc_Row_lot_after : FnScope ["self", "key"] ["self"] (defScope s_Row_lot_after) := ⟨rfl, rfl, rfl, by decide +kernel, rfl, by decide +kernel, by decide +kernel⟩
-- Row_lot_after: self:0(cell) key:1
abbrev s_Row_backward : Stmt := inClass (top 17) 3
abbrev N_Row_backward : List Str := ["self"]
theorem sc_Row_backward : FnScope ["self"] ["self"] (defScope s_Row_backward) := ⟨rfl, rfl, rfl, by decide +kernel, rfl, by decide +kernel, by decide +kernel⟩
-- Row_backward: self:0
abbrev s_Row_text : Stmt := inClass (top 17) 4
abbrev N_Row_text : List Str := ["self", "key"]
theorem sc_Row_text : FnScope ["self", "key"] ["self"] (defScope s_Row_text) := ⟨rfl, rfl, rfl, by decide +kernel, rfl, by decide +kernel, by decide +kernel⟩
-- Row_text: self:0(cell) key:1
abbrev s_Row_read : Stmt := inClass (top 17) 5
abbrev N_Row_read : List Str := ["text", "lot", "marks", "word", "sign", "key"]
theorem sc_Row_read : FnScope ["text", "lot", "marks", "word", "sign", "key"] ["text"] (defScope s_Row_read) := ⟨rfl, rfl, rfl, by decide +kernel, rfl, by decide +kernel, by decide +kernel⟩
-- Row_read: text:0 lot:1 marks:2 word:3 sign:4 key:5
abbrev s_Row_sign : Stmt := inClass (top 17) 6
abbrev N_Row_sign : List Str := ["self", "key"]
theorem sc_Row_sign : FnScope ["self", "key"] ["self", "key"] (defScope s_Row_sign) := ⟨rfl, rfl, rfl, by decide +kernel, rfl, by decide +kernel, by decide +kernel⟩
-- Row_sign: self:0 key:1
abbrev s_Row_str : Stmt := inClass (top 17) 7
abbrev N_Row_str : List Str := ["self"]
theorem sc_Row_str : FnScope ["self"] ["self"] (defScope s_Row_str) := ⟨rfl, rfl, rfl, by decide +kernel, rfl, by decide +kernel, by decide +kernel⟩
-- Row_str: self:0
abbrev s_Row_repr : Stmt := inClass (top 17) 8
abbrev N_Row_repr : List Str := ["self"]
theorem sc_Row_repr : FnScope ["self"] ["self"] (defScope s_Row_repr) := ⟨rfl, rfl, rfl, by decide +kernel, rfl, by decide +kernel, by decide +kernel⟩
-- Row_repr: self:0
abbrev s_Row_iter : Stmt := inClass (top 17) 9
abbrev N_Row_iter : List Str := ["self"]
theorem sc_Row_iter : FnScope ["self"] ["self"] (defScope s_Row_iter) := ⟨rfl, rfl, rfl, by decide +kernel, rfl, by decide +kernel, by decide +kernel⟩
-- Row_iter: self:0
abbrev s_Row_contains : Stmt := inClass (top 17) 10
abbrev N_Row_contains : List Str := ["self", "key"]
theorem sc_Row_contains : FnScope ["self", "key"] ["self", "key"] (defScope s_Row_contains) := ⟨rfl, rfl, rfl, by decide +kernel, rfl, by decide +kernel, by decide +kernel⟩
-- Row_contains: self:0 key:1
abbrev s_Row_len : Stmt := inClass (top 17) 11
abbrev N_Row_len : List Str := ["self"]
theorem sc_Row_len : FnScope ["self"] ["self"] (defScope s_Row_len) := ⟨rfl, rfl, rfl, by decide +kernel, rfl, by decide +kernel, by decide +kernel⟩
-- Row_len: self:0
abbrev s_Row_eq : Stmt := inClass (top 17) 12
abbrev N_Row_eq : List Str := ["self", "other"]
theorem sc_Row_eq : FnScope ["self", "other"] ["self", "other"] (defScope s_Row_eq) := ⟨rfl, rfl, rfl, by decide +kernel, rfl, by decide +kernel, by decide +kernel⟩
-- Row_eq: self:0 other:1
abbrev s_split_sign : Stmt := top 18
abbrev N_split_sign : List Str := ["word"]
theorem sc_split_sign : FnScope ["word"] ["word"] (defScope s_split_sign) := ⟨rfl, rfl, rfl, by decide +kernel, rfl, by decide +kernel, by decide +kernel⟩
-- split_sign: word:0
abbrev s_as_row : Stmt := top 19
abbrev N_as_row : List Str := ["value"]
theorem sc_as_row : FnScope ["value"] ["value"] (defScope s_as_row) := ⟨rfl, rfl, rfl, by decide +kernel, rfl, by decide +kernel, by decide +kernel⟩
-- as_row: value:0
abbrev s_l_bag : Stmt := top 21
abbrev N_l_bag : List Str := ["_law_script", "_law_mixed", "_law_cell"]
theorem sc_l_bag : FnScope ["_law_script", "_law_mixed", "_law_cell"] ["_law_script"] (defScope s_l_bag) := ⟨rfl, rfl, rfl, by decide +kernel, rfl, by decide +kernel, by decide +kernel⟩
-- l_bag: _law_script:0 _law_mixed:1 _law_cell:2
abbrev s_l_draw : Stmt := top 22
abbrev N_l_draw : List Str := ["_law_bag_here", "_law_top", "_law_cell", "_law_digit", "_law_seed"]
theorem sc_l_draw : FnScope ["_law_bag_here", "_law_top", "_law_cell", "_law_digit", "_law_seed"] ["_law_bag_here", "_law_top"] (defScope s_l_draw) := ⟨rfl, rfl, rfl, by decide +kernel, rfl, by decide +kernel, by decide +kernel⟩
-- l_draw: _law_bag_here:0 _law_top:1 _law_cell:2 _law_digit:3 _law_seed:4
abbrev s_l_of : Stmt := top 23
abbrev N_l_of : List Str := ["_law_bag_here", "_law_some"]
theorem sc_l_of : FnScope ["_law_bag_here", "_law_some"] ["_law_bag_here", "_law_some"] (defScope s_l_of) := ⟨rfl, rfl, rfl, by decide +kernel, rfl, by decide +kernel, by decide +kernel⟩
-- l_of: _law_bag_here:0 _law_some:1
abbrev s_l_same : Stmt := top 24
abbrev N_l_same : List Str := ["_law_found", "_law_due", "_law_p", "_law_q"]
theorem sc_l_same : FnScope ["_law_found", "_law_due", "_law_p", "_law_q"] ["_law_found", "_law_due"] (defScope s_l_same) := ⟨rfl, rfl, rfl, by decide +kernel, rfl, by decide +kernel, by decide +kernel⟩
-- l_same: _law_found:0 _law_due:1 _law_p:2 _law_q:3
abbrev s_l_keys : Stmt := top 25
abbrev N_l_keys : List Str := ["_law_bag_here", "_law_many", "_law_wide", "_law_low", "_law_found", "_law_n", "_law_d", "_law_turn"]
theorem sc_l_keys : FnScope ["_law_bag_here", "_law_many", "_law_wide", "_law_low", "_law_found", "_law_n", "_law_d", "_law_turn"] ["_law_bag_here", "_law_many"] (defScope s_l_keys) := ⟨rfl, rfl, rfl, by decide +kernel, rfl, by decide +kernel, by decide +kernel⟩
-- l_keys: _law_bag_here:0 _law_many:1 _law_wide:2 _law_low:3 _law_found:4 _law_n:5 _law_d:6 _law_turn:7
abbrev s_l_stranger : Stmt := top 26
abbrev N_l_stranger : List Str := ["_law_bag_here", "_law_ks", "_law_found", "_law_turn"]
theorem sc_l_stranger : FnScope ["_law_bag_here", "_law_ks", "_law_found", "_law_turn"] ["_law_bag_here", "_law_ks"] (defScope s_l_stranger) := ⟨rfl, rfl, rfl, by decide +kernel, rfl, by decide +kernel, by decide +kernel⟩
-- l_stranger: _law_bag_here:0 _law_ks:1 _law_found:2 _law_turn:3
abbrev s_l_is_key : Stmt := top 27
abbrev N_l_is_key : List Str := ["_law_v"]
theorem sc_l_is_key : FnScope ["_law_v"] ["_law_v"] (defScope s_l_is_key) := ⟨rfl, rfl, rfl, by decide +kernel, rfl, by decide +kernel, by decide +kernel⟩
-- l_is_key: _law_v:0
abbrev s_l_is_set : Stmt := top 28
abbrev N_l_is_set : List Str := ["_law_v", "_law_n", "_law_p"]
theorem sc_l_is_set : FnScope ["_law_v", "_law_n", "_law_p"] ["_law_v"] (defScope s_l_is_set) := ⟨rfl, rfl, rfl, by decide +kernel, rfl, by decide +kernel, by decide +kernel⟩
-- l_is_set: _law_v:0(cell) _law_n:1 _law_p:2
abbrev s_l_odd : Stmt := top 29
abbrev N_l_odd : List Str := ["_law_bag_here", "_law_ks", "_law_more", "_law_fresh", "_law_menu", "_law_near"]
theorem sc_l_odd : FnScope ["_law_bag_here", "_law_ks", "_law_more", "_law_fresh", "_law_menu", "_law_near"] ["_law_bag_here", "_law_ks", "_law_more"] (defScope s_l_odd) := ⟨rfl, rfl, rfl, by decide +kernel, rfl, by decide +kernel, by decide +kernel⟩
-- l_odd: _law_bag_here:0 _law_ks:1 _law_more:2 _law_fresh:3 _law_menu:4 _law_near:5
abbrev s_l_odd_set : Stmt := top 30
abbrev N_l_odd_set : List Str := ["_law_bag_here", "_law_ks", "_law_more", "_law_fresh", "_law_menu", "_law_found"]
theorem sc_l_odd_set : FnScope ["_law_bag_here", "_law_ks", "_law_more", "_law_fresh", "_law_menu", "_law_found"] ["_law_bag_here", "_law_ks", "_law_more"] (defScope s_l_odd_set) := ⟨rfl, rfl, rfl, by decide +kernel, rfl, by decide +kernel, by decide +kernel⟩
-- l_odd_set: _law_bag_here:0 _law_ks:1 _law_more:2 _law_fresh:3 _law_menu:4 _law_found:5
abbrev s_l_make : Stmt := top 31
abbrev N_l_make : List Str := ["_law_v", "_law_p", "_law_q", "_law_way", "e"]
theorem sc_l_make : FnScope ["_law_v", "_law_p", "_law_q", "_law_way", "e"] ["_law_v", "_law_p", "_law_q", "_law_way"] (defScope s_l_make) := ⟨rfl, rfl, rfl, by decide +kernel, rfl, by decide +kernel, by decide +kernel⟩
-- l_make: _law_v:0 _law_p:1 _law_q:2 _law_way:3 e:4
abbrev s_l_make_due : Stmt := top 32
abbrev N_l_make_due : List Str := ["_law_v", "_law_p", "_law_q"]
theorem sc_l_make_due : FnScope ["_law_v", "_law_p", "_law_q"] ["_law_v", "_law_p", "_law_q"] (defScope s_l_make_due) := ⟨rfl, rfl, rfl, by decide +kernel, rfl, by decide +kernel, by decide +kernel⟩
-- l_make_due: _law_v:0 _law_p:1 _law_q:2
abbrev s_l_words : Stmt := top 33
abbrev N_l_words : List Str := ["_law_v", "_law_p", "_law_q", "_law_k"]
theorem sc_l_words : FnScope ["_law_v", "_law_p", "_law_q", "_law_k"] ["_law_v", "_law_p", "_law_q"] (defScope s_l_words) := ⟨rfl, rfl, rfl, by decide +kernel, rfl, by decide +kernel, by decide +kernel⟩
-- l_words: _law_v:0 _law_p:1(cell) _law_q:2(cell) _law_k:3
abbrev s_l_read : Stmt := top 34
abbrev N_l_read : List Str := ["_law_v", "_law_named", "_law_made", "e"]
theorem sc_l_read : FnScope ["_law_v", "_law_named", "_law_made", "e"] ["_law_v", "_law_named"] (defScope s_l_read) := ⟨rfl, rfl, rfl, by decide +kernel, rfl, by decide +kernel, by decide +kernel⟩
-- l_read: _law_v:0 _law_named:1 _law_made:2 e:3
abbrev s_l_read_due : Stmt := top 35
abbrev N_l_read_due : List Str := ["_law_v", "_law_ks", "_law_marks", "_law_word", "_law_figures", "_law_c"]
theorem sc_l_read_due : FnScope ["_law_v", "_law_ks", "_law_marks", "_law_word", "_law_figures", "_law_c"] ["_law_v"] (defScope s_l_read_due) := ⟨rfl, rfl, rfl, by decide +kernel, rfl, by decide +kernel, by decide +kernel⟩
-- l_read_due: _law_v:0 _law_ks:1 _law_marks:2 _law_word:3 _law_figures:4 _law_c:5
abbrev s_l_as : Stmt := top 36
abbrev N_l_as : List Str := ["_law_v", "_law_named", "_law_made", "e"]
theorem sc_l_as : FnScope ["_law_v", "_law_named", "_law_made", "e"] ["_law_v", "_law_named"] (defScope s_l_as) := ⟨rfl, rfl, rfl, by decide +kernel, rfl, by decide +kernel, by decide +kernel⟩
-- l_as: _law_v:0 _law_named:1 _law_made:2 e:3
abbrev s_l_bent : Stmt := top 37
abbrev N_l_bent : List Str := ["_law_bag_here", "_law_v", "_law_spot", "_law_c"]
theorem sc_l_bent : FnScope ["_law_bag_here", "_law_v", "_law_spot", "_law_c"] ["_law_bag_here", "_law_v"] (defScope s_l_bent) := ⟨rfl, rfl, rfl, by decide +kernel, rfl, by decide +kernel, by decide +kernel⟩
-- l_bent: _law_bag_here:0 _law_v:1 _law_spot:2 _law_c:3
abbrev s_l_row_so : Stmt := top 38
abbrev N_l_row_so : List Str := ["_law_bag_here", "_law_made", "_law_v", "_law_p", "_law_q", "_law_text_y", "_law_told", "_law_due", "_law_back", "_law_again", "_law_rest", "_law_k"]
theorem sc_l_row_so : FnScope ["_law_bag_here", "_law_made", "_law_v", "_law_p", "_law_q", "_law_text_y", "_law_told", "_law_due", "_law_back", "_law_again", "_law_rest", "_law_k"] ["_law_bag_here", "_law_made", "_law_v", "_law_p", "_law_q"] (defScope s_l_row_so) := ⟨rfl, rfl, rfl, by decide +kernel, rfl, by decide +kernel, by decide +kernel⟩
-- l_row_so: _law_bag_here:0 _law_made:1 _law_v:2 _law_p:3(cell) _law_q:4(cell) _law_text_y:5 _law_told:6 _law_due:7 _law_back:8 _law_again:9 _law_rest:10 _law_k:11
abbrev s_law : Stmt := top 39
abbrev N_law : List Str := ["_law_script", "_law_bag_here", "_law_turn", "_law_v", "_law_p", "_law_q", "_law_made", "_law_n", "_law_odd_here", "_law_worse", "_law_s", "_law_t", "_law_u", "_law_told", "_law_due", "_law_bent_here", "_law_wrong", "_law_good"]
theorem sc_law : FnScope ["_law_script", "_law_bag_here", "_law_turn", "_law_v", "_law_p", "_law_q", "_law_made", "_law_n", "_law_odd_here", "_law_worse", "_law_s", "_law_t", "_law_u", "_law_told", "_law_due", "_law_bent_here", "_law_wrong", "_law_good"] ["_law_script"] (defScope s_law) := ⟨rfl, rfl, rfl, by decide +kernel, rfl, by decide +kernel, by decide +kernel⟩
-- law: _law_script:0 _law_bag_here:1 _law_turn:2 _law_v:3 _law_p:4 _law_q:5 _law_made:6 _law_n:7 _law_odd_here:8 _law_worse:9 _law_s:10 _law_t:11 _law_u:12 _law_told:13 _law_due:14 _law_bent_here:15 _law_wrong:16 _law_good:17
section
variable {P : Program} {w : World} {K : PySem.W.Frag} {mg : Str → Option Value} {base : Heap}
theorem ok_bag {f : Addr} {fd : FuncData} (F : Fun K "_law_bag" "_law_bag" s_l_bag f fd) (gInt : mg "int" = none) (gLst : mg "list" = none) : FnOk P w K mg base CX0 1 f fd ["_law_script"] (spBagL K) := by
  refine F.ok sc_l_bag (fun vs H Q E h => ?_) (fun cdv A outer s H vs Q E hr h => ?_)
  · obtain ⟨a, ns, rfl, _⟩ := h
    rfl
  · obtain ⟨a, ns, rfl, hS, hlen, k⟩ := h
    refine ⟨_, pss_cons (ps_set (i := 1) sc_l_bag.nd rfl (Or.inl rfl) pe_int)
      (pss_cut (ps_for PassesOwn.never rfl (pi_list (pe_slice sl_list (pv 0) po_none (po_some pe_int))) (pg_name (i := 2) sc_l_bag.nd rfl (Or.inl rfl))
        (pss_one (ps_set (i := 1) sc_l_bag.nd rfl (Or.inl rfl) (pe_op op_mod (pe_callTy call_int1 (by rfl) gInt (by decide +kernel) (pa_cons (pe_op op_add (pe_op op_add (pe_op op_mul (pv 1) pe_int)
          (pe_op op_mul (pe_op op_mod (pe_callTy call_int1 (by rfl) gInt (by decide +kernel) (pa_cons (pv 2) pa_nil)) pe_int) pe_int)) pe_int) pa_nil)) pe_int))))
      (pss_one (ps_ret (pe_lst (pa_cons (pe_callTy call_list_of (by rfl) gLst (by decide +kernel) (pa_cons (pe_slice sl_list (pv 0) po_none (po_some pe_int)) pa_nil))
        (pa_cons pe_int (pa_cons pe_int (pa_cons (pv 1) (pa_cons pe_int pa_nil))))))))), ?_⟩
    have cut63 : cutV (ns.map V.int) none (some 63) = (ns.take 63).map V.int := by
      have e : HT.sIx (ns.map V.int).length (ns.map V.int).length (some 63) = min 63 (ns.map V.int).length := HT.sIx_nat _ _ 63
      unfold cutV
      rw [HT.sIx_none, e, Nat.sub_zero, List.drop_zero, List.map_take, ← List.take_eq_take_min]
    refine ⟨fun σ H' => ∃ (m : Int) (z : Option V), σ = [some (.ref a), some (.int m), z] ∧ Same H H' ∧ 0 ≤ m ∧ m < 2147483648, ?_, ?_⟩
    · refine ⟨_, rfl, _, rfl, a, _, rfl, hS, fun p hp => ?_⟩
      rw [cut63]
      have s1 : Same H (upd H p (.lst ((ns.take 63).map V.int))) := Same.new (Same.refl H) hp
      refine ⟨p, rfl, ⟨_, SqL.of upd_same⟩, for_list (K := K) (a := p) (xs := (ns.take 63).map V.int) (fun i σ H' => ∃ (m : Int) (z : Option V), σ = [some (.ref a), some (.int m), z] ∧ Same (upd H p (.lst ((ns.take 63).map V.int))) H' ∧ 0 ≤ m ∧ m < 2147483648)
        ⟨12039, none, rfl, Same.refl _, by decide, by decide⟩ (fun i σ H' _ ⟨m, z, _, s2, _⟩ => s2.seq (SqL.of upd_same)) ?_ ?_⟩
      · rintro i x σ H' hi ⟨m, z, rfl, s2, h0, h1⟩
        obtain ⟨n, rfl⟩ : ∃ n : Int, x = .int n := by
          rw [List.getElem?_map] at hi
          cases e : (ns.take 63)[i]? with
          | none => rw [e] at hi; cases hi
          | some n => rw [e] at hi; exact ⟨n, (Option.some.inj hi).symm⟩
        refine ⟨_, rfl, _, _, rfl, rfl, Or.inr ⟨by decide, by decide⟩, ?_⟩
        refine ⟨_, rfl, .inl ⟨_, rfl, _, _, rfl, rfl, (by show (0 : Int) < 1000639; decide), _, _, rfl, rfl, Or.inr ⟨by decide, by decide⟩, _, _, rfl, rfl, _, _, rfl, rfl, .inl ⟨_, rfl, _, _, rfl, rfl, (by show (0 : Int) < 2147483579; decide), ?_⟩⟩⟩
        refine ⟨_, _, rfl, s2, Int.emod_nonneg _ (by decide), ?_⟩
        have := Int.emod_lt_of_pos (m * 48271 + n % 1000639 * 883 + 59) (show (0 : Int) < 2147483579 by decide)
        omega
      · rintro σ H' ⟨m, z, rfl, s2, h0, h1⟩
        exact ⟨m, z, rfl, s1.trans s2, h0, h1⟩
    · rintro σ H' ⟨m, z, rfl, s2, h0, h1⟩
      refine ⟨_, rfl, _, rfl, a, _, rfl, s2.seq hS, fun p hp => ?_⟩
      rw [cut63]
      refine ⟨p, _, rfl, .inl (SqL.of upd_same), fun l hl => ?_⟩
      refine ⟨_, rfl, (by show 5 ≤ sizeLine; decide), fun b hb => ?_⟩
      have sp := Same.new s2 (o := .lst ((ns.take 63).map V.int)) hp
      have sl := Same.new sp (o := .lst ((ns.take 63).map V.int)) hl
      have nlb : l ≠ b := ne_of_none upd_same hb
      refine k b l _ (sl.free hb) (sp.free hl) (Same.new sl hb) ⟨ns.take 63, 0, 0, m, 0, upd_same, ?_, nlb, by decide, by decide, h0, h1⟩
      rw [upd_ne nlb, upd_same]
theorem ok_draw {f : Addr} {fd : FuncData} (F : Fun K "_law_draw" "_law_draw" s_l_draw f fd) (gInt : mg "int" = none) (gLen : mg "len" = none) (gAbs : mg "abs" = none) : FnOk P w K mg base CX0 1 f fd ["_law_bag_here", "_law_top"] spDrawL := by
  refine F.ok sc_l_draw (fun vs H Q E h => ?_) (fun cdv A outer s H vs Q E hr h => ?_)
  · obtain ⟨a, l, top, rfl, _⟩ := h
    rfl
  · obtain ⟨b, l, top, rfl, B, t0, t1, k⟩ := h
    have nd := sc_l_draw.nd
    refine ⟨_, pss_cons (ps_asg (pe_op op_add (pe_ix ix_list (pv 0) pe_int (fun _ _ => rfl)) pe_int) (pg_sub (pv 0) pe_int set_list))
      (pss_cut (ps_if (PW.pt (pw_and (pt_cmpR op_eq (pe_ix ix_list (pv 0) pe_int (fun _ _ => rfl)) pe_int (nomark _))
          (pw_and1 (pt_cmpR op_lt (pe_ix ix_list (pv 0) pe_int (fun _ _ => rfl)) (pe_callB call_len_seq (by rfl) gLen PySem.boot_len (pa_cons (pe_ix ix_list (pv 0) pe_int (fun _ _ => rfl)) pa_nil)) (nomark _)))))
        (pss_cons (ps_set (i := 2) nd rfl (Or.inl rfl) (pe_callTy call_int1 (by rfl) gInt (by decide +kernel) (pa_cons (pe_ix ix_list (pe_ix ix_list (pv 0) pe_int (fun _ _ => rfl)) (pe_ix ix_list (pv 0) pe_int (fun _ _ => rfl)) (fun _ _ => rfl)) pa_nil)))
        (pss_cons (ps_asg (pe_op op_add (pe_ix ix_list (pv 0) pe_int (fun _ _ => rfl)) pe_int) (pg_sub (pv 0) pe_int set_list))
        (pss_one (ps_if (pt_cmpR op_ge (pe_callB call_abs (by rfl) gAbs (by decide +kernel) (pa_cons (pv 2) pa_nil)) (pe_op op_pow pe_int pe_int) (nomark _))
          (pss_one (ps_asg (pe_callB call_abs (by rfl) gAbs (by decide +kernel) (pa_cons (pv 2) pa_nil)) (pg_sub (pv 0) pe_int set_list)))
          (pss_one (ps_asg (pe_op op_mod (pe_callTy call_int1 (by rfl) gInt (by decide +kernel) (pa_cons (pe_op op_add (pe_op op_add (pe_op op_mul (pe_ix ix_list (pv 0) pe_int (fun _ _ => rfl)) pe_int)
            (pe_op op_mul (pe_op op_mod (pe_callTy call_int1 (by rfl) gInt (by decide +kernel) (pa_cons (pv 2) pa_nil)) pe_int) pe_int)) pe_int) pa_nil)) pe_int) (pg_sub (pv 0) pe_int set_list)))))))
        pss_nil)
      (pss_cons (ps_if (pt_cmpR op_gt (pe_ix ix_list (pv 0) pe_int (fun _ _ => rfl)) pe_int (nomark _))
        (pss_cons (ps_set (i := 3) nd rfl (Or.inl rfl) (pe_op op_mod (pe_callTy call_int1 (by rfl) gInt (by decide +kernel) (pa_cons (pe_ix ix_list (pv 0) pe_int (fun _ _ => rfl)) pa_nil)) (pv 1)))
        (pss_cons (ps_asg (pe_op op_fdivW (pe_ix ix_list (pv 0) pe_int (fun _ _ => rfl)) (pv 1)) (pg_sub (pv 0) pe_int set_list))
        (pss_one (ps_ret (pv 3))))) pss_nil)
      (pss_cons (ps_set (i := 4) nd rfl (Or.inl rfl) (pe_callTy call_int1 (by rfl) gInt (by decide +kernel) (pa_cons (pe_ix ix_list (pv 0) pe_int (fun _ _ => rfl)) pa_nil)))
      (pss_cons (ps_asg (pe_op op_mod (pe_callTy call_int1 (by rfl) gInt (by decide +kernel) (pa_cons (pe_op op_add (pe_op op_add (pe_op op_add (pe_op op_pow (pv 4) pe_int) (pe_op op_mul (pv 4) pe_int))
            (pe_op op_mul (pe_ix ix_list (pv 0) pe_int (fun _ _ => rfl)) pe_int)) pe_int) pa_nil)) pe_int) (pg_sub (pv 0) pe_int set_list))
      (pss_one (ps_ret (pe_op op_mod (pe_callTy call_int1 (by rfl) gInt (by decide +kernel) (pa_cons (pe_op op_add (pe_op op_fdiv (pe_ix ix_list (pv 0) pe_int (fun _ _ => rfl)) pe_int)
            (pe_op op_mul (pe_op op_mod (pe_callTy call_int1 (by rfl) gInt (by decide +kernel) (pa_cons (pe_ix ix_list (pv 0) pe_int (fun _ _ => rfl)) pa_nil)) pe_int) pe_int)) pa_nil)) (pv 1)))))))), ?_⟩
    obtain ⟨ns, i, g, m, c, hb, hl, nlb, i0, g0, m0, m1⟩ := B
    refine ⟨_, rfl, b, _, _, _, rfl, rfl, SqL.of hb, rfl, _, _, rfl, rfl, _, rfl, b, _, _, _, rfl, rfl, hb, rfl, ?_⟩
    -- the first draws of a cell
    have hl1 : ∀ o, upd H b o l = some (.lst (ns.map V.int)) := fun o => by rw [upd_ne nlb]; exact hl
    have up2 : ∀ (H' : Hp) (o : HO), Keep b H H' → (∀ c, H c = none → H' c = none) → Keep b H (upd H' b o) ∧ (∀ c, H c = none → upd H' b o c = none) := fun H' o kk fr =>
      ⟨kk.upd, fun c hc => by rw [upd_ne (fun e => by rw [e, hb] at hc; cases hc)]; exact fr c hc⟩
    obtain ⟨kk0, fr0⟩ := up2 H (HO.lst [.ref l, .int i, .int g, .int m, .int (c + 1)]) (Keep.refl b H) (fun c hc => hc)
    refine ⟨fun σ H' => ∃ (i g m : Int) (z : Option V), σ = [some (.ref b), some (.int top), z, none, none] ∧ H' b = some (.lst [.ref l, .int i, .int g, .int m, .int (c + 1)]) ∧ 0 ≤ i ∧ 0 ≤ g ∧ 0 ≤ m ∧ m < 2147483648 ∧ Keep b H H' ∧ (∀ c, H c = none → H' c = none), ?_, ?_⟩
    · refine ⟨_, rfl, b, _, _, _, rfl, rfl, SqL.of upd_same, rfl, rfl, _, rfl, ?_⟩
      refine ite2 (fun hg => ?_) (fun hg => ?_)
      · refine ⟨_, rfl, b, _, _, _, rfl, rfl, SqL.of upd_same, rfl, _, rfl, b, _, _, _, rfl, rfl, SqL.of upd_same, rfl, _, _, rfl, .inl (SqL.of (hl1 _)), _, _, rfl, rfl, _, rfl, ?_⟩
        refine ite2 (fun hi => ?_) (fun hi => ?_)
        · have hi' : i < ((ns.map V.int).length : Int) := of_decide_eq_true hi
          rw [List.length_map] at hi'
          obtain ⟨n, hn⟩ : ∃ n, ns[i.toNat]? = some n := ⟨ns[i.toNat]'(by omega), List.getElem?_eq_getElem (by omega)⟩
          have hat : atI (ns.map V.int) i = some (.int n) := at_of (j := i.toNat) (by omega) (by rw [List.getElem?_map, hn]; rfl)
          refine ⟨_, rfl, b, _, _, _, rfl, rfl, SqL.of upd_same, rfl, _, rfl, b, _, _, _, rfl, rfl, SqL.of upd_same, rfl, l, _, _, _, rfl, rfl, SqL.of (hl1 _), hat, .inl ⟨_, rfl, ?_⟩⟩
          refine ⟨_, rfl, b, _, _, _, rfl, rfl, SqL.of upd_same, rfl, _, _, rfl, rfl, _, rfl, b, _, _, _, rfl, rfl, upd_same, rfl, ?_⟩
          obtain ⟨kk1, fr1⟩ := up2 _ (HO.lst [.ref l, .int (i + 1), .int g, .int m, .int (c + 1)]) kk0 fr0
          refine ⟨_, rfl, _, rfl, _, _, rfl, rfl, ⟨by decide, by decide, by decide⟩, _, _, rfl, rfl, _, rfl, ?_⟩
          refine ite2 (fun hbig => ?_) (fun hbig => ?_)
          · refine ⟨_, rfl, _, rfl, _, rfl, b, _, _, _, rfl, rfl, upd_same, rfl, ?_⟩
            obtain ⟨kk2, fr2⟩ := up2 _ (HO.lst [.ref l, .int (i + 1), .int (if n < 0 then -n else n), .int m, .int (c + 1)]) kk1 fr1
            refine ⟨i + 1, if n < 0 then -n else n, m, _, rfl, upd_same, by omega, ?_, m0, m1, kk2, fr2⟩
            split <;> omega
          · refine ⟨_, rfl, b, _, _, _, rfl, rfl, SqL.of upd_same, rfl, _, _, rfl, rfl, Or.inr ⟨by decide, by decide⟩, _, rfl, .inl ⟨_, rfl, _, _, rfl, rfl, (by show (0 : Int) < 1000639; decide), _, _, rfl, rfl, Or.inr ⟨by decide, by decide⟩,
              _, _, rfl, rfl, _, _, rfl, rfl, .inl ⟨_, rfl, _, _, rfl, rfl, (by show (0 : Int) < 2147483587; decide), _, rfl, b, _, _, _, rfl, rfl, upd_same, rfl, ?_⟩⟩⟩
            obtain ⟨kk2, fr2⟩ := up2 _ (HO.lst [.ref l, .int (i + 1), .int g, .int ((m * 43889 + n % 1000639 * 773 + 31) % 2147483587), .int (c + 1)]) kk1 fr1
            have e1 := Int.emod_nonneg (m * 43889 + n % 1000639 * 773 + 31) (show (2147483587 : Int) ≠ 0 by decide)
            have e2 := Int.emod_lt_of_pos (m * 43889 + n % 1000639 * 773 + 31) (show (0 : Int) < 2147483587 by decide)
            exact ⟨i + 1, g, _, _, rfl, upd_same, by omega, g0, e1, by omega, kk2, fr2⟩
        · exact ⟨i, g, m, _, rfl, upd_same, i0, g0, m0, m1, kk0, fr0⟩
      · refine iteF ?_
        exact ⟨i, g, m, _, rfl, upd_same, i0, g0, m0, m1, kk0, fr0⟩
    · rintro σ H1 ⟨i, g, m, z, rfl, hb1, i0, g0, m0, m1, kk, fr⟩
      have hl2 : H1 l = some (.lst (ns.map V.int)) := kk _ _ hl nlb
      refine ⟨_, rfl, b, _, _, _, rfl, rfl, SqL.of hb1, rfl, _, _, rfl, rfl, _, rfl, ?_⟩
      refine ite2 (fun hg => ?_) (fun hg => ?_)
      · refine ⟨_, rfl, b, _, _, _, rfl, rfl, SqL.of hb1, rfl, .inl ⟨_, rfl, _, rfl, _, _, rfl, rfl, t0, ?_⟩⟩
        refine ⟨_, rfl, b, _, _, _, rfl, rfl, SqL.of hb1, rfl, _, rfl, _, _, rfl, rfl, ⟨t0, t1⟩, _, rfl, b, _, _, _, rfl, rfl, hb1, rfl, ?_⟩
        refine ⟨_, rfl, ?_⟩
        obtain ⟨kk2, fr2⟩ := up2 _ (HO.lst [.ref l, .int i, .int (g / top), .int m, .int (c + 1)]) kk fr
        refine k (g % top) _ (Int.emod_nonneg _ (by omega)) (Int.emod_lt_of_pos _ t0) ⟨ns, i, g / top, m, c + 1, upd_same, by rw [upd_ne nlb]; exact hl2, nlb, i0, Int.ediv_nonneg g0 (by omega), m0, m1⟩ kk2 fr2
      · refine ⟨_, rfl, b, _, _, _, rfl, rfl, SqL.of hb1, rfl, .inl ⟨_, rfl, ?_⟩⟩
        refine ⟨_, rfl, _, _, rfl, rfl, ⟨by decide, by decide, by omega⟩, _, rfl, _, _, rfl, rfl, Or.inr ⟨by decide, by decide⟩, _, _, rfl, rfl, _, rfl, b, _, _, _, rfl, rfl, SqL.of hb1, rfl, _, _, rfl, rfl, Or.inr ⟨by decide, by decide⟩,
          _, _, rfl, rfl, _, _, rfl, rfl, .inl ⟨_, rfl, _, _, rfl, rfl, (by show (0 : Int) < 2147483549; decide), _, rfl, b, _, _, _, rfl, rfl, hb1, rfl, ?_⟩⟩
        have e1 := Int.emod_nonneg (m ^ (3 : Int).toNat + m * 47111 + (c + 1) * 110323 + 60089) (show (2147483549 : Int) ≠ 0 by decide)
        have e2 := Int.emod_lt_of_pos (m ^ (3 : Int).toNat + m * 47111 + (c + 1) * 110323 + 60089) (show (0 : Int) < 2147483549 by decide)
        obtain ⟨kk2, fr2⟩ := up2 _ (HO.lst [.ref l, .int i, .int g, .int ((m ^ (3 : Int).toNat + m * 47111 + (c + 1) * 110323 + 60089) % 2147483549), .int (c + 1)]) kk fr
        refine ⟨_, rfl, b, _, _, _, rfl, rfl, SqL.of upd_same, rfl, _, _, rfl, rfl, ⟨by decide, by decide⟩, _, rfl, b, _, _, _, rfl, rfl, SqL.of upd_same, rfl, .inl ⟨_, rfl, _, _, rfl, rfl, (by show (0 : Int) < 8017; decide), _, _, rfl, rfl, Or.inr ⟨by decide, by decide⟩,
          _, _, rfl, rfl, .inl ⟨_, rfl, _, rfl, _, _, rfl, rfl, t0, ?_⟩⟩⟩
        refine k _ _ (Int.emod_nonneg _ (by omega)) (Int.emod_lt_of_pos _ t0) ⟨ns, i, g, _, c + 1, ?_, by rw [upd_ne nlb]; exact hl2, nlb, i0, g0, e1, by omega⟩ kk2 fr2
        exact upd_same
theorem log2_small {n : Nat} (h : n < 2 ^ 62) : n.log2 < 9000 := by
  by_cases h0 : n = 0
  · subst h0; decide
  · exact Nat.lt_of_lt_of_le ((Nat.log2_lt h0).mpr h) (by decide)
theorem ok_of {f fD : Addr} {fd fdD : FuncData} (F : Fun K "_law_of" "_law_of" s_l_of f fd) (gLen : mg "len" = none) (gD : mg "_law_draw" = some (.ref fD)) (FD : FnOk P w K mg base CX0 1 fD fdD ["_law_bag_here", "_law_top"] spDrawL)
    (kD : PySem.W.keepIn K (.ref fD) = true) (bD : Binds K fdD ["_law_bag_here", "_law_top"] []) : FnOk P w K mg base CX0 2 f fd ["_law_bag_here", "_law_some"] (spOfL K) := by
  refine F.ok sc_l_of (fun vs H Q E h => ?_) (fun cdv A outer s H vs Q E hr h => ?_)
  · obtain ⟨a, l, p, xs, rfl, _⟩ := h
    rfl
  · obtain ⟨b, l, p, xs, rfl, B, npb, hs, h0, h1, k⟩ := h
    refine ⟨_, pss_one (ps_ret (pe_ix ix_seq (pv 1) (pe_call FD hr (by rfl) gD kD bD .nil pass0 (pa_cons (pv 0) (pa_cons (pe_callB call_len_seq (by rfl) gLen PySem.boot_len (pa_cons (pv 1) pa_nil)) pa_nil))) (fun _ _ => rfl))), ?_⟩
    refine ⟨_, rfl, _, rfl, _, rfl, p, xs, rfl, hs, b, l, (xs.length : Int), rfl, B, by omega, ?_, fun d H' d0 d1 B' kk fr => ?_⟩
    · rw [Int.natAbs_natCast]
      exact log2_small h1
    · obtain ⟨v, hv⟩ : ∃ v, xs[d.toNat]? = some v := ⟨xs[d.toNat]'(by omega), List.getElem?_eq_getElem (by omega)⟩
      have hat : atI xs d = some v := at_of (j := d.toNat) (by omega) hv
      have hq : Q v H' := k v H' (List.mem_of_getElem? hv) B' kk fr
      rcases hs with hs | hs
      · exact .inl ⟨p, xs, d, v, rfl, rfl, seqL_keep kk npb hs, hat, hq⟩
      · exact .inr (.inl ⟨p, xs, d, v, rfl, rfl, seqT_keep kk npb hs, hat, hq⟩)
end
end K03

end

section
set_option Elab.async false
set_option linter.all false
set_option maxRecDepth 100000
set_option maxHeartbeats 4000000
/-! key sets: small facts about lists of whole numbers. -/
namespace SB
open PySem PySem.Spec PyProof.Rows L2
theorem flat_ints (ks : List Int) : (ks.map V.int).all flatV = true := by
  induction ks with
  | nil => rfl
  | cons a r ih => rw [List.map_cons, List.all_cons, ih]; rfl
theorem inV_ints (z : Int) : ∀ ks : List Int, inV (.int z) (ks.map V.int) = decide (z ∈ ks)
  | [] => by simp [inV]
  | a :: r => by
    show (eqV (.int a) (.int z) || inV (.int z) (r.map V.int)) = decide (z ∈ a :: r)
    rw [inV_ints z r]
    show ((a == z) || decide (z ∈ r)) = decide (z ∈ a :: r)
    by_cases h : z = a
    · subst h; simp
    · have h' : (a == z) = false := by simpa using fun e => h e.symm
      rw [h', Bool.false_or]
      simp [h]
theorem mem_ints {ks : List Int} {v : V} (h : v ∈ ks.map V.int) : ∃ k, v = .int k ∧ k ∈ ks := by
  obtain ⟨k, hk, rfl⟩ := List.mem_map.mp h
  exact ⟨k, rfl, hk⟩
/-- different items within a list are no more than its items -/
theorem nodup_le : ∀ (l1 l2 : List Int), l1.Nodup → (∀ x ∈ l1, x ∈ l2) → l1.length ≤ l2.length
  | [], _, _, _ => Nat.zero_le _
  | x :: l1, l2, hn, h => by
    have hx : x ∈ l2 := h x List.mem_cons_self
    have hn' := List.nodup_cons.mp hn
    have ih := nodup_le l1 (l2.erase x) hn'.2 fun y hy => by
      have ne : y ≠ x := fun e => hn'.1 (e ▸ hy)
      exact (List.mem_erase_of_ne ne).mpr (h y (List.mem_cons_of_mem _ hy))
    rw [List.length_erase_of_mem hx] at ih
    have : 0 < l2.length := List.length_pos_of_mem hx
    show l1.length + 1 ≤ l2.length
    omega
theorem mod_inj {w d : Int} (hw : 0 < w) {i j : Nat} (hj : (j : Int) < w) (hij : i ≤ j) (h : (d + (j : Int)) % w = (d + (i : Int)) % w) : i = j := by
  have h1 := Int.emod_eq_emod_iff_emod_sub_eq_zero.mp h
  have e : d + (j : Int) - (d + (i : Int)) = ((j - i : Nat) : Int) := by omega
  rw [e] at h1
  rw [Int.emod_eq_of_lt (by omega) (by omega)] at h1
  omega
/-- so many places in a row, round about -/
theorem mod_list {w d low : Int} (hw : 0 < w) : ∀ n : Nat, (n : Int) ≤ w → (((List.range n).map fun j : Nat => low + (d + (j : Int)) % w)).Nodup
  | 0, _ => by simp
  | n + 1, h => by
    rw [List.range_succ, List.map_append]
    refine List.nodup_append.mpr ⟨mod_list hw n (by omega), by simp, fun a ha b hb e => ?_⟩
    obtain ⟨j, hj, rfl⟩ := List.mem_map.mp ha
    have hj' : j < n := List.mem_range.mp hj
    simp only [List.map_cons, List.map_nil, List.mem_singleton] at hb
    subst hb
    have := mod_inj (w := w) (d := d) hw (i := j) (j := n) (by omega) (by omega) (by omega)
    omega
/-- a key set -/
structure KSet (ks : List Int) : Prop where
  up : ks.Pairwise (· < ·)
  lo : ∀ k ∈ ks, 0 ≤ k
  hi : ∀ k ∈ ks, k ≤ 999
theorem kset_sort {fs ks : List Int} (hp : ks.Perm fs) (hs : ks.Pairwise (· ≤ ·)) (hn : fs.Nodup) (h0 : ∀ k ∈ fs, 0 ≤ k) (h1 : ∀ k ∈ fs, k ≤ 999) : KSet ks where
  up := by
    have hn' : ks.Nodup := hp.symm.nodup hn
    exact (hs.and hn').imp fun ⟨a, b⟩ => by omega
  lo k h := h0 k (hp.mem_iff.mp h)
  hi k h := h1 k (hp.mem_iff.mp h)
end SB

end

section
set_option Elab.async false
set_option linter.all false
set_option maxRecDepth 100000
set_option maxHeartbeats 4000000
namespace K03
open PySem L2 SB
/-- a key that may be strange to a key set -/
def spStr (K : PySem.W.Frag) : Sp := fun vs H Q _ => ∃ (b l p : Addr) (ks : List Int), vs = [.ref b, .ref p] ∧ BagL H b l ∧ p ≠ b ∧ SqT K H p (ks.map V.int) ∧ ks.length ≤ 1000 ∧ (∀ k ∈ ks, 0 ≤ k ∧ k ≤ 999) ∧
  ∀ (k : Int) H', 0 ≤ k → k ≤ 999 → BagL H' b l → Keep b H H' → Q (.int k) H'
/-- a key set of so many keys -/
def spKeys (K : PySem.W.Frag) : Sp := fun vs H Q _ => ∃ (b l : Addr) (n : Nat), vs = [.ref b, .int n] ∧ BagL H b l ∧ n ≤ 60 ∧
  ∀ p ks H', KSet ks → ks.length = n → H p = none → H' p = some (.tup (ks.map V.int)) → BagL H' b l → Keep b H H' → Q (.ref p) H'
section
variable {P : Program} {w : World} {K : PySem.W.Frag} {mg : Str → Option Value} {base : Heap}
theorem ok_stranger {f fD fO : Addr} {fd fdD fdO : FuncData} (F : Fun K "_law_stranger" "_law_stranger" s_l_stranger f fd) (gInt : mg "int" = none) (gLen : mg "len" = none) (gLst : mg "list" = none) (gRng : mg "range" = none)
    (gD : mg "_law_draw" = some (.ref fD)) (FD : FnOk P w K mg base CX0 1 fD fdD ["_law_bag_here", "_law_top"] spDrawL) (kD : PySem.W.keepIn K (.ref fD) = true) (bD : Binds K fdD ["_law_bag_here", "_law_top"] [])
    (gO : mg "_law_of" = some (.ref fO)) (FO : FnOk P w K mg base CX0 2 fO fdO ["_law_bag_here", "_law_some"] (spOfL K)) (kO : PySem.W.keepIn K (.ref fO) = true) (bO : Binds K fdO ["_law_bag_here", "_law_some"] []) :
    FnOk P w K mg base CX0 3 f fd ["_law_bag_here", "_law_ks"] (spStr K) := by
  refine F.ok sc_l_stranger (fun vs H Q E h => ?_) (fun cdv A outer s H vs Q E hr h => ?_)
  · obtain ⟨b, l, p, xs, rfl, _⟩ := h
    rfl
  · obtain ⟨b, l, p, ks, rfl, B, npb, hs, hl, hk, k⟩ := h
    have nd := sc_l_stranger.nd
    refine ⟨_, pss_cons (ps_set (i := 2) nd rfl (Or.inl rfl) (pe_call FO (hr.mono (by decide)) (by rfl) gO kO bO .nil pass0 (pa_cons (pv 0) (pa_cons (pe_op op_cat (pe_callTy call_list_of (by rfl) gLst (by decide +kernel) (pa_cons (pv 1) pa_nil))
        (pe_lst (pa_cons pe_int (pa_cons pe_int (pa_cons (pe_call FD (hr.mono (by decide)) (by rfl) gD kD bD .nil pass0 (pa_cons (pv 0) (pa_cons pe_int pa_nil))) pa_nil))))) pa_nil))))
      (pss_cons (ps_for PassesOwn.never rfl (pi_range1 (by rfl) gRng (pa_cons (pe_op op_add (pe_callB call_len_seq (by rfl) gLen PySem.boot_len (pa_cons (pv 1) pa_nil)) pe_int) pa_nil)) (pg_name (i := 3) nd rfl (Or.inl rfl))
        (pss_cons (ps_if (pt_cmpR op_notIn_seq (pv 2) (pv 1) (by rfl)) (pss_one ps_break) pss_nil)
        (pss_one (ps_set (i := 2) nd rfl (Or.inl rfl) (pe_op op_mod (pe_callTy call_int1 (by rfl) gInt (by decide +kernel) (pa_cons (pe_op op_add (pv 2) pe_int) pa_nil)) pe_int)))))
      (pss_one (ps_ret (pv 2)))), ?_⟩
    refine ⟨_, rfl, _, rfl, p, _, rfl, .inr hs, fun q1 hq1 => ?_⟩
    have n1 := B.ne hq1
    refine ⟨_, rfl, b, l, _, rfl, B.new hq1, by decide, by decide, fun d H1 d0 d1 B1 k1 _ => ?_⟩
    refine ⟨(by show 3 ≤ sizeLine; decide), fun q2 hq2 => ?_⟩
    have e1 : upd H1 q2 (.lst [.int 0, .int 999, .int d]) q1 = some (.lst (ks.map V.int)) := by
      have := k1 _ _ (upd_same (H := H) (a := q1) (o := .lst (ks.map V.int))) n1
      rw [upd_ne (ne_of_none this hq2)]
      exact this
    have K2 : Keep b H (upd H1 q2 (.lst [.int 0, .int 999, .int d])) := ((Keep.new (Keep.refl b H) hq1).trans k1).new hq2
    refine ⟨q1, q2, _, _, rfl, rfl, e1, upd_same, (by rw [List.length_map, sizeLine_eq]; show ks.length + 3 ≤ _; omega), fun q3 hq3 => ?_⟩
    have B3 := (B1.new (o := .lst [.int 0, .int 999, .int d]) hq2).new (o := .lst (ks.map V.int ++ [.int 0, .int 999, .int d])) hq3
    have K3 := K2.new (o := .lst (ks.map V.int ++ [.int 0, .int 999, .int d])) hq3
    refine of_seqL (E := E0) B3 ((B1.new hq2).ne hq3) (.inl (SqL.of upd_same)) (by rw [List.length_append]; show 0 < _ + 3; omega) (by rw [List.length_append, List.length_map]; show _ + 3 < _; omega) fun v H4 hv B4 k4 _ => ?_
    have K4 := K3.trans k4
    obtain ⟨k0, rfl, a0, a1⟩ : ∃ k0 : Int, v = .int k0 ∧ 0 ≤ k0 ∧ k0 ≤ 999 := by
      rcases List.mem_append.mp hv with hv | hv
      · obtain ⟨z, rfl, hz⟩ := mem_ints hv
        exact ⟨z, rfl, hk z hz⟩
      · simp only [List.mem_cons, List.not_mem_nil, or_false] at hv
        rcases hv with rfl | rfl | rfl
        · exact ⟨0, rfl, by decide, by decide⟩
        · exact ⟨999, rfl, by decide, by decide⟩
        · exact ⟨d, rfl, d0, by omega⟩
    have hs4 : ∀ {H' : Hp}, Keep b H H' → SqT K H' p (ks.map V.int) := fun kk => seqT_keep kk npb hs
    refine ⟨_, rfl, p, _, rfl, .inr (hs4 K4), _, _, rfl, rfl, _, rfl, (by rw [List.length_map]; omega), (by rw [List.length_map]; omega), ?_⟩
    refine for_range (n := ((((ks.map V.int).length : Nat) : Int) + 1).toNat) (fun i σ H' => ∃ k1 z, σ = [some (.ref b), some (.ref p), some (.int k1), z] ∧ 0 ≤ k1 ∧ k1 ≤ 999 ∧ BagL H' b l ∧ Keep b H H')
      ⟨k0, none, rfl, a0, a1, B4, K4⟩ ?_ ?_
    · rintro i σ H' hi ⟨k1, z, rfl, c0, c1, B', kk⟩
      refine ⟨_, rfl, _, rfl, p, _, rfl, .inr (hs4 kk), rfl, flat_ints ks, _, rfl, ite2 (fun h => ?_) (fun h => ?_)⟩
      · exact ⟨_, rfl, k k1 H' c0 c1 B' kk⟩
      · refine ⟨_, rfl, _, _, rfl, rfl, .inl ⟨_, rfl, _, _, rfl, rfl, (by show (0 : Int) < 1000; decide), ?_⟩⟩
        refine ⟨_, _, rfl, Int.emod_nonneg _ (by decide), ?_, B', kk⟩
        have := Int.emod_lt_of_pos (k1 + 1) (show (0 : Int) < 1000 by decide)
        omega
    · rintro σ H' ⟨k1, z, rfl, c0, c1, B', kk⟩
      exact ⟨_, rfl, k k1 H' c0 c1 B' kk⟩
theorem ok_keys {f fD fO : Addr} {fd fdD fdO : FuncData} (F : Fun K "_law_keys" "_law_keys" s_l_keys f fd) (gInt : mg "int" = none) (gMax : mg "max" = none) (gTup : mg "tuple" = none) (gSrt : mg "sorted" = none) (gRng : mg "range" = none)
    (gD : mg "_law_draw" = some (.ref fD)) (FD : FnOk P w K mg base CX0 1 fD fdD ["_law_bag_here", "_law_top"] spDrawL) (kD : PySem.W.keepIn K (.ref fD) = true) (bD : Binds K fdD ["_law_bag_here", "_law_top"] [])
    (gO : mg "_law_of" = some (.ref fO)) (FO : FnOk P w K mg base CX0 2 fO fdO ["_law_bag_here", "_law_some"] (spOfL K)) (kO : PySem.W.keepIn K (.ref fO) = true) (bO : Binds K fdO ["_law_bag_here", "_law_some"] []) :
    FnOk P w K mg base CX0 3 f fd ["_law_bag_here", "_law_many"] (spKeys K) := by
  refine F.ok sc_l_keys (fun vs H Q E h => ?_) (fun cdv A outer s H vs Q E hr h => ?_)
  · obtain ⟨b, l, n, rfl, _⟩ := h
    rfl
  · obtain ⟨b, l, n, rfl, B, hn, k⟩ := h
    have nd := sc_l_keys.nd
    have hr2 : Room 2 _ := hr.mono (by decide)
    have hr1 : Room 1 _ := hr.mono (by decide)
    refine ⟨_, pss_cut (ps_set (i := 2) nd rfl (Or.inl rfl) (pe_callB (call_max2 rfl) (by rfl) gMax (by decide +kernel) (pa_cons pe_int (pa_cons (pe_call FO hr2 (by rfl) gO kO bO .nil pass0 (pa_cons (pv 0) (pa_cons (pe_lst (pa_cons (pv 1) (pa_cons (pe_op op_add (pv 1) pe_int) (pa_cons (pe_op op_add (pv 1) pe_int) (pa_cons pe_int (pa_cons pe_int pa_nil)))))) pa_nil))) pa_nil))))
      (pss_cut (ps_set (i := 3) nd rfl (Or.inl rfl) (pe_call FO hr2 (by rfl) gO kO bO .nil pass0 (pa_cons (pv 0) (pa_cons (pe_lst (pa_cons pe_int (pa_cons (pe_op op_sub pe_int (pv 2)) (pa_cons (pe_call FD hr1 (by rfl) gD kD bD .nil pass0 (pa_cons (pv 0) (pa_cons (pe_op op_sub pe_int (pv 2)) pa_nil))) pa_nil)))) pa_nil))))
      (pss_cons (ps_set (i := 4) nd rfl (Or.inl rfl) (pe_lst pa_nil))
      (pss_cons (ps_for PassesOwn.never rfl (pi_range1 (by rfl) gRng (pa_cons (pv 1) pa_nil)) (pg_name (i := 5) nd rfl (Or.inl rfl))
        (pss_cons (ps_set (i := 6) nd rfl (Or.inl rfl) (pe_call FD hr1 (by rfl) gD kD bD .nil pass0 (pa_cons (pv 0) (pa_cons (pv 2) pa_nil))))
        (pss_cut (ps_for PassesOwn.never rfl (pi_range1 (by rfl) gRng (pa_cons (pv 1) pa_nil)) (pg_name (i := 7) nd rfl (Or.inl rfl))
          (pss_cons (ps_if (pt_cmpR op_notIn_seq (pe_op op_add (pv 3) (pv 6)) (pv 4) (by rfl)) (pss_one ps_break) pss_nil)
          (pss_one (ps_set (i := 6) nd rfl (Or.inl rfl) (pe_op op_mod (pe_callTy call_int1 (by rfl) gInt (by decide +kernel) (pa_cons (pe_op op_add (pv 6) pe_int) pa_nil)) (pv 2))))))
        (pss_one (ps_expr (pe_bm PySem.F.plainAttrs_list PySem.F.slot_list_append PySem.F.type_list_append mt_append (pv 4) (pa_cons (pe_op op_add (pv 3) (pv 6)) pa_nil)))))))
      (pss_one (ps_ret (pe_callTy call_tuple_of (by rfl) gTup (by decide +kernel) (pa_cons (pe_callB cr_sorted (by rfl) gSrt (by decide +kernel) (pa_cons (pv 4) pa_nil)) pa_nil))))))), ?_⟩
    refine ⟨fun σ H' => ∃ wd : Int, σ = [some (.ref b), some (.int n), some (.int wd), none, none, none, none, none] ∧ 1 ≤ wd ∧ wd ≤ 1000 ∧ (n : Int) ≤ wd ∧ BagL H' b l ∧ Keep b H H', ?_, ?_⟩
    · refine ⟨_, rfl, _, rfl, _, rfl, _, _, rfl, rfl, _, rfl, _, _, rfl, rfl, (by show 5 ≤ sizeLine; decide), fun q1 hq1 => ?_⟩
      refine of_seqL (E := E0) (B.new hq1) (B.ne hq1) (.inl (SqL.of upd_same)) (by show 0 < 5; decide) (by show 5 < 2 ^ 62; decide) fun v H1 hv B1 k1 _ => ?_
      obtain ⟨z, rfl, z0, z1⟩ : ∃ z : Int, v = .int z ∧ (n : Int) ≤ z ∧ z ≤ 1000 := by
        simp only [List.mem_cons, List.not_mem_nil, or_false] at hv
        rcases hv with rfl | rfl | rfl | rfl | rfl
        · exact ⟨_, rfl, by omega, by omega⟩
        · exact ⟨_, rfl, by omega, by omega⟩
        · exact ⟨_, rfl, by omega, by omega⟩
        · exact ⟨_, rfl, by omega, by omega⟩
        · exact ⟨_, rfl, by omega, by omega⟩
      refine ⟨_, _, rfl, _, rfl, ?_, ?_, ?_, B1, (Keep.new (Keep.refl b H) hq1).trans k1⟩ <;> (split <;> omega)
    · rintro σ H1 ⟨wd, rfl, w1, w2, w3, B1, K1⟩
      refine ⟨fun σ H' => ∃ lo : Int, σ = [some (.ref b), some (.int n), some (.int wd), some (.int lo), none, none, none, none] ∧ 0 ≤ lo ∧ lo + wd ≤ 1000 ∧ BagL H' b l ∧ Keep b H H', ?_, ?_⟩
      · refine ⟨_, rfl, _, rfl, _, _, rfl, rfl, _, rfl, _, rfl, _, _, rfl, rfl, b, l, _, rfl, B1, by omega, log_small (by omega) (by omega), fun d H2 d0 d1 B2 k2 _ => ?_⟩
        refine ⟨(by show 3 ≤ sizeLine; decide), fun q1 hq1 => ?_⟩
        refine of_seqL (E := E0) (B2.new hq1) (B2.ne hq1) (.inl (SqL.of upd_same)) (by show 0 < 3; decide) (by show 3 < 2 ^ 62; decide) fun v H3 hv B3 k3 _ => ?_
        obtain ⟨z, rfl, z0, z1⟩ : ∃ z : Int, v = .int z ∧ 0 ≤ z ∧ z + wd ≤ 1000 := by
          simp only [List.mem_cons, List.not_mem_nil, or_false] at hv
          rcases hv with rfl | rfl | rfl
          · exact ⟨_, rfl, by omega, by omega⟩
          · exact ⟨_, rfl, by omega, by omega⟩
          · exact ⟨_, rfl, by omega, by omega⟩
        exact ⟨z, rfl, z0, z1, B3, ((K1.trans k2).new hq1).trans k3⟩
      · rintro σ H2 ⟨lo, rfl, l0, l1, B2, K2⟩
        have wn : ∀ {x y : Int}, x % wd < wd := fun {x y} => Int.emod_lt_of_pos x (by omega)
        refine ⟨(by decide), fun D hD => ?_⟩
        have nb := B2.ne hD
        have nl := B2.nl hD
        have hDH : H D = none := by
          cases e : H D with
          | none => rfl
          | some o => rw [K2 _ _ e nb] at hD; cases hD
        refine ⟨_, rfl, _, rfl, by omega, by omega, ?_⟩
        refine for_range (n := n) (fun i σ H' => ∃ (fs : List Int) (z5 z6 z7 : Option V), σ = [some (.ref b), some (.int n), some (.int wd), some (.int lo), some (.ref D), z5, z6, z7] ∧ fs.length = i ∧ fs.Nodup ∧ (∀ x ∈ fs, lo ≤ x ∧ x < lo + wd) ∧ H' D = some (.lst (fs.map V.int)) ∧ BagL H' b l ∧ Keep b H H')
          ⟨[], none, none, none, rfl, rfl, List.nodup_nil, (fun x hx => by cases hx), upd_same, B2.new hD, K2.new hD⟩ ?_ ?_
        · rintro i σ H' hi ⟨fs, z5, z6, z7, rfl, hfl, hfn, hfr, hf, B', kk⟩
          refine ⟨_, rfl, _, rfl, b, l, _, rfl, B', by omega, log_small (by omega) (by omega), fun d0 H3 e0 e1 B3 k3 _ => ?_⟩
          have hf3 := k3 _ _ hf nb
          refine ⟨fun σ H' => H' = H3 ∧ ∃ (d : Int) (z7 : Option V), σ = [some (.ref b), some (.int n), some (.int wd), some (.int lo), some (.ref D), some (.int (0 + i)), some (.int d), z7] ∧ 0 ≤ d ∧ d < wd ∧ lo + d ∉ fs, ?_, ?_⟩
          · refine ⟨_, rfl, _, rfl, by omega, by omega, ?_⟩
            have z0 : (d0 + ((0 : Nat) : Int)) % wd = d0 := by
              rw [Int.emod_eq_of_lt] <;> simp <;> omega
            refine for_range (n := n) (fun t σ H' => H' = H3 ∧ ∃ z7 : Option V, σ = [some (.ref b), some (.int n), some (.int wd), some (.int lo), some (.ref D), some (.int (0 + i)), some (.int ((d0 + (t : Int)) % wd)), z7] ∧ ∀ j : Nat, j < t → lo + (d0 + (j : Int)) % wd ∈ fs)
              ⟨rfl, _, by rw [z0]; rfl, fun j hj => absurd hj (by omega)⟩ ?_ ?_
            · rintro t σ H' ht ⟨rfl, z7, rfl, hin⟩
              refine ⟨_, rfl, _, rfl, _, _, rfl, rfl, _, rfl, D, _, rfl, .inl (SqL.of hf3), rfl, flat_ints fs, _, rfl, ?_⟩
              have e : (if true = true then !inV (V.int (lo + (d0 + (t : Int)) % wd)) (fs.map V.int) else inV (V.int (lo + (d0 + (t : Int)) % wd)) (fs.map V.int)) = !decide (lo + (d0 + (t : Int)) % wd ∈ fs) := by
                rw [if_pos rfl, inV_ints]
              rw [e]
              by_cases hm : lo + (d0 + (t : Int)) % wd ∈ fs
              · rw [decide_eq_true hm]
                refine iteF ?_
                refine ⟨_, rfl, _, _, rfl, rfl, .inl ⟨_, rfl, _, rfl, _, _, rfl, rfl, by omega, ?_⟩⟩
                have en : ((d0 + (t : Int)) % wd + 1) % wd = (d0 + ((t + 1 : Nat) : Int)) % wd := by
                  rw [Int.emod_add_emod, show d0 + (t : Int) + 1 = d0 + ((t + 1 : Nat) : Int) by omega]
                refine ⟨rfl, some (.int (0 + (t : Int))), by rw [← en]; rfl, fun j hj => ?_⟩
                by_cases hjt : j = t
                · subst hjt; exact hm
                · exact hin j (by omega)
              · rw [decide_eq_false hm]
                refine iteT ?_
                exact ⟨rfl, _, _, rfl, Int.emod_nonneg _ (by omega), wn (y := 0), hm⟩
            · rintro σ H' ⟨rfl, z7, rfl, hin⟩
              exfalso
              have := nodup_le _ fs (mod_list (w := wd) (d := d0) (low := lo) (by omega) n w3) fun x hx => by
                obtain ⟨j, hj, rfl⟩ := List.mem_map.mp hx
                exact hin j (List.mem_range.mp hj)
              rw [List.length_map, List.length_range] at this
              omega
          · rintro σ H' ⟨rfl, d, z7, rfl, f0, f1, hm⟩
            refine ⟨_, rfl, .inl ⟨rfl, _, SqL.of hf3⟩, _, rfl, _, rfl, _, _, rfl, rfl, D, _, _, rfl, rfl, hf3, ?_, ?_⟩
            · rw [List.length_map, hfl, sizeLine_eq]; omega
            · refine ⟨fs ++ [lo + d], _, _, _, rfl, by rw [List.length_append, hfl]; rfl, ?_, ?_, ?_, B3.put nb nl, ?_⟩
              · refine List.nodup_append.mpr ⟨hfn, by simp, fun a ha b' hb' e => ?_⟩
                simp only [List.mem_singleton] at hb'
                exact hm (by rw [← hb', ← e]; exact ha)
              · intro x hx
                rcases List.mem_append.mp hx with hx | hx
                · exact hfr x hx
                · simp only [List.mem_singleton] at hx
                  omega
              · rw [upd_same, List.map_append]; rfl
              · intro c o e nc
                rw [upd_ne (ne_of_none e hDH)]
                exact k3 _ _ (kk _ _ e nc) nc
        · rintro σ H' ⟨fs, z5, z6, z7, rfl, hfl, hfn, hfr, hf, B', kk⟩
          refine ⟨_, rfl, D, fs, rfl, SqL.of hf, by omega, fun ks q hp hs hq => ?_⟩
          refine ⟨q, _, rfl, .inl ⟨SqL.of upd_same, fun t ht => ?_⟩⟩
          have htH : H t = none := by
            cases e : H t with
            | none => rfl
            | some o =>
              have tb : t ≠ b := fun z => by
                subst z
                exact (B'.new (o := .lst (ks.map V.int)) hq).ne ht rfl
              rw [upd_ne (ne_of_none (kk _ _ e tb) hq), kk _ _ e tb] at ht
              cases ht
          refine k t ks _ (kset_sort hp hs hfn (fun k hk => ?_) (fun k hk => ?_)) (by rw [hp.length_eq, hfl]) htH upd_same ((B'.new hq).new ht) ((kk.new hq).new ht)
          · have := hfr k hk; omega
          · have := hfr k hk; omega
end
end K03

end

section
set_option Elab.async false
set_option linter.all false
set_option maxRecDepth 100000
set_option maxHeartbeats 4000000
/-! what a text may be asked about any value: whether it is a number, a key, a key set. -/
namespace SB
open PySem PySem.Spec PyProof.Rows L2
/-- a whole number that is no bool, or something else -/
inductive NV (K : PySem.W.Frag) (H : Hp) : V → Option Int → Prop
  | int (i : Int) : NV K H (.int i) (some i)
  | no {v : V} (t : Value) (b1 b2 : Bool) (ty : TyX K H v t) (h1 : PySem.W.kitOne K t (.type "int") = some b1) (h2 : PySem.W.kitOne K t (.type "bool") = some b2) (h : (b1 && !b2) = false) : NV K H v none
theorem NV.same {K : PySem.W.Frag} {H H' : Hp} {v : V} {o : Option Int} (s : ∀ t, TyX K H v t → TyX K H' v t) (n : NV K H v o) : NV K H' v o := by
  cases n with
  | int i => exact .int i
  | no t b1 b2 ty h1 h2 h => exact .no t b1 b2 (s t ty) h1 h2 h
theorem tyX_sm {K : PySem.W.Frag} {H H' : Hp} {x : V} {t : Value} (s : Same H H') (h : TyX K H x t) : TyX K H' x t := by
  cases h with
  | base h =>
    refine .base ?_
    cases h with
    | non => exact .non
    | bl b => exact .bl b
    | int i => exact .int i
    | str z => exact .str z
    | flt z => exact .flt z
    | lst e => exact .lst (s _ _ e)
    | frz e => exact .frz (s _ _ e)
    | tup e => exact .tup (s _ _ e)
    | dK e => exact .dK (s _ _ e)
    | dT e => exact .dT (s _ _ e)
    | ins e cl ha hn ht hm => exact .ins (s _ _ e) cl ha hn ht hm
  | byt b => exact .byt b
  | set e => exact .set (s _ _ e)
  | kList e c => exact .kList e c
  | kTuple e c => exact .kTuple e c
  | kDict e c => exact .kDict e c
  | fTuple e => exact .fTuple (s _ _ e)
  | fDict e => exact .fDict (s _ _ e)
theorem NV.sm {K : PySem.W.Frag} {H H' : Hp} {v : V} {o : Option Int} (s : Same H H') (n : NV K H v o) : NV K H' v o := n.same fun _ => tyX_sm s
def keyB : Option Int → Bool
  | some i => decide (0 ≤ i) && decide (i ≤ 999)
  | none => false
/-- pairs of neighbours that rise -/
def upL : List (Option Int) → List Bool
  | some a :: some b :: r => decide (a < b) :: upL (some b :: r)
  | _ :: b :: r => true :: upL (b :: r)
  | _ => []
def setB (os : List (Option Int)) : Bool := os.all keyB && (upL os).all id
theorem upL_len : ∀ os : List (Option Int), (upL os).length = os.length - 1
  | [] => rfl
  | [a] => by cases a <;> rfl
  | some a :: some b :: r => by
    show (upL (some b :: r)).length + 1 = _
    rw [upL_len (some b :: r)]; rfl
  | some a :: none :: r => by
    show (upL (none :: r)).length + 1 = _
    rw [upL_len (none :: r)]; rfl
  | none :: b :: r => by
    show (upL (b :: r)).length + 1 = _
    rw [upL_len (b :: r)]; rfl
theorem upL_at : ∀ {ks : List Int} {i : Nat} {a b : Int}, ks[i]? = some a → ks[i + 1]? = some b → (upL (ks.map some))[i]? = some (decide (a < b))
  | x :: y :: r, 0, a, b, h1, h2 => by
    have e1 : x = a := by simpa using h1
    have e2 : y = b := by simpa using h2
    subst e1 e2
    rfl
  | x :: y :: r, i + 1, a, b, h1, h2 => by
    show (upL ((y :: r).map some))[i]? = _
    exact upL_at (ks := y :: r) (by simpa using h1) (by simpa using h2)
  | [x], 0, a, b, h1, h2 => by simp at h2
  | [x], i + 1, a, b, h1, h2 => by simp at h1
  | [], i, a, b, h1, h2 => by simp at h1
theorem setB_ks {ks : List Int} (h : KSet ks) : setB (ks.map some) = true := by
  unfold setB
  rw [Bool.and_eq_true]
  refine ⟨?_, ?_⟩
  · rw [List.all_eq_true]
    intro o ho
    obtain ⟨k, hk, rfl⟩ := List.mem_map.mp ho
    have a := h.lo k hk
    have b := h.hi k hk
    simp [keyB, a, b]
  · have hu := h.up
    clear h
    induction ks with
    | nil => rfl
    | cons a r ih =>
      cases r with
      | nil => rfl
      | cons b r =>
        have hp := List.pairwise_cons.mp hu
        show (decide (a < b) && (upL ((b :: r).map some)).all id) = true
        rw [ih hp.2, decide_eq_true (hp.1 b List.mem_cons_self)]
        rfl
/-- all keys: whole numbers, all of them -/
theorem keys_all {K : PySem.W.Frag} {H : Hp} : ∀ {xs : List V} {os : List (Option Int)}, Paired (NV K H) xs os → os.all keyB = true → ∃ ks : List Int, xs = ks.map V.int ∧ os = ks.map some
  | _, _, .nil, _ => ⟨[], rfl, rfl⟩
  | _, _, .cons (a := x) (b := o) a t, h => by
    rw [List.all_cons, Bool.and_eq_true] at h
    obtain ⟨ks, e1, e2⟩ := keys_all t h.2
    cases a with
    | int i => exact ⟨i :: ks, by rw [e1]; rfl, by rw [e2]; rfl⟩
    | no => cases h.1
/-- a tuple, or not; whether it is a key set -/
def SV (K : PySem.W.Frag) (H : Hp) (v : V) (r : Bool) : Prop := (∃ t, TyX K H v t ∧ PySem.W.kitOne K t (.type "tuple") = some false ∧ r = false) ∨
  ∃ a xs os, v = .ref a ∧ SqT K H a xs ∧ xs.length ≤ 2000 ∧ Paired (NV K H) xs os ∧ r = setB os
theorem SV.sm {K : PySem.W.Frag} {H H' : Hp} {v : V} {r : Bool} (s : Same H H') (n : SV K H v r) : SV K H' v r := by
  rcases n with ⟨t, h1, h2, h3⟩ | ⟨a, xs, os, h1, h2, hz, h3, h4⟩
  · exact .inl ⟨t, tyX_sm s h1, h2, h3⟩
  · exact .inr ⟨a, xs, os, h1, sqT_same s h2, hz, paired_imp (fun _ _ q => q.sm s) h3, h4⟩
def spNum (K : PySem.W.Frag) : Sp := fun vs H Q _ => ∃ v o, vs = [v] ∧ NV K H v o ∧ Q (.bl o.isSome) H
def spKey (K : PySem.W.Frag) : Sp := fun vs H Q _ => ∃ v o, vs = [v] ∧ NV K H v o ∧ Q (.bl (keyB o)) H
def spSet (K : PySem.W.Frag) : Sp := fun vs H Q _ => ∃ v r, vs = [v] ∧ SV K H v r ∧ ∀ H', Same H H' → Q (.bl r) H'
/-- a tuple, or not; whether it is a lot -/
def LV (K : PySem.W.Frag) (H : Hp) (v : V) (r : Bool) : Prop := (∃ t, TyX K H v t ∧ PySem.W.kitOne K t (.type "tuple") = some false ∧ r = false) ∨
  ∃ a xs os, v = .ref a ∧ SqT K H a xs ∧ xs.length ≤ 2000 ∧ Paired (NV K H) xs os ∧ r = (setB os && decide (0 < xs.length))
theorem LV.sm {K : PySem.W.Frag} {H H' : Hp} {v : V} {r : Bool} (s : Same H H') (n : LV K H v r) : LV K H' v r := by
  rcases n with ⟨t, h1, h2, h3⟩ | ⟨a, xs, os, h1, h2, hz, h3, h4⟩
  · exact .inl ⟨t, tyX_sm s h1, h2, h3⟩
  · exact .inr ⟨a, xs, os, h1, sqT_same s h2, hz, paired_imp (fun _ _ q => q.sm s) h3, h4⟩
def spLot (K : PySem.W.Frag) : Sp := fun vs H Q _ => ∃ v r, vs = [v] ∧ LV K H v r ∧ ∀ H', Same H H' → Q (.bl r) H'
/-- whether a value lives -/
def liveB (ks : List Int) : Option Int → Bool
  | some i => keyB (some i) && decide (i ∈ ks)
  | none => false
def spLive (K : PySem.W.Frag) : Sp := fun vs H Q _ => ∃ p ks v o, vs = [.ref p, v] ∧ SqT K H p (ks.map V.int) ∧ NV K H v o ∧ Q (.bl (liveB ks o)) H
theorem liveB_key {ks : List Int} (h : KSet ks) (i : Int) : liveB ks (some i) = decide (i ∈ ks) := by
  unfold liveB keyB
  by_cases m : i ∈ ks
  · have a := h.lo i m
    have b := h.hi i m
    simp [m, a, b]
  · simp [m]
section
variable {X : Cx} {st : Stmt} {sts : List Stmt} {e : Expr}
/-- what is never reached needs no reading -/
theorem ps_dead : PS X st (fun _ _ _ => False) := ⟨fun _ _ _ _ _ _ h => h.elim⟩
theorem pss_dead : PSs X sts (fun _ _ _ => False) := ⟨fun _ _ _ _ _ _ h => h.elim⟩
theorem pe_dead : PE X e (fun _ _ _ => False) := ⟨fun _ _ _ _ _ _ h => h.elim⟩
end
end SB

end

section
set_option Elab.async false
set_option linter.all false
set_option maxRecDepth 100000
set_option maxHeartbeats 4000000
namespace K03
open PySem L2 SB
section
variable {P : Program} {w : World} {K : PySem.W.Frag} {mg : Str → Option Value} {base : Heap}
theorem ok_num {f : Addr} {fd : FuncData} (F : Fun K "is_number" "is_number" s_is_number f fd) (gIsi : mg "isinstance" = none) (gInt : mg "int" = none) (gBool : mg "bool" = none) : FnOk P w K mg base CX0 1 f fd ["value"] (spNum K) := by
  refine F.ok sc_is_number (fun vs H Q E h => ?_) (fun cdv A outer s H vs Q E hr h => ?_)
  · obtain ⟨v, o, rfl, _⟩ := h
    rfl
  · obtain ⟨v, o, rfl, nv, k⟩ := h
    refine ⟨_, pss_one (ps_ret (pe_and (pe_callB call_isi (by rfl) gIsi (by decide +kernel) (pa_cons (pv 0) (pa_cons (pe_bltn (v := .ty "int") (by rfl) gInt (by decide +kernel) rfl) pa_nil)))
      (pe_one (pe_not (pe_callB call_isi (by rfl) gIsi (by decide +kernel) (pa_cons (pv 0) (pa_cons (pe_bltn (v := .ty "bool") (by rfl) gBool (by decide +kernel) rfl) pa_nil))))))), ?_⟩
    cases nv with
    | int i =>
      refine rd_is (b := true) (i := 0) rfl (.base (.int i)) (by decide +kernel) ⟨_, rfl, iteT ?_⟩
      exact rd_is (b := false) (i := 0) rfl (.base (.int i)) (by decide +kernel) ⟨_, rfl, k⟩
    | no t b1 b2 ty h1 h2 h =>
      refine ⟨v, rfl, v, .ty "int", _, _, b1, rfl, .ty "int", ty, h1, b1, rfl, ?_⟩
      cases b1 with
      | false => exact iteF k
      | true =>
        refine iteT ⟨v, rfl, v, .ty "bool", _, _, b2, rfl, .ty "bool", ty, h2, b2, rfl, ?_⟩
        cases b2 with
        | false => cases h
        | true => exact k
theorem ok_key {f fN : Addr} {fd fdN : FuncData} {t : Tok} (F : Fun K "is_key" "is_key" s_is_key f fd) (gG : mg "GREATEST_KEY" = some (.int 999 t)) (gN : mg "is_number" = some (.ref fN)) (FN : FnOk P w K mg base CX0 1 fN fdN ["value"] (spNum K))
    (kN : PySem.W.keepIn K (.ref fN) = true) (bN : Binds K fdN ["value"] []) : FnOk P w K mg base CX0 2 f fd ["value"] (spKey K) := by
  refine F.ok sc_is_key (fun vs H Q E h => ?_) (fun cdv A outer s H vs Q E hr h => ?_)
  · obtain ⟨v, o, rfl, _⟩ := h
    rfl
  · obtain ⟨v, o, rfl, nv, k⟩ := h
    refine ⟨_, pss_one (ps_ret (pe_and (pe_call FN hr (by rfl) gN kN bN .nil pass0 (pa_cons (pv 0) pa_nil))
      (pe_one (pe_chain op_le op_le pe_int (pv 0) (pe_glob (v := .int 999) (by rfl) gG ⟨_, rfl⟩))))), ?_⟩
    refine ⟨_, rfl, v, o, rfl, nv, _, rfl, ?_⟩
    cases nv with
    | no t b1 b2 ty h1 h2 h => exact iteF k
    | int i =>
      refine iteT ⟨_, rfl, _, _, rfl, rfl, _, rfl, ite2 (fun h => ?_) (fun h => ?_)⟩
      · refine ⟨_, _, rfl, rfl, ?_⟩
        have e : keyB (some i) = decide (i ≤ 999) := by
          show (decide (0 ≤ i) && decide (i ≤ 999)) = _
          rw [show decide (0 ≤ i) = true from h]; rfl
        rw [e] at k
        exact k
      · have e : keyB (some i) = false := by
          show (decide (0 ≤ i) && decide (i ≤ 999)) = _
          rw [show decide (0 ≤ i) = false from Bool.eq_false_iff.mpr h]; rfl
        rw [e] at k
        exact k
theorem ok_lkey {f : Addr} {fd : FuncData} (F : Fun K "_law_is_key" "_law_is_key" s_l_is_key f fd) (gIsi : mg "isinstance" = none) (gInt : mg "int" = none) (gBool : mg "bool" = none) : FnOk P w K mg base CX0 1 f fd ["_law_v"] (spKey K) := by
  refine F.ok sc_l_is_key (fun vs H Q E h => ?_) (fun cdv A outer s H vs Q E hr h => ?_)
  · obtain ⟨v, o, rfl, _⟩ := h
    rfl
  · obtain ⟨v, o, rfl, nv, k⟩ := h
    refine ⟨_, pss_one (ps_ret (pe_and (pe_callB call_isi (by rfl) gIsi (by decide +kernel) (pa_cons (pv 0) (pa_cons (pe_bltn (v := .ty "int") (by rfl) gInt (by decide +kernel) rfl) pa_nil)))
      (pe_and (pe_not (pe_callB call_isi (by rfl) gIsi (by decide +kernel) (pa_cons (pv 0) (pa_cons (pe_bltn (v := .ty "bool") (by rfl) gBool (by decide +kernel) rfl) pa_nil))))
      (pe_one (pe_chain op_le op_le pe_int (pv 0) pe_int))))), ?_⟩
    cases nv with
    | int i =>
      refine rd_is (b := true) (i := 0) rfl (.base (.int i)) (by decide +kernel) ⟨_, rfl, iteT ?_⟩
      refine rd_is (b := false) (i := 0) rfl (.base (.int i)) (by decide +kernel) ⟨_, rfl, _, rfl, iteT ?_⟩
      refine ⟨_, rfl, _, _, rfl, rfl, _, rfl, ite2 (fun h => ?_) (fun h => ?_)⟩
      · refine ⟨_, _, rfl, rfl, ?_⟩
        have e : keyB (some i) = decide (i ≤ 999) := by
          show (decide (0 ≤ i) && decide (i ≤ 999)) = _
          rw [show decide (0 ≤ i) = true from h]; rfl
        rw [e] at k
        exact k
      · have e : keyB (some i) = false := by
          show (decide (0 ≤ i) && decide (i ≤ 999)) = _
          rw [show decide (0 ≤ i) = false from Bool.eq_false_iff.mpr h]; rfl
        rw [e] at k
        exact k
    | no t b1 b2 ty h1 h2 h =>
      refine ⟨v, rfl, v, .ty "int", _, _, b1, rfl, .ty "int", ty, h1, b1, rfl, ?_⟩
      cases b1 with
      | false => exact iteF k
      | true =>
        refine iteT ⟨v, rfl, v, .ty "bool", _, _, b2, rfl, .ty "bool", ty, h2, b2, rfl, ?_⟩
        cases b2 with
        | false => cases h
        | true => exact ⟨_, rfl, iteF k⟩
end
end K03

end

section
set_option Elab.async false
set_option linter.all false
set_option maxRecDepth 100000
set_option maxHeartbeats 4000000
namespace K03
open PySem L2 SB
theorem all_map {os : List (Option Int)} : ((os.map keyB).all id) = os.all keyB := by
  rw [List.all_map]; rfl
section
variable {P : Program} {w : World} {K : PySem.W.Frag} {mg : Str → Option Value} {base : Heap}
structure TSet (mg : Str → Option Value) : Prop where
  isi : mg "isinstance" = none
  tup : mg "tuple" = none
  all : mg "all" = none
  len : mg "len" = none
  rng : mg "range" = none
theorem ok_set {f fK : Addr} {fd fdK : FuncData} (F : Fun K "is_key_set" "is_key_set" s_is_key_set f fd) (T : TSet mg) (gK : mg "is_key" = some (.ref fK)) (FK : FnOk P w K mg base CX0 2 fK fdK ["value"] (spKey K))
    (kK : PySem.W.keepIn K (.ref fK) = true) (bK : Binds K fdK ["value"] []) : FnOk P w K mg base CX0 3 f fd ["value"] (spSet K) := by
  refine F.ok sc_is_key_set (fun vs H Q E h => ?_) (fun cdv A outer s H vs Q E hr h => ?_)
  · obtain ⟨v, r, rfl, _⟩ := h
    rfl
  · obtain ⟨v, r, rfl, sv, k⟩ := h
    have nd := sc_is_key_set.nd
    refine ⟨_, pss_cons (ps_if (pt_not (pt_val (pe_callB call_isi (by rfl) T.isi (by decide +kernel) (pa_cons (pv 0) (pa_cons (pe_bltn (v := .ty "tuple") (by rfl) T.tup (by decide +kernel) rfl) pa_nil))))) (pss_one (ps_ret pe_bl)) pss_nil)
      (pss_cons (ps_if (pt_not (pt_val (pe_callB (cr_all rfl) (by rfl) T.all (by decide +kernel) (pa_cons (pe_lc (own := [("key", 2)]) (g := gName 2) (tt := tYes) (te := tCall (spKey K) [] E0 (tCons (tVar 2) tNil)) rfl nd (pi_tup (pv 0)) (blkOk_by (N := N_is_key_set) (sc := defScope s_is_key_set) (by decide +kernel))
          (fun _ _ _ _ _ => pg_name (i := 2) nd rfl (Or.inl rfl)) (fun _ _ _ _ _ => pts_nil) (fun _ _ _ _ _ => pe_call FK hr (by rfl) gK kK bK .nil pass0 (pa_cons (pv 2) pa_nil))) pa_nil)))) (pss_one (ps_ret pe_bl)) pss_nil)
      (pss_one (ps_ret (pe_callB (cr_all rfl) (by rfl) T.all (by decide +kernel) (pa_cons (pe_lc (own := [("at", 1)]) (g := gName 1) (tt := tYes)
          (te := tOp (rI0 fun i j => .bl (decide (i < j))) (tOp (rIxT K) (tVar 0) (tOp (rI0 fun i j => .int (i - j)) (tVar 1) (tC (.int 1)))) (tOp (rIxT K) (tVar 0) (tVar 1))) rfl nd
          (pi_range2 (by rfl) T.rng (pa_cons pe_int (pa_cons (pe_callB call_len_seq (by rfl) T.len PySem.boot_len (pa_cons (pv 0) pa_nil)) pa_nil))) (blkOk_by (N := N_is_key_set) (sc := defScope s_is_key_set) (by decide +kernel))
          (fun _ _ _ _ _ => pg_name (i := 1) nd rfl (Or.inl rfl)) (fun _ _ _ _ _ => pts_nil) (fun _ _ _ _ _ => pe_cmpR op_lt (pe_ix ix_tup (pv 0) (pe_op op_sub (pv 1) pe_int) (fun _ _ => rfl)) (pe_ix ix_tup (pv 0) (pv 1) (fun _ _ => rfl)) (nomark _))) pa_nil))))), ?_⟩
    rcases sv with ⟨t, ty, hk, rfl⟩ | ⟨a, xs, os, rfl, hs, hz, hp, rfl⟩
    · exact ⟨v, rfl, v, .ty "tuple", _, _, false, rfl, .ty "tuple", ty, hk, _, rfl, iteT (k H (Same.refl H))⟩
    · have hlen := paired_len hp
      refine ⟨_, rfl, _, .ty "tuple", _, _, true, rfl, .ty "tuple", ty_tup hs, kit_ty (by decide +kernel), _, rfl, iteF ?_⟩
      refine ⟨_, rfl, a, rfl, ⟨_, hs⟩, fun D hD => lc_tup (K := K) (a := a) (xs := xs) (fun i H' => Same H H' ∧ H' D = some (.lst (((os.take i).map keyB).map V.bl))) ⟨Same.new (Same.refl H) hD, upd_same⟩ (fun i H' _ p => sqT_same p.1 hs) (fun i x H' hx p => ?_) (fun H1 p => ?_)⟩
      · obtain ⟨s1, hd⟩ := p
        have hi : i < os.length := by rw [← hlen]; exact (List.getElem?_eq_some_iff.mp hx).1
        have ho : os[i]? = some os[i] := List.getElem?_eq_getElem hi
        refine ⟨rfl, _, rfl, x, os[i], rfl, (paired_at hp hx ho).sm s1, _, hd, ?_, (fun c o e => ?_), ?_⟩
        · rw [List.length_map, List.length_map, List.length_take, sizeLine_eq]; omega
        · have := s1 c o e
          rw [upd_ne (ne_of_none e hD)]
          exact this
        · rw [upd_same, List.take_add_one, ho, List.map_append, List.map_append]
          rfl
      · obtain ⟨s1, hd⟩ := p
        rw [List.take_of_length_le (by omega)] at hd
        refine ⟨D, os.map keyB, rfl, SqL.of hd, _, rfl, ?_⟩
        rw [all_map]
        cases hall : os.all keyB with
        | false =>
          refine iteT ?_
          have e : setB os = false := by unfold setB; rw [hall]; rfl
          rw [e] at k
          exact k H1 s1
        | true =>
          refine iteF ?_
          obtain ⟨ks, rfl, rfl⟩ := keys_all hp hall
          have hs1 := sqT_same s1 hs
          refine ⟨_, rfl, a, _, rfl, .inr hs1, 1, _, rfl, ⟨by decide, by decide, by rw [List.length_map] at hz ⊢; omega, by rw [List.length_map] at hz ⊢; omega⟩, fun D2 hD2 => ?_⟩
          have hN : (((ks.map V.int).length : Int) - 1).toNat = ks.length - 1 := by rw [List.length_map]; omega
          rw [hN]
          refine lc_range (lo := 1) (n := ks.length - 1) (fun i H' => Same H1 H' ∧ H' D2 = some (.lst (((upL (ks.map some)).take i).map V.bl))) ⟨Same.new (Same.refl H1) hD2, upd_same⟩ (fun i H' hi p => ?_) (fun H2 p => ?_)
          · obtain ⟨s2, hd2⟩ := p
            have ha : ks[i]? = some ks[i] := List.getElem?_eq_getElem (by omega)
            have hb : ks[i + 1]? = some ks[i + 1] := List.getElem?_eq_getElem (by omega)
            have hs2 := sqT_same s2 hs1
            have u := upL_at ha hb
            refine ⟨rfl, ?_⟩
            refine ⟨_, rfl, _, rfl, _, _, rfl, rfl, a, _, _, _, rfl, rfl, hs2, at_of (j := i) (by omega) (by rw [List.getElem?_map, ha]; rfl), ?_⟩
            refine ⟨_, rfl, _, rfl, a, _, _, _, rfl, rfl, hs2, at_of (j := i + 1) (by omega) (by rw [List.getElem?_map, hb]; rfl), _, _, rfl, rfl, ?_⟩
            refine ⟨_, hd2, ?_, (fun c o e => ?_), ?_⟩
            · rw [List.length_map, List.length_take, sizeLine_eq]
              rw [List.length_map] at hz
              omega
            · rw [upd_ne (ne_of_none e hD2)]
              exact s2 c o e
            · rw [upd_same, List.take_add_one, u, List.map_append]
              rfl
          · obtain ⟨s2, hd2⟩ := p
            have hl2 : (upL (ks.map some)).length = ks.length - 1 := by rw [upL_len, List.length_map]
            rw [List.take_of_length_le (by omega)] at hd2
            refine ⟨D2, upL (ks.map some), rfl, SqL.of hd2, ?_⟩
            have e : setB (ks.map some) = (upL (ks.map some)).all id := by unfold setB; rw [hall]; rfl
            rw [e] at k
            exact k H2 (s1.trans s2)
theorem ok_lset {f fK : Addr} {fd fdK : FuncData} (F : Fun K "_law_is_set" "_law_is_set" s_l_is_set f fd) (T : TSet mg) (gK : mg "_law_is_key" = some (.ref fK)) (FK : FnOk P w K mg base CX0 1 fK fdK ["_law_v"] (spKey K))
    (kK : PySem.W.keepIn K (.ref fK) = true) (bK : Binds K fdK ["_law_v"] []) : FnOk P w K mg base CX0 2 f fd ["_law_v"] (spSet K) := by
  refine F.ok sc_l_is_set (fun vs H Q E h => ?_) (fun cdv A outer s H vs Q E hr h => ?_)
  · obtain ⟨v, r, rfl, _⟩ := h
    rfl
  · obtain ⟨v, r, rfl, sv, k⟩ := h
    have nd := sc_l_is_set.nd
    refine ⟨_, pss_cons (ps_if (PW.pt (pw_or (pt_not (pt_val (pe_callB call_isi (by rfl) T.isi (by decide +kernel) (pa_cons (pv 0) (pa_cons (pe_bltn (v := .ty "tuple") (by rfl) T.tup (by decide +kernel) rfl) pa_nil)))))
      (pw_or1 (pt_not (pt_val (pe_callB (cr_all rfl) (by rfl) T.all (by decide +kernel) (pa_cons (pe_lc (own := [("_law_p", 2)]) (g := gName 2) (tt := tYes) (te := tCall (spKey K) [] E0 (tCons (tVar 2) tNil)) rfl nd (pi_tup (pv 0)) (blkOk_by (N := N_l_is_set) (sc := defScope s_l_is_set) (by decide +kernel))
          (fun _ _ _ _ _ => pg_name (i := 2) nd rfl (Or.inl rfl)) (fun _ _ _ _ _ => pts_nil) (fun _ _ _ _ _ => pe_call FK hr (by rfl) gK kK bK .nil pass0 (pa_cons (pv 2) pa_nil))) pa_nil))))))) (pss_one (ps_ret pe_bl)) pss_nil)
      (pss_one (ps_ret (pe_callB (cr_all rfl) (by rfl) T.all (by decide +kernel) (pa_cons (pe_lc (own := [("_law_n", 1)]) (g := gName 1) (tt := tYes)
          (te := tOp (rI0 fun i j => .bl (decide (i < j))) (tOp (rIxT K) (tVar 0) (tVar 1)) (tOp (rIxT K) (tVar 0) (tOp (rI0 fun i j => .int (i + j)) (tVar 1) (tC (.int 1))))) rfl nd
          (pi_range1 (by rfl) T.rng (pa_cons (pe_op op_sub (pe_callB call_len_seq (by rfl) T.len PySem.boot_len (pa_cons (pv 0) pa_nil)) pe_int) pa_nil)) (blkOk_by (N := N_l_is_set) (sc := defScope s_l_is_set) (by decide +kernel))
          (fun _ _ _ _ _ => pg_name (i := 1) nd rfl (Or.inl rfl)) (fun _ _ _ _ _ => pts_nil) (fun _ _ _ _ _ => pe_cmpR op_lt (pe_ix ix_tup (pv 0) (pv 1) (fun _ _ => rfl)) (pe_ix ix_tup (pv 0) (pe_op op_add (pv 1) pe_int) (fun _ _ => rfl)) (nomark _))) pa_nil)))), ?_⟩
    rcases sv with ⟨t, ty, hk, rfl⟩ | ⟨a, xs, os, rfl, hs, hz, hp, rfl⟩
    · exact ⟨v, rfl, v, .ty "tuple", _, _, false, rfl, .ty "tuple", ty, hk, _, rfl, iteT (iteT (k H (Same.refl H)))⟩
    · have hlen := paired_len hp
      refine ⟨_, rfl, _, .ty "tuple", _, _, true, rfl, .ty "tuple", ty_tup hs, kit_ty (by decide +kernel), _, rfl, iteF ?_⟩
      refine ⟨_, rfl, a, rfl, ⟨_, hs⟩, fun D hD => lc_tup (K := K) (a := a) (xs := xs) (fun i H' => Same H H' ∧ H' D = some (.lst (((os.take i).map keyB).map V.bl))) ⟨Same.new (Same.refl H) hD, upd_same⟩ (fun i H' _ p => sqT_same p.1 hs) (fun i x H' hx p => ?_) (fun H1 p => ?_)⟩
      · obtain ⟨s1, hd⟩ := p
        have hi : i < os.length := by rw [← hlen]; exact (List.getElem?_eq_some_iff.mp hx).1
        have ho : os[i]? = some os[i] := List.getElem?_eq_getElem hi
        refine ⟨rfl, _, rfl, x, os[i], rfl, (paired_at hp hx ho).sm s1, _, hd, ?_, (fun c o e => ?_), ?_⟩
        · rw [List.length_map, List.length_map, List.length_take, sizeLine_eq]; omega
        · have := s1 c o e
          rw [upd_ne (ne_of_none e hD)]
          exact this
        · rw [upd_same, List.take_add_one, ho, List.map_append, List.map_append]
          rfl
      · obtain ⟨s1, hd⟩ := p
        rw [List.take_of_length_le (by omega)] at hd
        refine ⟨D, os.map keyB, rfl, SqL.of hd, _, rfl, ?_⟩
        rw [all_map]
        cases hall : os.all keyB with
        | false =>
          refine iteT ?_
          have e : setB os = false := by unfold setB; rw [hall]; rfl
          rw [e] at k
          exact k H1 s1
        | true =>
          refine iteF ?_
          obtain ⟨ks, rfl, rfl⟩ := keys_all hp hall
          have hs1 := sqT_same s1 hs
          refine ⟨_, rfl, a, _, rfl, .inr hs1, _, _, rfl, rfl, _, rfl, by omega, by rw [List.length_map] at hz ⊢; omega, fun D2 hD2 => ?_⟩
          have hN : (((ks.map V.int).length : Int) - 1).toNat = ks.length - 1 := by rw [List.length_map]; omega
          rw [hN]
          refine lc_range (lo := 0) (n := ks.length - 1) (fun i H' => Same H1 H' ∧ H' D2 = some (.lst (((upL (ks.map some)).take i).map V.bl))) ⟨Same.new (Same.refl H1) hD2, upd_same⟩ (fun i H' hi p => ?_) (fun H2 p => ?_)
          · obtain ⟨s2, hd2⟩ := p
            have ha : ks[i]? = some ks[i] := List.getElem?_eq_getElem (by omega)
            have hb : ks[i + 1]? = some ks[i + 1] := List.getElem?_eq_getElem (by omega)
            have hs2 := sqT_same s2 hs1
            have u := upL_at ha hb
            refine ⟨rfl, ?_⟩
            refine ⟨_, rfl, _, rfl, a, _, _, _, rfl, rfl, hs2, at_of (j := i) (by omega) (by rw [List.getElem?_map, ha]; rfl), ?_⟩
            refine ⟨_, rfl, _, rfl, _, _, rfl, rfl, a, _, _, _, rfl, rfl, hs2, at_of (j := i + 1) (by omega) (by rw [List.getElem?_map, hb]; rfl), _, _, rfl, rfl, ?_⟩
            refine ⟨_, hd2, ?_, (fun c o e => ?_), ?_⟩
            · rw [List.length_map, List.length_take, sizeLine_eq]
              rw [List.length_map] at hz
              omega
            · rw [upd_ne (ne_of_none e hD2)]
              exact s2 c o e
            · rw [upd_same, List.take_add_one, u, List.map_append]
              rfl
          · obtain ⟨s2, hd2⟩ := p
            have hl2 : (upL (ks.map some)).length = ks.length - 1 := by rw [upL_len, List.length_map]
            rw [List.take_of_length_le (by omega)] at hd2
            refine ⟨D2, upL (ks.map some), rfl, SqL.of hd2, ?_⟩
            have e : setB (ks.map some) = (upL (ks.map some)).all id := by unfold setB; rw [hall]; rfl
            rw [e] at k
            exact k H2 (s1.trans s2)
theorem ok_lot {f fS : Addr} {fd fdS : FuncData} (F : Fun K "is_lot" "is_lot" s_is_lot f fd) (gLen : mg "len" = none) (gS : mg "is_key_set" = some (.ref fS)) (FS : FnOk P w K mg base CX0 3 fS fdS ["value"] (spSet K))
    (kS : PySem.W.keepIn K (.ref fS) = true) (bS : Binds K fdS ["value"] []) : FnOk P w K mg base CX0 4 f fd ["value"] (spLot K) := by
  refine F.ok sc_is_lot (fun vs H Q E h => ?_) (fun cdv A outer s H vs Q E hr h => ?_)
  · obtain ⟨v, r, rfl, _⟩ := h
    rfl
  · obtain ⟨v, r, rfl, lv, k⟩ := h
    refine ⟨_, pss_one (ps_ret (pe_and (pe_call FS hr (by rfl) gS kS bS .nil pass0 (pa_cons (pv 0) pa_nil)) (pe_one (pe_cmpR op_gt (pe_callB call_len_seq (by rfl) gLen PySem.boot_len (pa_cons (pv 0) pa_nil)) pe_int (nomark _))))), ?_⟩
    rcases lv with ⟨t, ty, hk, rfl⟩ | ⟨a, xs, os, rfl, hs, hz, hp, rfl⟩
    · exact ⟨v, rfl, v, false, rfl, .inl ⟨t, ty, hk, rfl⟩, fun H' s' => ⟨_, rfl, iteF (k H' s')⟩⟩
    · refine ⟨_, rfl, _, setB os, rfl, .inr ⟨a, xs, os, rfl, hs, hz, hp, rfl⟩, fun H' s' => ⟨_, rfl, ?_⟩⟩
      cases e : setB os with
      | false =>
        rw [e] at k
        exact iteF (k H' s')
      | true =>
        rw [e] at k
        refine iteT ⟨_, rfl, a, _, rfl, .inr (sqT_same s' hs), _, _, rfl, rfl, ?_⟩
        have e2 : decide ((0 : Int) < ((xs.length : Nat) : Int)) = (true && decide (0 < xs.length)) := by
          by_cases h0 : 0 < xs.length
          · have : (0 : Int) < ((xs.length : Nat) : Int) := by omega
            simp [h0]
          · have : ¬ (0 : Int) < ((xs.length : Nat) : Int) := by omega
            simp [h0]
        have k' := k H' s'
        rw [← e2] at k'
        exact k'
theorem ok_lives {f fK : Addr} {fd fdK : FuncData} (F : Fun K "lives_in" "lives_in" s_lives_in f fd) (gK : mg "is_key" = some (.ref fK)) (FK : FnOk P w K mg base CX0 2 fK fdK ["value"] (spKey K))
    (kK : PySem.W.keepIn K (.ref fK) = true) (bK : Binds K fdK ["value"] []) : FnOk P w K mg base CX0 3 f fd ["living", "value"] (spLive K) := by
  refine F.ok sc_lives_in (fun vs H Q E h => ?_) (fun cdv A outer s H vs Q E hr h => ?_)
  · obtain ⟨p, ks, v, o, rfl, _⟩ := h
    rfl
  · obtain ⟨p, ks, v, o, rfl, hs, nv, k⟩ := h
    refine ⟨_, pss_one (ps_ret (pe_and (pe_call FK hr (by rfl) gK kK bK .nil pass0 (pa_cons (pv 1) pa_nil)) (pe_one (pe_cmpR op_in_seq (pv 1) (pv 0) (by rfl))))), ?_⟩
    refine ⟨_, rfl, v, o, rfl, nv, _, rfl, ?_⟩
    cases nv with
    | no t b1 b2 ty h1 h2 h => exact iteF k
    | int i =>
      cases e : keyB (some i) with
      | false =>
        have k : Q (.bl (keyB (some i) && decide (i ∈ ks))) H := k
        rw [e] at k
        exact iteF k
      | true =>
        have k : Q (.bl (keyB (some i) && decide (i ∈ ks))) H := k
        rw [e] at k
        refine iteT ⟨_, rfl, _, rfl, p, _, rfl, .inr hs, rfl, flat_ints ks, ?_⟩
        rw [if_neg (by decide), inV_ints]
        exact k
end
end K03

end

section
set_option Elab.async false
set_option linter.all false
set_option maxRecDepth 100000
set_option maxHeartbeats 4000000
/-! picking from a tuple or list of whole numbers; fields of exceptions. -/
namespace SB
open PySem PySem.Spec PyProof.Rows L2
def fs1 (nm f : Str) (ws : List V) : List (Str × V) := [(f, ws.getD 0 .non), ("code", .str nm)]
def fs2 (nm f g : Str) (ws : List V) : List (Str × V) := [(g, ws.getD 1 .non), (f, ws.getD 0 .non), ("code", .str nm)]
theorem filter_take {f : Int → Bool} {ks : List Int} {i : Nat} {k : Int} (h : ks[i]? = some k) : (ks.take (i + 1)).filter f = (ks.take i).filter f ++ (if f k then [k] else []) := by
  rw [List.take_add_one, h, List.filter_append]
  congr 1
  show [k].filter f = _
  cases e : f k <;> simp [e]
theorem ints_at {ks : List Int} {i : Nat} {x : V} (h : (ks.map V.int)[i]? = some x) : ∃ k, x = .int k ∧ ks[i]? = some k := by
  rw [List.getElem?_map] at h
  cases e : ks[i]? with
  | none => rw [e] at h; cases h
  | some k => rw [e] at h; exact ⟨k, (Option.some.inj h).symm, rfl⟩
section
variable {K : PySem.W.Frag} {a : Addr} {ks : List Int} {g : TG} {tt : TT} {te : TE} {vs : List Nat} {σ : L2.St} {H1 : Hp} {D : Addr} {Qd : Hp → Prop}
theorem filt_tup (f : Int → Bool) (hs : SqT K H1 a (ks.map V.int)) (hD : H1 D = none) (hz : ks.length ≤ 2000)
    (step : ∀ (k : Int) (H' : Hp) (R : V → Hp → Prop) (S : Hp → Prop), k ∈ ks → Same H1 H' → (f k = true → R (.int k) H') → (f k = false → S H') →
      g (.int k) (wipe σ vs) H' fun σ2 H2 => wipe σ2 vs = wipe σ vs ∧ tt σ2 H2 fun b H3 => if b = true then te σ2 H3 R else S H3)
    (hd : ∀ H', Same H1 H' → H' D = some (.lst ((ks.filter f).map V.int)) → Qd H') :
    ∃ W : Nat → Nat → Hp → Prop, (∃ m, W 0 m (upd H1 D (.lst []))) ∧ ∀ i m H, W i m H →
      ((Itt K a).stop i H ∧ Qd H) ∨ ((Itt K a).go i H ∧ ∃ Nx : Hp → Prop, (∀ H', Nx H' → ∃ m', m' < m ∧ W (i + 1) m' H') ∧ ∀ x H', (Itt K a).yld i H x H' → g x (wipe σ vs) H' fun σ2 H2 => wipe σ2 vs = wipe σ vs ∧ tt σ2 H2 fun b H3 =>
        if b = true then te σ2 H3 fun y H4 => ∃ acc, H4 D = some (.lst acc) ∧ acc.length < sizeLine ∧ Nx (upd H4 D (.lst (acc ++ [y]))) else Nx H3) := by
  refine lc_tup (K := K) (a := a) (xs := ks.map V.int) (fun i H' => Same H1 H' ∧ H' D = some (.lst (((ks.take i).filter f).map V.int))) ⟨Same.new (Same.refl H1) hD, upd_same⟩ (fun i H' _ p => sqT_same p.1 hs) (fun i x H' hx p => ?_) (fun H' p => ?_)
  · obtain ⟨k, rfl, hk⟩ := ints_at hx
    obtain ⟨s1, hd1⟩ := p
    refine step k H' _ _ (List.mem_of_getElem? hk) s1 (fun e => ?_) (fun e => ?_)
    · refine ⟨_, hd1, ?_, (fun c o h => ?_), ?_⟩
      · have : ((ks.take i).filter f).length ≤ ks.length := Nat.le_trans (List.length_filter_le _ _) (by rw [List.length_take]; omega)
        rw [List.length_map, sizeLine_eq]; omega
      · rw [upd_ne (ne_of_none h hD)]
        exact s1 c o h
      · rw [upd_same, filter_take hk, e, List.map_append]; rfl
    · refine ⟨s1, ?_⟩
      rw [filter_take hk, e]
      simpa using hd1
  · obtain ⟨s1, hd1⟩ := p
    rw [List.take_of_length_le (by rw [List.length_map]; omega)] at hd1
    exact hd H' s1 hd1
theorem filt_list (f : Int → Bool) (hs : SqL K H1 a (ks.map V.int)) (hD : H1 D = none) (hz : ks.length ≤ 2000)
    (step : ∀ (k : Int) (H' : Hp) (R : V → Hp → Prop) (S : Hp → Prop), k ∈ ks → Same H1 H' → (f k = true → R (.int k) H') → (f k = false → S H') →
      g (.int k) (wipe σ vs) H' fun σ2 H2 => wipe σ2 vs = wipe σ vs ∧ tt σ2 H2 fun b H3 => if b = true then te σ2 H3 R else S H3)
    (hd : ∀ H', Same H1 H' → H' D = some (.lst ((ks.filter f).map V.int)) → Qd H') :
    ∃ W : Nat → Nat → Hp → Prop, (∃ m, W 0 m (upd H1 D (.lst []))) ∧ ∀ i m H, W i m H →
      ((Itl K a).stop i H ∧ Qd H) ∨ ((Itl K a).go i H ∧ ∃ Nx : Hp → Prop, (∀ H', Nx H' → ∃ m', m' < m ∧ W (i + 1) m' H') ∧ ∀ x H', (Itl K a).yld i H x H' → g x (wipe σ vs) H' fun σ2 H2 => wipe σ2 vs = wipe σ vs ∧ tt σ2 H2 fun b H3 =>
        if b = true then te σ2 H3 fun y H4 => ∃ acc, H4 D = some (.lst acc) ∧ acc.length < sizeLine ∧ Nx (upd H4 D (.lst (acc ++ [y]))) else Nx H3) := by
  refine lc_list (K := K) (a := a) (xs := ks.map V.int) (fun i H' => Same H1 H' ∧ H' D = some (.lst (((ks.take i).filter f).map V.int))) ⟨Same.new (Same.refl H1) hD, upd_same⟩ (fun i H' _ p => p.1.seq hs) (fun i x H' hx p => ?_) (fun H' p => ?_)
  · obtain ⟨k, rfl, hk⟩ := ints_at hx
    obtain ⟨s1, hd1⟩ := p
    refine step k H' _ _ (List.mem_of_getElem? hk) s1 (fun e => ?_) (fun e => ?_)
    · refine ⟨_, hd1, ?_, (fun c o h => ?_), ?_⟩
      · have : ((ks.take i).filter f).length ≤ ks.length := Nat.le_trans (List.length_filter_le _ _) (by rw [List.length_take]; omega)
        rw [List.length_map, sizeLine_eq]; omega
      · rw [upd_ne (ne_of_none h hD)]
        exact s1 c o h
      · rw [upd_same, filter_take hk, e, List.map_append]; rfl
    · refine ⟨s1, ?_⟩
      rw [filter_take hk, e]
      simpa using hd1
  · obtain ⟨s1, hd1⟩ := p
    rw [List.take_of_length_le (by rw [List.length_map]; omega)] at hd1
    exact hd H' s1 hd1
end
theorem find_at {f : Int → Bool} : ∀ {l : List Int} {i : Nat} {x : Int}, (∀ z ∈ l.take i, f z = false) → l[i]? = some x → f x = true → l.find? f = some x
  | [], i, x, _, h, _ => by simp at h
  | a :: l, 0, x, _, h, e => by
    have : a = x := by simpa using h
    subst this
    rw [List.find?_cons_of_pos e]
  | a :: l, i + 1, x, hp, h, e => by
    have ha : f a = false := hp a (by simp)
    rw [List.find?_cons_of_neg (by rw [ha]; simp)]
    exact find_at (i := i) (fun z hz => hp z (by simp [hz])) (by simpa using h) e
theorem find_no {f : Int → Bool} {l : List Int} (h : ∀ z ∈ l, f z = false) : l.find? f = none := by
  rw [List.find?_eq_none]
  intro z hz
  rw [h z hz]
  simp
/-- the greatest below, the least above -/
def lowV (ks : List Int) (k : Int) : V := match (ks.filter fun z => decide (z < k)).getLast? with
  | some z => .int z
  | none => .non
def highV (ks : List Int) (k : Int) : V := match (ks.filter fun z => decide (z > k)).head? with
  | some z => .int z
  | none => .non
theorem low_cases (ks : List Int) (k : Int) : ((ks.filter fun z => decide (z < k)) = [] ∧ lowV ks k = .non) ∨ ∃ B z, (ks.filter fun z => decide (z < k)) = B ++ [z] ∧ lowV ks k = .int z := by
  unfold lowV
  rcases List.eq_nil_or_concat (ks.filter fun z => decide (z < k)) with h | ⟨B, z, h⟩
  · exact .inl ⟨h, by rw [h]; rfl⟩
  · exact .inr ⟨B, z, by simpa using h, by rw [h]; simp⟩
theorem high_cases (ks : List Int) (k : Int) : ((ks.filter fun z => decide (z > k)) = [] ∧ highV ks k = .non) ∨ ∃ z B, (ks.filter fun z => decide (z > k)) = z :: B ∧ highV ks k = .int z := by
  unfold highV
  cases h : (ks.filter fun z => decide (z > k)) with
  | nil => exact .inl ⟨rfl, rfl⟩
  | cons z B => exact .inr ⟨z, B, rfl, rfl⟩
end SB

end

section
set_option Elab.async false
set_option linter.all false
set_option maxRecDepth 100000
set_option maxHeartbeats 4000000
namespace K03
open PySem L2 SB
def mV : Option Int → V
  | some k => .int k
  | none => .non
def rowF (q : Addr) (up dn : Option Int) : List (Str × V) := putF "going" (mV dn) (putF "coming" (mV up) (putF "lot" (.ref q) []))
/-- a row at r: its lot at q -/
def RowAt (C : Addr) (H : Hp) (r q : Addr) (up dn : Option Int) : Prop := ∃ dx, H r = some (.ins C dx (rowF q up dn))
/-- a lot with marks that may stand there -/
structure Lot (ls : List Int) (up dn : Option Int) : Prop where
  ks : KSet ls
  ne : 0 < ls.length
  few : ls.length ≤ 1000
  u : ∀ k, up = some k → k ∈ ls
  d : ∀ k, dn = some k → up = none ∧ k ∈ ls
structure RowC (K : PySem.W.Frag) (C : Addr) : Prop where
  cl : Cls K C
  nL : NoAttr K C "lot"
  nC : NoAttr K C "coming"
  nG : NoAttr K C "going"
def spRow (K : PySem.W.Frag) (C : Addr) : Sp := fun vs H Q _ => ∃ r dx q ls up dn, vs = [.ref r, .ref q, mV up, mV dn] ∧ H r = some (.ins C dx []) ∧ SqT K H q (ls.map V.int) ∧ Lot ls up dn ∧
  ∀ H', H' r = some (.ins C dx (rowF q up dn)) → Keep r H H' → Q .non H'
theorem lot_lv {K : PySem.W.Frag} {H : Hp} {q : Addr} {ls : List Int} {up dn : Option Int} (L : Lot ls up dn) (hs : SqT K H q (ls.map V.int)) : LV K H (.ref q) true := by
  refine .inr ⟨q, ls.map V.int, ls.map some, rfl, hs, by rw [List.length_map]; have := L.few; omega, ?_, ?_⟩
  · clear hs L
    induction ls with
    | nil => exact .nil
    | cons a r ih => exact .cons (.int a) ih
  · rw [setB_ks L.ks, List.length_map, decide_eq_true L.ne]; rfl
section
variable {P : Program} {w : World} {K : PySem.W.Frag} {mg : Str → Option Value} {base : Heap}
theorem ok_row {f C fL fV : Addr} {fd fdL fdV : FuncData} (F : FunD K "__init__" "Row.__init__" (defArgs s_Row_init) (defBody s_Row_init) (defScope s_Row_init) [] [("coming", .non), ("going", .non)] f fd) (T : RowC K C)
    (gL : mg "is_lot" = some (.ref fL)) (FL : FnOk P w K mg base CX0 4 fL fdL ["value"] (spLot K)) (kL : PySem.W.keepIn K (.ref fL) = true) (bL : Binds K fdL ["value"] [])
    (gV : mg "lives_in" = some (.ref fV)) (FV : FnOk P w K mg base CX0 3 fV fdV ["living", "value"] (spLive K)) (kV : PySem.W.keepIn K (.ref fV) = true) (bV : Binds K fdV ["living", "value"] []) :
    FnOk P w K mg base CX0 5 f fd ["self", "lot", "coming", "going"] (spRow K C) := by
  refine F.ok sc_Row_init (fun vs H Q E h => ?_) (fun cdv A outer s H vs Q E hr h => ?_)
  · obtain ⟨r, dx, q, ls, up, dn, rfl, _⟩ := h
    rfl
  · obtain ⟨r, dx, q, ls, up, dn, rfl, hr0, hs, L, k⟩ := h
    refine ⟨_, pss_cons (ps_if (pt_not (pt_val (pe_call FL hr (by rfl) gL kL bL .nil pass0 (pa_cons (pv 1) pa_nil)))) pss_dead pss_nil)
      (pss_cons (ps_if (PW.pt (pw_and (pt_cmpR op_notN (pv 2) pe_non (nomark _)) (pw_and1 (pt_not (pt_val (pe_call FV (hr.mono (by decide)) (by rfl) gV kV bV .nil pass0 (pa_cons (pv 1) (pa_cons (pv 2) pa_nil)))))))) pss_dead pss_nil)
      (pss_cons (ps_if (PW.pt (pw_and (pt_cmpR op_notN (pv 3) pe_non (nomark _)) (pw_and1 (PW.pt (pw_or (pt_cmpR op_notN (pv 2) pe_non (nomark _)) (pw_or1 (pt_not (pt_val (pe_call FV (hr.mono (by decide)) (by rfl) gV kV bV .nil pass0 (pa_cons (pv 1) (pa_cons (pv 3) pa_nil)))))))))))
        pss_dead pss_nil)
      (pss_cons (ps_fld (pv 0) (pv 1) rfl) (pss_cons (ps_fld (pv 0) (pv 2) rfl) (pss_one (ps_fld (pv 0) (pv 3) rfl)))))), ?_⟩
    refine ⟨_, rfl, .ref q, true, rfl, lot_lv L hs, fun H1 s1 => ⟨_, rfl, iteF ?_⟩⟩
    have hs1 := sqT_same s1 hs
    have live : ∀ {k : Int}, k ∈ ls → liveB ls (some k) = true := fun h => by rw [liveB_key L.ks, decide_eq_true h]
    have hr1 : H1 r = some (.ins C dx []) := s1 _ _ hr0
    have fin : ∀ D : Ends, (∀ σ H', H' r = some (.ins C dx (rowF q up dn)) → Keep r H H' → D.nx σ H') → ∀ σ : L2.St, σ = [some (.ref r), some (.ref q), some (mV up), some (mV dn)] →
        tSeq (sFld K (tVar 0) (tVar 1) "lot") (tSeq (sFld K (tVar 0) (tVar 2) "coming") (sFld K (tVar 0) (tVar 3) "going")) D σ H1 := fun D hD σ e => by
      subst e
      refine ⟨_, rfl, _, rfl, r, C, dx, _, rfl, hr1, T.cl, T.nL, (by show 0 < 1000; decide), ?_⟩
      refine ⟨_, rfl, _, rfl, r, C, dx, _, rfl, upd_same, T.cl, T.nC, (by show 1 < 1000; decide), ?_⟩
      refine ⟨_, rfl, _, rfl, r, C, dx, _, rfl, upd_same, T.cl, T.nG, (by show 2 < 1000; decide), ?_⟩
      exact hD _ _ upd_same (((Keep.ofSame s1).upd).upd.upd)
    have last := fin { nx := fun _ H' => Q .non H', rt := Q } (fun σ H' h1 h2 => k H' h1 h2) _ rfl
    have hu := L.u
    have hd := L.d
    cases up with
    | none =>
      refine ⟨_, rfl, rfl, _, rfl, iteF (iteF ?_)⟩
      cases dn with
      | none => exact ⟨_, rfl, rfl, _, rfl, iteF (iteF last)⟩
      | some d =>
        refine ⟨_, rfl, rfl, _, rfl, iteT ⟨_, rfl, rfl, _, rfl, iteF ⟨_, rfl, _, rfl, q, ls, .int d, some d, rfl, hs1, .int d, _, rfl, ?_⟩⟩⟩
        rw [live (hd d rfl).2]
        exact iteF last
    | some u =>
      refine ⟨_, rfl, rfl, _, rfl, iteT ⟨_, rfl, _, rfl, q, ls, .int u, some u, rfl, hs1, .int u, _, rfl, ?_⟩⟩
      rw [live (hu u rfl)]
      refine iteF ?_
      cases dn with
      | none => exact ⟨_, rfl, rfl, _, rfl, iteF (iteF last)⟩
      | some d => exact absurd (hd d rfl).1 (by intro z; cases z)
end
end K03

end

section
set_option Elab.async false
set_option linter.all false
set_option maxRecDepth 100000
set_option maxHeartbeats 4000000
namespace K03
open PySem L2 SB
abbrev bmVE : List Value := [.type "ValueError", .type "Exception", .type "BaseException", .type "object"]
section
variable {P : Program} {w : World} {K : PySem.W.Frag} {mg : Str → Option Value} {base : Heap}
theorem ok_initR {f C : Addr} {fd : FuncData} (F : Fun K "__init__" "InvalidRow.__init__" s_InvalidRow_init f fd) (X : XFacts K mg "InvalidRow" C f bmVE "ValueError.__new__") (nF : PySem.W.findIn K (.ref C) "at" = some none) :
    FnOk P w K mg base CX0 1 f fd ["self", "at"] (spX C 1 (fs1 "InvalidRow" "at")) := by
  refine F.ok sc_InvalidRow_init (fun vs H Q E h => ?_) (fun cdv A outer s H vs Q E hr h => ?_)
  · obtain ⟨a, ws, rfl, hl, _⟩ := h
    simpa using hl
  · obtain ⟨a, ws, rfl, hl, ha, k⟩ := h
    obtain ⟨x, rfl⟩ : ∃ x, ws = [x] := by
      match ws, hl with
      | [x], _ => exact ⟨x, rfl⟩
    refine ⟨_, pss_cons (ps_put PySem.F.store_ValueError X.T X.nC (pv 0) pe_str) (pss_one (ps_put PySem.F.store_ValueError X.T nF (pv 0) (pv 1))), ?_⟩
    refine ⟨_, rfl, a, rfl, .inl ⟨ha, fun d hd hda => ?_⟩⟩
    have had : a ≠ d := fun e => hda e.symm
    refine ⟨_, rfl, _, rfl, a, rfl, .inr ⟨d, _, upd_same, by rw [upd_ne hda, upd_same], by decide, ?_⟩⟩
    refine k d _ hd hda (by rw [upd_ne had, upd_same]) upd_same fun c h1 h2 => ?_
    rw [upd_ne h2, upd_ne h1, upd_ne h2]
theorem ok_initT {f C : Addr} {fd : FuncData} (F : Fun K "__init__" "InvalidText.__init__" s_InvalidText_init f fd) (X : XFacts K mg "InvalidText" C f bmVE "ValueError.__new__") (nF : PySem.W.findIn K (.ref C) "at" = some none) :
    FnOk P w K mg base CX0 1 f fd ["self", "at"] (spX C 1 (fs1 "InvalidText" "at")) := by
  refine F.ok sc_InvalidText_init (fun vs H Q E h => ?_) (fun cdv A outer s H vs Q E hr h => ?_)
  · obtain ⟨a, ws, rfl, hl, _⟩ := h
    simpa using hl
  · obtain ⟨a, ws, rfl, hl, ha, k⟩ := h
    obtain ⟨x, rfl⟩ : ∃ x, ws = [x] := by
      match ws, hl with
      | [x], _ => exact ⟨x, rfl⟩
    refine ⟨_, pss_cons (ps_put PySem.F.store_ValueError X.T X.nC (pv 0) pe_str) (pss_one (ps_put PySem.F.store_ValueError X.T nF (pv 0) (pv 1))), ?_⟩
    refine ⟨_, rfl, a, rfl, .inl ⟨ha, fun d hd hda => ?_⟩⟩
    have had : a ≠ d := fun e => hda e.symm
    refine ⟨_, rfl, _, rfl, a, rfl, .inr ⟨d, _, upd_same, by rw [upd_ne hda, upd_same], by decide, ?_⟩⟩
    refine k d _ hd hda (by rw [upd_ne had, upd_same]) upd_same fun c h1 h2 => ?_
    rw [upd_ne h2, upd_ne h1, upd_ne h2]
theorem ok_initL {f C : Addr} {fd : FuncData} (F : Fun K "__init__" "InvalidLot.__init__" s_InvalidLot_init f fd) (X : XFacts K mg "InvalidLot" C f bmVE "ValueError.__new__") (nF : PySem.W.findIn K (.ref C) "value" = some none) :
    FnOk P w K mg base CX0 1 f fd ["self", "value"] (spX C 1 (fs1 "InvalidLot" "value")) := by
  refine F.ok sc_InvalidLot_init (fun vs H Q E h => ?_) (fun cdv A outer s H vs Q E hr h => ?_)
  · obtain ⟨a, ws, rfl, hl, _⟩ := h
    simpa using hl
  · obtain ⟨a, ws, rfl, hl, ha, k⟩ := h
    obtain ⟨x, rfl⟩ : ∃ x, ws = [x] := by
      match ws, hl with
      | [x], _ => exact ⟨x, rfl⟩
    refine ⟨_, pss_cons (ps_put PySem.F.store_ValueError X.T X.nC (pv 0) pe_str) (pss_one (ps_put PySem.F.store_ValueError X.T nF (pv 0) (pv 1))), ?_⟩
    refine ⟨_, rfl, a, rfl, .inl ⟨ha, fun d hd hda => ?_⟩⟩
    have had : a ≠ d := fun e => hda e.symm
    refine ⟨_, rfl, _, rfl, a, rfl, .inr ⟨d, _, upd_same, by rw [upd_ne hda, upd_same], by decide, ?_⟩⟩
    refine k d _ hd hda (by rw [upd_ne had, upd_same]) upd_same fun c h1 h2 => ?_
    rw [upd_ne h2, upd_ne h1, upd_ne h2]
theorem ok_initM {f C : Addr} {fd : FuncData} (F : Fun K "__init__" "InvalidMark.__init__" s_InvalidMark_init f fd) (X : XFacts K mg "InvalidMark" C f bmVE "ValueError.__new__") (nF : PySem.W.findIn K (.ref C) "value" = some none) :
    FnOk P w K mg base CX0 1 f fd ["self", "value"] (spX C 1 (fs1 "InvalidMark" "value")) := by
  refine F.ok sc_InvalidMark_init (fun vs H Q E h => ?_) (fun cdv A outer s H vs Q E hr h => ?_)
  · obtain ⟨a, ws, rfl, hl, _⟩ := h
    simpa using hl
  · obtain ⟨a, ws, rfl, hl, ha, k⟩ := h
    obtain ⟨x, rfl⟩ : ∃ x, ws = [x] := by
      match ws, hl with
      | [x], _ => exact ⟨x, rfl⟩
    refine ⟨_, pss_cons (ps_put PySem.F.store_ValueError X.T X.nC (pv 0) pe_str) (pss_one (ps_put PySem.F.store_ValueError X.T nF (pv 0) (pv 1))), ?_⟩
    refine ⟨_, rfl, a, rfl, .inl ⟨ha, fun d hd hda => ?_⟩⟩
    have had : a ≠ d := fun e => hda e.symm
    refine ⟨_, rfl, _, rfl, a, rfl, .inr ⟨d, _, upd_same, by rw [upd_ne hda, upd_same], by decide, ?_⟩⟩
    refine k d _ hd hda (by rw [upd_ne had, upd_same]) upd_same fun c h1 h2 => ?_
    rw [upd_ne h2, upd_ne h1, upd_ne h2]
end
end K03

end

section
set_option Elab.async false
set_option linter.all false
set_option maxRecDepth 100000
set_option maxHeartbeats 4000000
namespace K03
open PySem L2 SB
theorem key_text : ∀ n : Fin 1000, (toString ((n.val : Nat) : Int) : Str).length ≤ 4 := by decide +kernel
theorem key_len {k : Int} (h0 : 0 ≤ k) (h1 : k ≤ 999) : (toString k : Str).length ≤ 4 := by
  have := key_text ⟨k.toNat, by omega⟩
  have e : ((k.toNat : Nat) : Int) = k := by omega
  simp only [e] at this
  exact this
def bef (ls : List Int) (up : Option Int) : List Int := ls.filter fun k => !decide (V.int k = mV up)
def spBefore (K : PySem.W.Frag) (C : Addr) : Sp := fun vs H Q _ => ∃ r q ls up dn, vs = [.ref r] ∧ RowAt C H r q up dn ∧ SqT K H q (ls.map V.int) ∧ ls.length ≤ 1000 ∧
  ∀ t H', H t = none → Same H H' → H' t = some (.tup ((bef ls up).map V.int)) → Q (.ref t) H'
def spBack (K : PySem.W.Frag) (C : Addr) : Sp := fun vs H Q _ => ∃ r q ls up dn, vs = [.ref r] ∧ RowAt C H r q up dn ∧ SqT K H q (ls.map V.int) ∧ Lot ls up dn ∧
  ∀ r' H', H r' = none → Same H H' → RowAt C H' r' q dn up → Q (.ref r') H'
theorem RowAt.sm {C r q : Addr} {H H' : Hp} {up dn : Option Int} (x : RowAt C H r q up dn) (s : Same H H') : RowAt C H' r q up dn := let ⟨dx, h⟩ := x; ⟨dx, s _ _ h⟩
theorem back_lot {ls : List Int} {up dn : Option Int} (L : Lot ls up dn) : Lot ls dn up where
  ks := L.ks
  ne := L.ne
  few := L.few
  u k e := (L.d k e).2
  d k e := by
    refine ⟨?_, L.u k e⟩
    cases dn with
    | none => rfl
    | some d =>
      have := (L.d d rfl).1
      rw [this] at e
      cases e
def gR {α : Type} (us ws : List α) : List α := us ++ ws
/-- a new row, by the promise of its __init__ -/
theorem row_new {K : PySem.W.Frag} {C x dx q : Addr} {H : Hp} {ls : List Int} {up dn : Option Int} {Q : VK} {E : XK} (hx : H x = none) (hdx : H dx = none) (ne : dx ≠ x) (hs : SqT K H q (ls.map V.int)) (L : Lot ls up dn)
    (k : ∀ H', Same H H' → RowAt C H' x q up dn → Q (.ref x) H') :
    spRow K C [.ref x, .ref q, mV up, mV dn] (upd (upd H dx (.own x)) x (.ins C dx [])) (fun v H3 => v = .non ∧ Q (.ref x) H3) E := by
  have s1 : Same H (upd (upd H dx (.own x)) x (.ins C dx [])) := Same.new (Same.new (Same.refl H) hdx) (by rw [upd_ne (fun e => ne e.symm)]; exact hx)
  refine ⟨x, dx, q, ls, up, dn, rfl, upd_same, sqT_same s1 hs, L, fun H' h1 kk => ⟨rfl, k H' (fun c o e => ?_) ⟨dx, h1⟩⟩⟩
  exact kk c o (s1 c o e) (ne_of_none e hx)
section
variable {P : Program} {w : World} {K : PySem.W.Frag} {mg : Str → Option Value} {base : Heap}
theorem ok_before {f C : Addr} {fd : FuncData} (F : Fun K "lot_before" "Row.lot_before" s_Row_lot_before f fd) (T : RowC K C) (gTup : mg "tuple" = none) : FnOk P w K mg base CX0 1 f fd ["self"] (spBefore K C) := by
  refine F.ok sc_Row_lot_before (fun vs H Q E h => ?_) (fun cdv A outer s H vs Q E hr h => ?_)
  · obtain ⟨r, q, ls, up, dn, rfl, _⟩ := h
    rfl
  · obtain ⟨r, q, ls, up, dn, rfl, ⟨dx, ha⟩, hs, hz, k⟩ := h
    have nd := sc_Row_lot_before.nd
    refine ⟨_, pss_one (ps_ret (pe_callTy call_tuple_of (by rfl) gTup (by decide +kernel) (pa_cons (pe_lc (own := [("key", 1)]) (g := gName 1) (tt := tTest (tOp rNe (tVar 1) (tFld K (tVar 0) "coming"))) (te := tVar 1) rfl nd (pi_tup (pe_fld (pv 0) rfl)) (blkOk_by (N := N_Row_lot_before) (sc := defScope s_Row_lot_before) (by decide +kernel))
        (fun _ _ _ _ _ => pg_name (i := 1) nd rfl (Or.inl rfl)) (fun _ _ _ _ _ => pts_one (pt_cmpR op_ne (pv 1) (pe_fld (pv 0) rfl) (nomark _))) (fun _ _ _ _ _ => pv 1)) pa_nil))), ?_⟩
    refine ⟨_, rfl, r, C, dx, _, _, rfl, ha, T.cl, T.nL, rfl, q, rfl, ⟨_, hs⟩, fun D hD => filt_tup (fun z => !decide (V.int z = mV up)) hs hD (by omega) (fun z H' R S hz s1 r1 r2 => ?_) (fun H1 s1 h1 => ?_)⟩
    · refine ⟨rfl, _, rfl, _, rfl, r, C, dx, _, _, rfl, s1 _ _ ha, T.cl, T.nC, rfl, by cases up <;> rfl, _, rfl, ite2 (fun e => ⟨_, rfl, r1 e⟩) (fun e => r2 (Bool.eq_false_iff.mpr e))⟩
    · refine ⟨D, _, rfl, .inl ⟨SqL.of h1, fun t ht => ?_⟩⟩
      refine k t _ ?_ (Same.new s1 ht) upd_same
      cases e : H t with
      | none => rfl
      | some o => rw [s1 _ _ e] at ht; cases ht
theorem ok_back {f C fR : Addr} {fd fdR : FuncData} (F : Fun K "backward" "Row.backward" s_Row_backward f fd) (T : RowC K C) (gC : mg "Row" = some (.ref C)) (M : Mk K C fR) (FR : FnOk P w K mg base CX0 5 fR fdR ["self", "lot", "coming", "going"] (spRow K C))
    (kb : KBn K fdR ["self", "lot", "coming", "going"] 2 ["coming", "going"] gR gR) : FnOk P w K mg base CX0 7 f fd ["self"] (spBack K C) := by
  refine F.ok sc_Row_backward (fun vs H Q E h => ?_) (fun cdv A outer s H vs Q E hr h => ?_)
  · obtain ⟨r, q, ls, up, dn, rfl, _⟩ := h
    rfl
  · obtain ⟨r, q, ls, up, dn, rfl, ⟨dx, ha⟩, hs, L, k⟩ := h
    refine ⟨_, pss_one (ps_ret (pe_makeK M FR hr (by rfl) gC kb pass0 (pa_cons (pe_fld (pv 0) rfl) pa_nil) (pk_cons (pe_fld (pv 0) rfl) (pk_cons (pe_fld (pv 0) rfl) pk_nil)))), ?_⟩
    refine ⟨_, rfl, r, C, dx, _, _, rfl, ha, T.cl, T.nL, rfl, _, rfl, r, C, dx, _, _, rfl, ha, T.cl, T.nG, rfl, _, rfl, r, C, dx, _, _, rfl, ha, T.cl, T.nC, rfl, rfl, rfl, fun x dx' hx hdx ne => ?_⟩
    exact row_new hx hdx ne hs (back_lot L) fun H' s' ra => k x H' hx s' ra
end
end K03

end

section
set_option Elab.async false
set_option linter.all false
set_option maxRecDepth 100000
set_option maxHeartbeats 4000000
namespace SB
open PySem PySem.Spec PyProof.Rows L2
theorem dpAll_ints {K : PySem.W.Frag} {H : Hp} : ∀ zs : List Int, DpAll K H (zs.map V.int) (zs.map PyData.int)
  | [] => .nil
  | z :: zs => .cons (.int z) (dpAll_ints zs)
theorem cut_last (B : List V) (z : V) : cutV (B ++ [z]) (some (-1)) none = [z] := by
  unfold cutV
  have e : HT.sIx (B ++ [z]).length 0 (some (-1)) = B.length := by
    show (if (-1 : Int) < 0 then ((-1 : Int) + (((B ++ [z]).length : Nat) : Int)).toNat else min (-1 : Int).toNat (B ++ [z]).length) = _
    rw [if_pos (by decide), List.length_append]
    show ((-1 : Int) + ((B.length + 1 : Nat) : Int)).toNat = _
    omega
  rw [e, HT.sIx_none, List.length_append, List.drop_append_of_le_length (Nat.le_refl _), List.drop_length]
  show List.take (B.length + 1 - B.length) ([] ++ [z]) = [z]
  rw [show B.length + 1 - B.length = 1 by omega]
  rfl
theorem cut_last0 : cutV [] (some (-1)) none = [] := rfl
theorem cut_first (z : V) (B : List V) : cutV (z :: B) none (some 1) = [z] := by
  unfold cutV
  rw [HT.sIx_none, show HT.sIx (z :: B).length (z :: B).length (some 1) = min 1 (z :: B).length from HT.sIx_nat _ _ 1, List.drop_zero, List.length_cons, show min 1 (B.length + 1) - 0 = 1 by omega]
  rfl
theorem cut_first0 : cutV [] none (some 1) = [] := rfl
def lowL (ks : List Int) (k : Int) : List Int := match (ks.filter fun z => decide (z < k)).getLast? with
  | some z => [z]
  | none => []
def highL (ks : List Int) (k : Int) : List Int := match (ks.filter fun z => decide (z > k)).head? with
  | some z => [z]
  | none => []
theorem low_cut (ks : List Int) (k : Int) : cutV ((ks.filter fun z => decide (z < k)).map V.int) (some (-1)) none = (lowL ks k).map V.int := by
  unfold lowL
  rcases List.eq_nil_or_concat (ks.filter fun z => decide (z < k)) with h | ⟨B, z, h⟩
  · rw [h]; rfl
  · have h' : (ks.filter fun z => decide (z < k)) = B ++ [z] := by simpa using h
    rw [h', List.map_append, show [z].map V.int = [V.int z] from rfl, cut_last]
    simp
theorem high_cut (ks : List Int) (k : Int) : cutV ((ks.filter fun z => decide (z > k)).map V.int) none (some 1) = (highL ks k).map V.int := by
  unfold highL
  cases h : (ks.filter fun z => decide (z > k)) with
  | nil => rfl
  | cons z B => rw [List.map_cons, cut_first]; rfl
theorem lowL_len (ks : List Int) (k : Int) : (lowL ks k).length ≤ 1 := by
  unfold lowL; split <;> simp
theorem highL_len (ks : List Int) (k : Int) : (highL ks k).length ≤ 1 := by
  unfold highL; split <;> simp
theorem lowL_mem {ks : List Int} {k z : Int} (h : z ∈ lowL ks k) : z ∈ ks := by
  unfold lowL at h
  split at h
  · rename_i y e
    have : z = y := by simpa using h
    subst this
    exact (List.mem_filter.mp (List.mem_of_getLast? e)).1
  · cases h
theorem highL_mem {ks : List Int} {k z : Int} (h : z ∈ highL ks k) : z ∈ ks := by
  unfold highL at h
  split at h
  · rename_i y e
    have : z = y := by simpa using h
    subst this
    exact (List.mem_filter.mp (List.mem_of_head? e)).1
  · cases h
end SB

end

section
set_option Elab.async false
set_option linter.all false
set_option maxRecDepth 100000
set_option maxHeartbeats 4000000
/-! t[::-1] of a tuple. -/
namespace SB
open PySem PySem.Spec PyProof.Rows L2
theorem fm_congr {α β : Type} {f g : α → Option β} : ∀ {l : List α}, (∀ x ∈ l, f x = g x) → l.filterMap f = l.filterMap g
  | [], _ => rfl
  | a :: l, h => by
    rw [List.filterMap_cons, List.filterMap_cons, h a List.mem_cons_self, fm_congr fun x hx => h x (List.mem_cons_of_mem _ hx)]
theorem back_pick (xs : Array Value) : ((List.range xs.size).filterMap fun (m : Nat) => xs[(((xs.size : Int) - 1) + (m : Int) * (-1)).toNat]?).toArray = xs.toList.reverse.toArray := by
  have e := PySem.W.krv_all xs.toList.reverse.toArray
  rw [List.size_toArray, List.length_reverse, Array.length_toList, List.toList_toArray] at e
  refine congrArg List.toArray (Eq.trans (fm_congr fun m hm => ?_) e)
  have hm' : m < xs.size := List.mem_range.mp hm
  have i : (((xs.size : Int) - 1) + (m : Int) * (-1)).toNat = xs.size - 1 - m := by omega
  rw [i]
  have h2 : (xs.toList.reverse.toArray)[m]? = xs.toList[xs.size - 1 - m]? := by
    rw [List.getElem?_toArray, List.getElem?_reverse (by rw [Array.length_toList]; exact hm'), Array.length_toList]
  rw [h2, Array.getElem?_toList]
section
variable {prog : Program} {w : World} {A : Around} {E : Value → Shared → Prop} {s : Shared}
theorem sliceApplied_rev {sl : Addr} {t : Tok} {n : Nat} {Q : Int × Int × Nat → Shared → Prop} (hs : s.heap.IsSliceOf sl .none .none (.int (-1) t))
    (h : Q (((n : Int) - 1), -1, n) s) : wpAny (model prog w) A (Builtin.Slice.sliceApplied (.ref sl) (pure (n : Int))) Q E s := by
  obtain ⟨os, hos, hcs, hds⟩ := id hs
  unfold Builtin.Slice.sliceApplied Builtin.Slice.sliceFields
  refine wpAny_bind (wpAny_bind (wpAny_field hos hds (x := .none) rfl (wpAny_bind (wpAny_field hos hds (x := .none) rfl (wpAny_bind (wpAny_field hos hds (x := .int (-1) t) rfl (wpAny_pure ?_)))))))
  refine wpAny_bind (HT.slicePart_ (.int (-1) t) ?_)
  show wpAny _ _ (if ((-1 : Int) == 0) = true then _ else _) _ _ s
  rw [if_neg (by decide)]
  refine wpAny_bind (HT.slicePart_ .none (wpAny_bind (HT.slicePart_ .none (wpAny_bind (wpAny_pure ?_)))))
  have e : Builtin.Slice.sliceAdjust none none (-1) (n : Int) = (((n : Int) - 1), -1) := by
    unfold Builtin.Slice.sliceAdjust
    rfl
  show wpAny _ _ (match Builtin.Slice.sliceAdjust none none (-1) (n : Int) with | (lo, hi) => pure (lo, (-1 : Int), Builtin.Slice.slicePlaces lo hi (-1))) _ _ s
  rw [e]
  show wpAny _ _ (pure (((n : Int) - 1), (-1 : Int), Builtin.Slice.slicePlaces ((n : Int) - 1) (-1) (-1))) _ _ s
  have e2 : Builtin.Slice.slicePlaces ((n : Int) - 1) (-1) (-1) = n := by
    unfold Builtin.Slice.slicePlaces
    have h1 : ¬ ((-1 : Int) > 0) := by decide
    simp only [h1, if_false]
    rw [show (- -1 : Int) = 1 by decide]
    simp only [Int.ediv_one]
    split <;> omega
  rw [e2]
  exact wpAny_pure h
theorem getItem_tuple_rev {t sl : Addr} {items : Array Value} {tk : Tok} {Q : Value → Shared → Prop} (ht : IsTup s.heap t items) (hs : s.heap.IsSliceOf sl .none .none (.int (-1) tk))
    (h : Q (.ref s.heap.objs.size) { s with heap := s.heap.push { cls := .type "tuple", data := .seq items.toList.reverse.toArray } })
    (hsz : items.size ≤ sizeLine) : wpAny (model prog w) A (getItem (.ref t) (.ref sl)) Q E s := by
  have htake : sizeOk (.seq items.toList.reverse.toArray) := by
    show items.toList.reverse.toArray.size ≤ sizeLine
    rw [List.size_toArray, List.length_reverse, Array.length_toList]
    exact hsz
  obtain ⟨os, hos, hcs, hds⟩ := id hs
  have hTs : s.TypeIs (.ref sl) "slice" := ⟨os, hos, hcs⟩
  unfold getItem
  try with_reducible refine wpAny_holding ?_
  first | refine wpAny_bind (wpAny_pure ?_) | skip
  refine wpAny_bind (wpAny_sequenceKey ht.typeIs (by decide) ?_)
  refine wpAny_bind (wpAny_callSpecial?_slot (name := Str.ofString "__getitem__") ht.typeIs PyProof.Rows.slot_tuple_getitem
    (wpAny_call_entry PyProof.Rows.slot_tuple_getitem ht.typeIs entry_tuple_getitem ?_ (args_tuple_getitem _ _)))
  show wpAny _ _ (Builtin.Tuple.tupleItemsOf (.ref t) >>= _) _ _ s
  refine wpAny_bind (tupleItemsOf_ ht ?_)
  refine wpAny_bind (wpAny_typeOf hTs ?_)
  rw [if_pos (by decide)]
  refine wpAny_bind (sliceApplied_rev hs ?_)
  have hno : ¬ ((((items.size : Int) - 1) == 0 && (-1 : Int) == 1 && items.size == items.size) = true) := by
    intro q
    rw [Bool.and_eq_true, Bool.and_eq_true] at q
    exact absurd q.1.2 (by decide)
  show wpAny _ _ (if (((items.size : Int) - 1) == 0 && (-1 : Int) == 1 && items.size == items.size) = true then _ else _) _ _ s
  rw [if_neg hno, back_pick]
  first
    | exact wpAny_bind (m := Builtin.Tuple.tupleExact _) (wpAny_newObj_type (wpAny_pure ⟨_, rfl, wpAny_pure h⟩) htake)
    | exact wpAny_bind (m := Builtin.Tuple.tupleExact _) (wpAny_newObj_type (wpAny_bind (wpAny_pure (wpAny_pure ⟨_, rfl, wpAny_pure h⟩))) htake)
    | exact wpAny_bind (wpAny_bind (m := Builtin.Tuple.tupleExact _) (wpAny_newObj_type (wpAny_pure (wpAny_pure ⟨_, rfl, wpAny_pure h⟩)) htake))
    | exact wpAny_bind (wpAny_bind (m := Builtin.Tuple.tupleExact _) (wpAny_newObj_type (wpAny_pure ⟨_, rfl, wpAny_pure h⟩) htake))
end
def tRevT (K : PySem.W.Frag) (te : TE) : TE := fun σ H Q => te σ H fun x H1 => ∃ a xs, x = .ref a ∧ SqT K H1 a xs ∧ ∀ p, H1 p = none → Q (.ref p) (upd H1 p (.tup xs.reverse))
theorem pe_revT {X : Cx} {e : Expr} {te : TE} {k : Nat} {p1 p2 p3 pos : Pos} (he : PE X e te) : PE X (.Subscript e (.Slice none none (some (.UnaryOp .USub (.Constant (.int 1) k p1) p2)) p3) pos) (tRevT X.K te) := by
  refine ⟨fun pins s σ H Q I h => ?_⟩
  refine Subscript_ (thn (he.run pins s σ H _ I h) fun v s1 ⟨x, H1, I1, r1, q1⟩ => ?_)
  obtain ⟨a, xs, ex, hx, q⟩ := q1
  subst ex
  cases r1
  have hst : PO X (some (.UnaryOp .USub (.Constant (.int 1) k p1) p2)) (tPart (tUn (rU fun i => .int (-i)) (tC (.int 1)))) := po_some (pe_un un_neg pe_int)
  refine wpAny_Slice (thn (po_none.run pins s1 σ H1 (fun o H2 => o = none ∧ H2 = H1) I1 ⟨rfl, rfl⟩) fun vl s2 ⟨l, H2, I2, pl, el, e2⟩ => ?_)
  subst el e2
  refine thn (po_none.run pins s2 σ H2 (fun o H3 => o = none ∧ H3 = H2) I2 ⟨rfl, rfl⟩) fun vu s3 ⟨u, H3, I3, pu, eu, e3⟩ => ?_
  subst eu e3
  refine thn (hst.run pins s3 σ H3 (fun o H4 => o = some (-1) ∧ H4 = H3) I3 ⟨1, rfl, -1, rfl, rfl, rfl⟩) fun vs s4 ⟨o, H4, I4, ps, eo, e4⟩ => ?_
  subst eo e4
  have I5 : Inv X pins σ H4 { s4 with heap := s4.heap.push { cls := .type "slice", data := .fields #[vl, vu, vs] } } := I4.kept (t' := s4.toks) fun b ob q => Heap.get?_push_of_some _ q
  obtain ⟨its, r, ht, hz⟩ := I5.tuple hx
  have hlen := r.length
  cases pl
  cases pu
  cases ps with
  | int _ t' =>
    show wpAny (model X.prog X.w) X.A (subscriptTail e (.Slice none none (some (.UnaryOp .USub (.Constant (.int 1) k p1) p2)) p3) (.ref a) (.ref s4.heap.objs.size)) (EP X pins σ Q) X.xe { s4 with heap := s4.heap.push { cls := .type "slice", data := .fields #[.none, .none, .int (-1) t'] } }
    refine tail_any (ops := [.ref a, .ref s4.heap.objs.size]) ht.typeIs (PyProof.Rows.slot_tuple_getitem.lookup) ?_ (by with_unfolding_all rfl)
    refine getItem_tuple_rev ht (Heap.IsSliceOf.new _ .none .none (.int (-1) t')) ?_ (by rw [List.size_toArray]; omega)
    refine ⟨.ref _, _, I5.laid (t' := s4.toks) (o := .tup xs.reverse) (fun b ob q => Heap.get?_push_of_some _ q) (Nat.le_refl _) ?_, rfl, q _ (I5.hok.fresh (Nat.le_refl _))⟩
    exact ⟨by rw [List.length_reverse]; exact hz, _, r.reverse, IsTup.new _ _⟩
end SB

end

section
set_option Elab.async false
set_option linter.all false
set_option maxRecDepth 100000
set_option maxHeartbeats 8000000
/-! sorted(set(xs)), xs a list of whole numbers. -/
namespace SB
open PySem PySem.Spec PyProof.Rows L2
abbrev emS (w : World) : Obj := { cls := .type "set", dict := none, data := .set #[] 0 (.fresh 0 0 (!w.params.followText "set-order")) }
section
variable {P : Program} {w : World} {A : Around} {E : Value → Shared → Prop} {s : Shared}
theorem set_of_listI {l : Addr} {its : Array Value} (ks : List Int) {Q : Value → Shared → Prop} (nh : A.handled = none) (lst : s.heap.IsList l its) (iA : IntsAre its.toList ks) (room : ks.length + 1 < scanBound)
    (fin : ∀ (h' : Heap) (tk c : Nat), SetR w h' s.heap.objs.size (fun j => decide (j ∈ ks)) c → c ≤ ks.length → (∀ b o, s.heap.get? b = some o → h'.get? b = some o) → Q (.ref s.heap.objs.size) { s with heap := h', toks := tk }) :
    wpAny (model P w) A (call (.type "set") [.ref l]) Q E s := by
  have size : its.size = ks.length := (Array.length_toList (xs := its)).symm.trans (IntsAre.length iA)
  obtain ⟨c0, t0, mro0⟩ := F.called_set.mro
  have made0 := F.called_set.made
  have sub0 := F.called_set.sub
  refine wpAny_call (codeAny_of_tree (show wpAny _ _ (callAny (.type "set") _) _ _ _ from ?_))
  refine wpAny_pure ⟨Code.quiet_builtin _ (by decide +kernel), codeAny_builtin F.entry_type_call ?_⟩
  rw [Around.under_plain (weight_type_call_type "set" [.ref l] []) rfl]
  have not0 := F.called_set.notType
  have can0 := F.called_set.canCreate
  have one0 := F.typeCall_set_1 (.ref l)
  repeat (any_goals (first | assumption | wp_step))
  refine codeAny_mono (code_set_led1 (.ref l) (E := E) (Q₁ := fun obj s1 => obj = .ref s.heap.objs.size ∧ s1 = { s with heap := s.heap.push (emS w) }) ⟨rfl, rfl⟩) fun r s1 hr => ?_
  cases r with
  | error e => exact hr
  | ok fl =>
    cases fl with
    | ret obj =>
      obtain ⟨rfl, rfl⟩ := hr
      have atS : (s.heap.push (emS w)).get? s.heap.objs.size = some (emS w) := Heap.get?_push_size _ rfl
      have tyS : Shared.TypeIs { s with heap := s.heap.push (emS w) } (.ref s.heap.objs.size) "set" := ⟨_, atS, rfl⟩
      have look0 := F.called_set.init.lookup
      have bind0 := F.called_set.init.bind (.ref s.heap.objs.size)
      repeat (any_goals (first | assumption | wp_step))
      refine codeAny_mono (codeAny_call_builtin (R := wants (fun r s2 => r = .none ∧ ∃ h' tk c, s2 = { s with heap := h', toks := tk } ∧ SetR w h' s.heap.objs.size (fun j => decide (j ∈ ks)) c ∧ c ≤ ks.length ∧
          (∀ b o, s.heap.get? b = some o → h'.get? b = some o)) E) F.called_set.init.plain F.entry_set_init (check_set_init_1 tyS ?_)) fun r2 s2 hr2 => ?_
      · obtain ⟨ol, hol, hcl, nl, hdl⟩ := lst
        obtain ⟨oc, odd, oda, osl⟩ := ol
        simp only at hcl hdl
        subst hcl hdl
        have hol2 : (s.heap.push (emS w)).get? l = some { cls := .type "list", dict := odd, data := .seq its nl, slots := osl } := Heap.get?_push_of_some _ hol
        have sls := F.sub_list_set
        have slf := F.sub_list_frozenset
        have nd : (Value.type "list" == Value.type "dict") = false := by decide
        have lst1 : (s.heap.push (emS w)).IsList l its := ⟨_, hol2, rfl, nl, rfl⟩
        unfold Builtin.«set.__init__» noKeywords Builtin.Frozenset.updateFrom
        generalize itE : pyIter = IT
        wp_walk
        subst itE
        refine wpAny_pyIter_list lst1 (wpAny_bind (wpAny_runValue ?_))
        have lt0 : l < s.heap.objs.size := Heap.lt_size hol
        have nh3 : A.in1.in1.in1.handled = none := by simp [nh]
        have apart : l ≠ (s.heap.push (emS w)).objs.size := by
          rw [Heap.size_push]
          exact Nat.ne_of_lt (Nat.lt_succ_of_lt lt0)
        have out : s.heap.objs.size ∉ [(s.heap.push (emS w)).objs.size, l] := by
          rw [Heap.size_push]
          simp only [List.mem_cons, List.not_mem_nil, or_false, not_or]
          exact ⟨Nat.ne_of_lt (Nat.lt_succ_self _), Nat.ne_of_gt lt0⟩
        have vals : ∀ (i : Nat) (v : Value), its[i]? = some v → ∃ k t, ks[i]? = some k ∧ v = .int k t := fun i v hv => by
          have hi : i < ks.length := by
            rw [← size]
            exact (Array.getElem?_eq_some_iff.mp hv).1
          obtain ⟨t, e⟩ := IntsAre.int_at iA i v (by rw [Array.getElem?_toList]; exact hv)
          refine ⟨ks[i], t, List.getElem?_eq_getElem hi, ?_⟩
          rw [e, List.getD_eq_getElem?_getD, List.getElem?_eq_getElem hi]
          rfl
        refine set_update_ints ((Walks.list nh3 _ l apart its).toS) s.heap.objs.size out ks size room vals (its.size - 0) 0 _ (by omega) (Nat.zero_le _) ⟨⟨_, Heap.get?_push_size _ rfl, rfl, rfl⟩, (lst1.push _)⟩ ?fresh ?rest
        case fresh => exact ⟨0, Nat.le_refl 0, setR_new_at (Heap.get?_push_of_some _ atS)⟩
        case rest =>
          intro s3 c3 mv hc3 R3
          obtain ⟨h3, g3, d3, tk3, os3⟩ := s3
          have eg : g3 = s.gens := mv.gens
          have ed : d3 = s.drawn := mv.drawn
          have eo : os3 = s.os := mv.os
          subst eg ed eo
          show wpAny _ _ _ _ _ _
          refine wpAny_pure (show wpAny _ _ (ret Value.none) _ _ _ from ?_)
          rw [size] at hc3
          refine wpAny_pure ⟨rfl, h3, tk3, c3, rfl, R3, hc3, fun b o e => ?_⟩
          have b0 : b < s.heap.objs.size := Heap.lt_size e
          have b2 : b ≠ (s.heap.push (emS w)).objs.size := by
            rw [Heap.size_push]
            exact Nat.ne_of_lt (Nat.lt_succ_of_lt b0)
          refine mv.heap b o ?_ (Heap.get?_push_of_some _ (Heap.get?_push_of_some _ e))
          simp only [List.mem_cons, List.not_mem_nil, or_false, not_or]
          exact ⟨Nat.ne_of_lt b0, b2⟩
      · cases r2 with
        | error e => exact hr2
        | ok f2 =>
          cases f2 with
          | ret r =>
            obtain ⟨rfl, h2, tk2, c2, rfl, R2, hc2, kk2⟩ := hr2
            repeat (any_goals (first | assumption | wp_step))
            exact fin h2 tk2 c2 R2 hc2 kk2
          | next => exact hr2.elim
          | brk => exact hr2.elim
          | cont => exact hr2.elim
    | next => exact hr.elim
    | brk => exact hr.elim
    | cont => exact hr.elim
end
def rSetI (K : PySem.W.Frag) (w : World) : List V → Hp → VK → Prop := fun xs H Q => ∃ (l : Addr) (ks : List Int), xs = [.ref l] ∧ SqL K H l (ks.map V.int) ∧ ks.length ≤ 60 ∧
  ∀ p c, H p = none → c ≤ ks.length → Q (.ref p) (upd H p (SetO w p (fun j => decide (j ∈ ks)) c))
theorem cr_setI {X : Cx} (hc : X.calm = true) : CallR X (.type "set") (rSetI X.K X.w) := by
  intro pins s σ H xs us Q I r h
  obtain ⟨l, ks, rfl, hs, hz, q⟩ := h
  obtain ⟨its, rv, hl, _⟩ := I.list hs
  rw [Vals.ref1 r]
  refine set_of_listI ks (I.ok.hd hc) hl.isList (by simpa using rv.ints) (by unfold scanBound; omega) fun h' tk c R hcn k => ?_
  have hlt : s.heap.objs.size ≤ s.heap.objs.size := Nat.le_refl _
  exact ⟨.ref _, upd H s.heap.objs.size (SetO X.w s.heap.objs.size (fun j => decide (j ∈ ks)) c), I.laid (t' := tk) k hlt (setO_new R), rfl, q _ _ (I.hok.fresh hlt) hcn⟩
end SB

end

section
set_option Elab.async false
set_option linter.all false
set_option maxRecDepth 100000
set_option maxHeartbeats 4000000
/-! repr of an own object; repr of data within data. -/
namespace SB
open PySem PySem.Spec PyProof.Rows L2
section
variable {prog : Program} {w : World} {A : Around} {E : Value → Shared → Prop} {s : Shared} {K : PySem.W.Frag} {x C f : Addr} {ox : Obj} {od : Option Obj}
theorem special_of_own {M : Model} {name : Str} {r : Option Value} {Q : Option Value → Shared → Prop} (X : K.In s.heap) (I : PySem.W.InstAt s.heap x ox C od) (hs : PySem.W.findIn K (.ref C) name = some r) (hq : Q r s) :
    wpAny M A (specialOf (.ref x) name) Q E s := by
  unfold specialOf
  exact wpAny_bind (I.type.here ((PySem.W.looks_findIn X hs).here hq))
theorem call_repr_own {Q : Value → Shared → Prop} (hu : A.units + 1 < cLine) (X : K.In s.heap) (I : PySem.W.InstAt s.heap x ox C od) (hs : PySem.W.findIn K (.ref C) "__repr__" = some (some (.ref f))) (hf : PySem.W.isFn K (.ref f) = true)
    (h : wpAny (model prog w) A.in1 (call (.ref f) [.ref x]) (fun r s₁ => ∃ x t, r = .str x t ∧ Q r s₁) E s) : wpAny (model prog w) A (call (.builtin "repr") [.ref x]) Q E s := by
  refine Calls.call_function_entry F.kind_repr F.plain_repr F.entry_repr (F.args_repr1 _) ?_
  unfold Builtin.«repr»
  refine wpAny_bind (wpAny_pure ?_)
  refine wpAny_bind (m := cRoomFor _ _) (wpAny_cRoomFor (by show A.units + 1 < cLine; exact hu) ?_)
  refine wpAny_bind (special_of_own X I hs ?_)
  refine wpAny_bind (m := callSpecialIfBound? (.ref x) (Str.ofString "__repr__")) (PySem.W.ifBound_K X I hs hf (wpAny_mono h (fun r s₁ h₁ => ?_) fun _ _ e => e))
  obtain ⟨y, t, rfl, hq⟩ := h₁
  refine wpAny_bind (wpAny_isInstance (T := "str") (b := true) rfl isSubtype_str_str ?_)
  exact wpAny_pure ⟨_, rfl, hq⟩
end
/-- repr(o), o an instance of C: what its __repr__ promises, which is a text -/
def rReprO (C : Addr) (sp : Sp) : List V → Hp → VK → Prop := fun xs H Q => ∃ a dx fs, xs = [.ref a] ∧ H a = some (.ins C dx fs) ∧ sp [.ref a] H (fun v H' => ∃ z, v = .str z ∧ Q v H') (fun _ _ _ => False)
section
variable {X : Cx} {C f : Addr} {fd : FuncData} {k : Nat} {sp : Sp}
theorem cr_reprO (hs : PySem.W.findIn X.K (.ref C) "__repr__" = some (some (.ref f))) (hf : PySem.W.isFn X.K (.ref f) = true) (F : FnOk X.prog X.w X.K X.mg X.base CX0 k f fd ["self"] sp) (hr : Room (k + 1) X.A) (hb : Binds X.K fd ["self"] []) :
    CallR X (.builtin "repr") (rReprO C sp) := by
  intro pins s σ H xs us Q I r h
  obtain ⟨a, dx, fs, rfl, e, q⟩ := h
  obtain ⟨u, rfl, ru⟩ := vals1 r
  obtain rfl : u = Value.ref a := ru
  obtain ⟨mA, O, _, _, _, _⟩ := ins_get I.hok e
  obtain ⟨od, J, _⟩ := O.look
  refine call_repr_own (by have := hr.un; omega) I.kIn J hs hf ?_
  have r1 : Vals [V.ref a] [Value.ref a] := .cons rfl .nil
  refine wpAny_call (codeAny_mono (F.run X.A.in1 X.stack s H ⟨[.ref a], []⟩ [.ref a] [.ref a] _ _ hr.in1 I.env0.in1 (hb s [.ref a] I.kIn rfl) r1 q) fun r s' hq => ?_)
  cases r with
  | error e' => exact absurd hq (by intro z; exact z)
  | ok fl =>
    cases fl with
    | ret u =>
      obtain ⟨v, H', J', rv, z, ev, q'⟩ := I.after hq
      subst ev
      obtain ⟨t, et⟩ := rv
      exact ⟨z, t, et, .str z, H', J', ⟨t, et⟩, q'⟩
    | next => exact False.elim hq
    | brk => exact False.elim hq
    | cont => exact False.elim hq
theorem cr_or {f : Value} {r1 r2 : List V → Hp → VK → Prop} (h1 : CallR X f r1) (h2 : CallR X f r2) : CallR X f (fun xs H Q => r1 xs H Q ∨ r2 xs H Q) := by
  intro pins s σ H xs us Q I r h
  exact h.elim (h1 pins s σ H xs us Q I r) (h2 pins s σ H xs us Q I r)
end
/-- v is, whatever stands around, the datum d -/
def Rd (K : PySem.W.Frag) (H : Hp) (v : V) (d : PyData) : Prop := ∀ (X : Cx) (pins : List (Addr × Obj)) (σ : L2.St) (s : Shared) (u : Value), X.K = K → Inv X pins σ H s → RelV v u → ∃ as, Reads s.heap u d as ∧ (d.hasDict = true → sysModules ∉ as)
/-- repr(v), by the datum -/
def rReprD (K : PySem.W.Frag) : List V → Hp → VK → Prop := fun xs H Q => ∃ v d, xs = [v] ∧ Rd K H v d ∧ d.showable = true ∧ d.shown.length ≤ sizeLine ∧ d.depth ≤ 8 ∧ Q (.str d.shown) H
theorem cr_reprD {X : Cx} (hg : X.A.guards = some []) (hu : X.A.units + 40 < cLine) : CallR X (.builtin "repr") (rReprD X.K) := by
  intro pins s σ H xs us Q I r h
  obtain ⟨v, d, rfl, sh, hs, hz, hd, q⟩ := h
  obtain ⟨u, rfl, ru⟩ := vals1 r
  have fin : ∀ (h' : Heap) (t : Tok) (tk : Nat), (∀ b o, s.heap.get? b = some o → h'.get? b = some o) → EP X pins σ Q (.str d.shown t) { s with heap := h', toks := tk } := fun h' t tk k => ⟨.str d.shown, H, I.kept k, ⟨t, rfl⟩, q⟩
  obtain ⟨as, rd, hsm⟩ := sh X pins σ s u rfl I ru
  cases rd with
  | none => exact P.repr_of_none (fin s.heap _ _ fun _ _ e => e)
  | bool b => exact P.repr_of_bool (fin s.heap _ _ fun _ _ e => e)
  | int i t => exact P.repr_of_int (by simpa [PyData.showable] using hs) (fin s.heap _ _ fun _ _ e => e)
  | str x t => exact P.repr_of_str (fin s.heap _ _ fun _ _ e => e) hz
  | list a1 a2 a3 a4 => exact repr_of_reads' (.list a1 a2 a3 a4) hs hsm hg (by omega) (fun _ _ e => e) (fun h' t tk k => fin h' t tk k) hz
  | tuple a1 a2 a3 a4 => exact repr_of_reads' (.tuple a1 a2 a3 a4) hs hsm hg (by omega) (fun _ _ e => e) (fun h' t tk k => fin h' t tk k) hz
  | dict a1 a2 a3 a4 a5 => exact repr_of_reads' (.dict a1 a2 a3 a4 a5) hs hsm hg (by omega) (fun _ _ e => e) (fun h' t tk k => fin h' t tk k) hz
end SB

end

section
set_option Elab.async false
set_option linter.all false
set_option maxRecDepth 100000
set_option maxHeartbeats 4000000
/-! own objects: len, in, ==, != by their own methods. -/
namespace SB
open PySem PySem.Spec PyProof.Rows L2
section
variable {prog : Program} {w : World} {A : Around} {E : Value → Shared → Prop} {s : Shared} {K : PySem.W.Frag} {x C f L : Addr} {ox : Obj} {od : Option Obj} {h₀ : Heap} {m : Str → Option Value} {b tb : Value}
theorem call_objNe {Q : Value → Shared → Prop} (hu : A.units + 1 < cLine) (X : K.In s.heap) (I : PySem.W.InstAt s.heap x ox C od) (hob : PySem.W.mroIn K C (.type "object") = some true)
    (hs : PySem.W.findIn K (.ref C) "__eq__" = some (some (.ref f))) (hf : PySem.W.isFn K (.ref f) = true)
    (h : wpAny (model prog w) A.in1 (call (.ref f) [.ref x, b]) (fun v s' => ∃ r, v = .bool r ∧ Q (.bool (!r)) s') E s) :
    wpAny (model prog w) A (call (.builtin "object.__ne__") [.ref x, b]) Q E s := by
  have L0 := I.type (M := model prog w)
  have L1 := PySem.W.looks_mroIn (M := model prog w) X hob
  refine wpAny_call (codeAny_call_builtin F.cmp_object.ne.plain F.cmpEntry_ne ?_)
  have ha := F.cmpArgs_ne (.ref x) b
  simp only [checkBuiltinCall, F.cmpKind_ne, F.cmpSplit_ne]
  unfold isInstance
  refine wpAny_bind (wpAny_bind (L0.here (L1.here ?_)))
  have h2 : ∀ sig, Manifest.signature? "object.__ne__" = some sig → Bind.checkArgs "object.__ne__" sig ⟨[.ref x, b], []⟩ = pure () := fun sig hsig => by
    simp only [argsOk, hsig] at ha
    exact ha
  have go : wpAny (model prog w) A.in1 (Builtin.«object.__ne__» ⟨[.ref x, b], []⟩) (GQ.FinOf prog w A (wants Q E)) (fun e s' => wants Q E (.error e) s') s := by
    unfold Builtin.«object.__ne__»
    refine wpAny_bind (m := slotArgs "__ne__" 1 _) (wpAny_pure ?_)
    refine wpAny_bind (wpAny_cRoomFor (by show A.units + 1 < cLine; exact hu) ?_)
    refine wpAny_bind (m := callSpecialIfBound? (.ref x) (Str.ofString "__eq__") [b]) (PySem.W.ifBound_K X I hs hf (wpAny_mono h (fun r s₁ h₁ => ?_) fun _ _ e => e))
    obtain ⟨y, rfl, hq⟩ := h₁
    refine wpAny_bind (wpAny_truthy_bool ?_)
    exact wpAny_pure hq
  cases hsig : Manifest.signature? "object.__ne__" with
  | none => exact wpAny_pure go
  | some sig =>
    show wpAny _ _ (Bind.checkArgs _ sig ⟨.ref x :: [b], []⟩) _ _ _
    rw [h2 sig hsig]
    exact wpAny_pure go

theorem ifBound_ne {M : Model} {Q : Option Value → Shared → Prop} (X : K.In s.heap) (I : PySem.W.InstAt s.heap x ox C od) (hn : PySem.W.findIn K (.ref C) "__ne__" = some (some (.builtin "object.__ne__")))
    (h : wpAny M A (call (.builtin "object.__ne__") [.ref x, b]) (fun v => Q (some v)) E s) : wpAny M A (callSpecialIfBound? (.ref x) "__ne__" [b]) Q E s := by
  simp only [callSpecialIfBound?, bindSpecialIfBound?]
  refine wpAny_holding (wpAny_bind (wpAny_bind (wpAny_bind (I.type.here ((PySem.W.looks_findIn X hn).here ?_)))))
  simp only [F.cmp_object.ne.bind]
  refine wpAny_bind (wpAny_askSetting (wpAny_ite ?_))
  have fin : wpAny M A (call (.builtin "object.__ne__") ([.ref x] ++ [b]) >>= fun v => pure (some v)) Q E s := wpAny_bind (wpAny_mono h (fun v s' h' => wpAny_pure h') fun _ _ h' => h')
  split
  · exact wpAny_bind (wpAny_pure (wpAny_pure fin))
  · exact wpAny_tryCatch (wpAny_bind (wpAny_pure (wpAny_pure fin)))
theorem ne_own {Q : Value → Shared → Prop} (hu : A.units + 1 < cLine) (X : K.In s.heap) (I : PySem.W.InstAt s.heap x ox C od) (hb : PySem.W.Looks (model prog w) s.heap (typeOf b) tb) (hn : PySem.W.notFirst K C tb = true)
    (hne : PySem.W.findIn K (.ref C) "__ne__" = some (some (.builtin "object.__ne__"))) (hob : PySem.W.mroIn K C (.type "object") = some true)
    (hs : PySem.W.findIn K (.ref C) "__eq__" = some (some (.ref f))) (hf : PySem.W.isFn K (.ref f) = true)
    (h : wpAny (model prog w) A.in1 (call (.ref f) [.ref x, b]) (fun v s' => ∃ r, v = .bool r ∧ Q (.bool (!r)) s') E s) : wpAny (model prog w) A (richCompare .NotEq (.ref x) b) Q E s := by
  have one : wpAny (model prog w) A (tryCompare (.ref x) "__ne__" b) (fun r s' => ∃ v, r = some v ∧ Q v s') E s := by
    unfold tryCompare
    refine wpAny_bind (ifBound_ne X I hne (call_objNe hu X I hob hs hf (wpAny_mono h (fun v s' hv => ?_) fun _ _ e => e)))
    obtain ⟨r, rfl, hq⟩ := hv
    exact ⟨r, rfl, wpAny_pure ⟨_, rfl, hq⟩⟩
  unfold richCompare
  simp only [oneThing_ref]
  refine wpAny_holding (wpAny_bind (wpAny_cRoomFor (by omega) ?_))
  rw [cmpInfo_NotEq]
  dsimp only
  refine wpAny_bind (I.type.here (wpAny_bind (hb.here ?_)))
  split
  · rename_i q
    have e : PySem.W.subIn K tb (.ref C) = some false := by
      rcases Bool.or_eq_true_iff.mp hn with e | e
      · rw [beq_iff_eq.mp e] at q; simp at q
      · exact beq_iff_eq.mp e
    refine wpAny_bind ((PySem.W.looks_subIn X e).here ?_)
    simp only [Bool.false_eq_true, if_false]
    refine wpAny_bind (wpAny_mono one (fun r s' z => ?_) fun _ _ e => e)
    obtain ⟨v, rfl, hq⟩ := z
    exact wpAny_pure hq
  · refine wpAny_bind (wpAny_pure ?_)
    simp only [Bool.false_eq_true, if_false]
    refine wpAny_bind (wpAny_mono one (fun r s' z => ?_) fun _ _ e => e)
    obtain ⟨v, rfl, hq⟩ := z
    exact wpAny_pure hq
theorem tup_declines {p : Addr} {its : Array Value} {Q : Value → Shared → Prop} (X : K.In s.heap) (I : PySem.W.InstAt s.heap x ox C od) (ht : s.heap.IsTuple p its) (hsub : PySem.W.mroIn K C (.type "tuple") = some false)
    (h : Q .notImplemented s) : wpAny (model prog w) A (call (.builtin "tuple.__eq__") [.ref p, .ref x]) Q E s := by
  refine GQ.call_here F.slot_tuple_eq ht.typeIs F.entry_tuple_eq (F.args_tuple_eq_2 _ _) ?_
  refine wpAny_bind (m := slotArgs "__eq__" 1 ⟨[.ref p, .ref x], []⟩) (wpAny_pure ?_)
  refine wpAny_bind (m := isInstance (.ref x) (.type "tuple")) (wpAny_bind (I.type.here ((PySem.W.looks_mroIn X hsub).here ?_)))
  exact wpAny_pure h
theorem eq_tup_own {p : Addr} {its : Array Value} {Q : Value → Shared → Prop} (hu : A.units < cLine) (X : K.In s.heap) (I : PySem.W.InstAt s.heap x ox C od) (ht : s.heap.IsTuple p its) (hsub : PySem.W.mroIn K C (.type "tuple") = some false)
    (hs : PySem.W.findIn K (.ref C) "__eq__" = some (some (.ref f))) (hf : PySem.W.isFn K (.ref f) = true)
    (h : wpAny (model prog w) A (call (.ref f) [.ref x, .ref p]) (PySem.W.CmpBack Q) E s) : wpAny (model prog w) A (richCompare .Eq (.ref p) (.ref x)) Q E s := by
  have two : wpAny (model prog w) A (tryCompare (.ref x) "__eq__" (.ref p)) (fun r s' => ∃ v, r = some v ∧ Q v s') E s := by
    unfold tryCompare
    refine wpAny_bind (PySem.W.ifBound_K X I hs hf (wpAny_mono h (fun v s' hv => ?_) fun _ _ e => e))
    cases v <;> first | exact hv.elim | exact wpAny_pure ⟨_, rfl, hv⟩
  unfold richCompare
  simp only [oneThing_ref]
  refine wpAny_holding (wpAny_bind (wpAny_cRoomFor hu ?_))
  dsimp only [cmpInfo]
  refine wpAny_bind (wpAny_typeOf ht.typeIs (wpAny_bind (I.type.here ?_)))
  rw [if_pos (by rfl)]
  refine wpAny_bind ((PySem.W.looks_mroIn X hsub).here ?_)
  simp only [Bool.false_eq_true, if_false, Bool.not_false, if_true]
  refine wpAny_bind (m := tryCompare (.ref p) _ (.ref x)) (wpAny_tryCompare_declines ht.typeIs F.slot_tuple_eq (tup_declines X I ht hsub ⟨rfl, ?_⟩))
  refine wpAny_bind (m := tryCompare (.ref x) _ (.ref p)) (wpAny_mono two (fun r s' z => ?_) fun _ _ e => e)
  obtain ⟨v, rfl, hq⟩ := z
  exact wpAny_pure hq
end
abbrev noX : XK := fun _ _ _ => False
section
variable {X : Cx} {C f : Addr} {fd : FuncData} {k : Nat} {sp : Sp} {ps : List Str} {pins : List (Addr × Obj)} {σ : L2.St} {H : Hp} {s : Shared}
theorem call_fn {A : Around} {E : Value → Shared → Prop} {us : List Value} {vs : List V} {Q : VK} (F : FnOk X.prog X.w X.K X.mg X.base CX0 k f fd ps sp) (hr : Room k A) (e0 : Env0 X.prog X.w X.K X.mg X.base A X.stack s H) (hb : Binds X.K fd ps []) (hl : us.length = ps.length)
    (I : Inv X pins σ H s) (r : Vals vs us) (q : sp vs H Q noX) :
    wpAny (model X.prog X.w) A (call (.ref f) us) (fun u s' => EP X pins σ Q u s') E s := by
  refine wpAny_call (codeAny_mono (F.run A X.stack s H ⟨us, []⟩ us vs _ _ hr e0 (by simpa using hb s us I.kIn (by simpa using hl)) r q) fun r s' hq => ?_)
  cases r with
  | error e' => exact absurd hq (by intro z; exact z)
  | ok fl =>
    cases fl with
    | ret u => exact I.after hq
    | next => exact False.elim hq
    | brk => exact False.elim hq
    | cont => exact False.elim hq
/-- len(o) by its __len__ -/
def rLenO (C : Addr) (sp : Sp) : List V → Hp → VK → Prop := fun xs H Q => ∃ a dx fs, xs = [.ref a] ∧ H a = some (.ins C dx fs) ∧ sp [.ref a] H (fun v H' => ∃ n : Int, v = .int n ∧ 0 ≤ n ∧ n < 2 ^ 63 ∧ Q (.int n) H') noX
theorem cr_lenO (hs : PySem.W.findIn X.K (.ref C) "__len__" = some (some (.ref f))) (hf : PySem.W.isFn X.K (.ref f) = true) (F : FnOk X.prog X.w X.K X.mg X.base CX0 k f fd ["self"] sp) (hr : Room (k + 1) X.A) (hb : Binds X.K fd ["self"] []) :
    CallR X (.builtin "len") (rLenO C sp) := by
  intro pins s σ H xs us Q I r h
  obtain ⟨a, dx, fs, rfl, e, q⟩ := h
  obtain ⟨u, rfl, ru⟩ := vals1 r
  obtain rfl : u = Value.ref a := ru
  obtain ⟨mA, O, _, _, _, _⟩ := ins_get I.hok e
  obtain ⟨od, J, _⟩ := O.look
  obtain ⟨m, hF⟩ := I.fr
  refine PySem.W.len_K hF I.ok.mod.kin J hs hf (wpAny_mono (call_fn F hr.in1 I.env0.in1 hb rfl I (.cons (show RelV (.ref a) (.ref a) from rfl) .nil) q) (fun w s' z => ?_) fun _ _ x => x)
  obtain ⟨z, H', I', rz, n, rfl, h0, h1, qz⟩ := z
  obtain ⟨t, rfl⟩ := (show ∃ t, w = Value.int n t from rz)
  exact ⟨⟨h0, h1⟩, .int n, H', I'.kept (fun _ _ e => e), ⟨_, rfl⟩, qz⟩
/-- v in o by its __contains__ -/
def rInO (C : Addr) (sp : Sp) : R2 := fun x y H Q => ∃ a dx fs, y = .ref a ∧ H a = some (.ins C dx fs) ∧ sp [.ref a, x] H (fun v H' => ∃ r, v = .bl r ∧ Q (.bl r) H') noX
theorem op_inO {p1 p2 : Str} (hs : PySem.W.findIn X.K (.ref C) "__contains__" = some (some (.ref f))) (hf : PySem.W.isFn X.K (.ref f) = true) (F : FnOk X.prog X.w X.K X.mg X.base CX0 k f fd [p1, p2] sp) (hr : Room k X.A) (hb : Binds X.K fd [p1, p2] []) :
    OpR X (compareOp .In) (rInO C sp) := by
  intro pins s σ H x y v u Q I rx ry h
  obtain ⟨a, dx, fs, rfl, e, q⟩ := h
  cases (show u = Value.ref a from ry)
  obtain ⟨mA, O, _, _, _, _⟩ := ins_get I.hok e
  obtain ⟨od, J, _⟩ := O.look
  obtain ⟨m, hF⟩ := I.fr
  refine PySem.W.in_K hF I.ok.mod.kin J hs hf (wpAny_mono (call_fn F hr I.env0 hb rfl I (.cons (show RelV (.ref a) (.ref a) from rfl) (.cons rx .nil)) q) (fun w s' z => ?_) fun _ _ x => x)
  obtain ⟨z, H', I', rz, n, rfl, qz⟩ := z
  cases (show w = Value.bool n from rz)
  exact wpAny_truthy_bool ⟨.bl n, H', I', rfl, qz⟩
/-- o == v by its __eq__, v of the type tb -/
def rEqO (K : PySem.W.Frag) (C : Addr) (sp : Sp) (neg : Bool) : R2 := fun x y H Q => ∃ a dx fs tb, x = .ref a ∧ H a = some (.ins C dx fs) ∧ TyX K H y tb ∧ PySem.W.notFirst K C tb = true ∧ sp [x, y] H (fun v H' => ∃ r, v = .bl r ∧ Q (.bl (r != neg)) H') noX
theorem op_eqO {p1 p2 : Str} (hs : PySem.W.findIn X.K (.ref C) "__eq__" = some (some (.ref f))) (hf : PySem.W.isFn X.K (.ref f) = true) (F : FnOk X.prog X.w X.K X.mg X.base CX0 k f fd [p1, p2] sp) (hr : Room k X.A) (hb : Binds X.K fd [p1, p2] []) :
    OpR X (compareOp .Eq) (rEqO X.K C sp false) := by
  intro pins s σ H x y v u Q I rx ry h
  obtain ⟨a, dx, fs, tb, rfl, e, ty, hn, q⟩ := h
  cases (show v = Value.ref a from rx)
  obtain ⟨mA, O, _, _, _, _⟩ := ins_get I.hok e
  obtain ⟨od, J, _⟩ := O.look
  obtain ⟨m, hF⟩ := I.fr
  obtain ⟨P, kx, hp, _⟩ := kit_of I ry ty
  refine PySem.W.cmp_K (op := .Eq) hr.units0 hF I.ok.mod.kin J (kx.ty _ _ I.kIn hp) hn hs hf (wpAny_mono (call_fn F hr I.env0 hb rfl I (.cons (show RelV (.ref a) (.ref a) from rfl) (.cons ry .nil)) q) (fun w s' z => ?_) fun _ _ x => x)
  obtain ⟨z, H', I', rz, n, rfl, qz⟩ := z
  cases (show w = Value.bool n from rz)
  exact ⟨.bl n, H', I', rfl, by rw [Bool.bne_false] at qz; exact qz⟩
theorem op_neO {p1 p2 : Str} (hne : PySem.W.findIn X.K (.ref C) "__ne__" = some (some (.builtin "object.__ne__"))) (hob : PySem.W.mroIn X.K C (.type "object") = some true)
    (hs : PySem.W.findIn X.K (.ref C) "__eq__" = some (some (.ref f))) (hf : PySem.W.isFn X.K (.ref f) = true) (F : FnOk X.prog X.w X.K X.mg X.base CX0 k f fd [p1, p2] sp) (hr : Room (k + 1) X.A) (hb : Binds X.K fd [p1, p2] []) :
    OpR X (compareOp .NotEq) (rEqO X.K C sp true) := by
  intro pins s σ H x y v u Q I rx ry h
  obtain ⟨a, dx, fs, tb, rfl, e, ty, hn, q⟩ := h
  cases (show v = Value.ref a from rx)
  obtain ⟨mA, O, _, _, _, _⟩ := ins_get I.hok e
  obtain ⟨od, J, _⟩ := O.look
  obtain ⟨P, kx, hp, _⟩ := kit_of I ry ty
  refine ne_own (by have := hr.un; omega) I.kIn J (kx.ty _ _ I.kIn hp) hn hne hob hs hf (wpAny_mono (call_fn F hr.in1 I.env0.in1 hb rfl I (.cons (show RelV (.ref a) (.ref a) from rfl) (.cons ry .nil)) q) (fun w s' z => ?_) fun _ _ x => x)
  obtain ⟨z, H', I', rz, n, rfl, qz⟩ := z
  cases (show w = Value.bool n from rz)
  exact ⟨n, rfl, .bl (!n), H', I', rfl, by rw [Bool.bne_true] at qz; exact qz⟩
/-- t == o, t a tuple: asked the other way round -/
def rEqT (K : PySem.W.Frag) (C : Addr) (sp : Sp) : R2 := fun x y H Q => ∃ p a dx fs xs, x = .ref p ∧ y = .ref a ∧ SqT K H p xs ∧ H a = some (.ins C dx fs) ∧ sp [y, x] H (fun v H' => ∃ r, v = .bl r ∧ Q (.bl r) H') noX
theorem op_eqT {p1 p2 : Str} (hsub : PySem.W.mroIn X.K C (.type "tuple") = some false) (hs : PySem.W.findIn X.K (.ref C) "__eq__" = some (some (.ref f))) (hf : PySem.W.isFn X.K (.ref f) = true) (F : FnOk X.prog X.w X.K X.mg X.base CX0 k f fd [p1, p2] sp) (hr : Room k X.A) (hb : Binds X.K fd [p1, p2] []) :
    OpR X (compareOp .Eq) (rEqT X.K C sp) := by
  intro pins s σ H x y v u Q I rx ry h
  obtain ⟨p, a, dx, fs, xs, rfl, rfl, ht, e, q⟩ := h
  cases (show v = Value.ref p from rx)
  cases (show u = Value.ref a from ry)
  obtain ⟨mA, O, _, _, _, _⟩ := ins_get I.hok e
  obtain ⟨od, J, _⟩ := O.look
  obtain ⟨its, _, hi, _⟩ := I.tuple ht
  refine eq_tup_own hr.units0 I.kIn J (show s.heap.IsTuple p its.toArray from hi) hsub hs hf (wpAny_mono (call_fn F hr I.env0 hb rfl I (.cons (show RelV (.ref a) (.ref a) from rfl) (.cons (show RelV (.ref p) (.ref p) from rfl) .nil)) q) (fun w s' z => ?_) fun _ _ x => x)
  obtain ⟨z, H', I', rz, n, rfl, qz⟩ := z
  cases (show w = Value.bool n from rz)
  exact ⟨.bl n, H', I', rfl, qz⟩
theorem op_or {g : Value → Value → Sem Value} {r1 r2 : R2} (h1 : OpR X g r1) (h2 : OpR X g r2) : OpR X g (fun x y H Q => r1 x y H Q ∨ r2 x y H Q) := by
  intro pins s σ H x y v u Q I rx ry h
  exact h.elim (h1 pins s σ H x y v u Q I rx ry) (h2 pins s σ H x y v u Q I rx ry)
end
end SB

end

section
set_option Elab.async false
set_option linter.all false
set_option maxRecDepth 100000
set_option maxHeartbeats 4000000
/-! str of an own object. -/
namespace SB
open PySem PySem.Spec PyProof.Rows L2
section
variable {X : Cx} {C f : Addr} {fd : FuncData} {k : Nat} {sp : Sp}
/-- str(o) by its __str__ -/
theorem cr_strO (hs : PySem.W.findIn X.K (.ref C) "__str__" = some (some (.ref f))) (hf : PySem.W.isFn X.K (.ref f) = true) (F : FnOk X.prog X.w X.K X.mg X.base CX0 k f fd ["self"] sp) (hr : Room (k + 2) X.A) (hb : Binds X.K fd ["self"] []) :
    CallR X (.type "str") (rReprO C sp) := by
  intro pins s σ H xs us Q I r h
  obtain ⟨a, dx, fs, rfl, e, q⟩ := h
  obtain ⟨u, rfl, ru⟩ := vals1 r
  obtain rfl : u = Value.ref a := ru
  obtain ⟨mA, O, _, _, _, _⟩ := ins_get I.hok e
  obtain ⟨od, J, _⟩ := O.look
  have hr1 : Room (k + 1) X.A.in1 := hr.in1
  have hr2 : Room k X.A.in1.in1 := hr1.in1
  refine PySem.W.kso_call hr2.units0 I.kIn J hs hf (wpAny_mono (call_fn F hr2 I.env0.in1.in1 hb rfl I (.cons (show RelV (.ref a) (.ref a) from rfl) .nil) q) (fun w s' z => ?_) fun _ _ x => x)
  obtain ⟨z, H', I', rz, n, rfl, qz⟩ := z
  obtain ⟨t, rfl⟩ := (show ∃ t, w = Value.str n t from rz)
  exact ⟨.str n, H', I', ⟨_, rfl⟩, qz⟩
end
end SB

end

section
set_option Elab.async false
set_option linter.all false
set_option maxRecDepth 100000
set_option maxHeartbeats 4000000
/-! a new instance whose __init__ may raise, the wish at the caller's slots. -/
namespace SB
open PySem PySem.Spec PyProof.Rows L2
section
variable {X : Cx} {CX : CXT} {k n : Nat} {f C : Addr} {fd : FuncData} {ps ks : List Str} {sp : Sp} {E : L2.St → XK} {y : Str} {p pos : Pos} {e : Expr} {es : List Expr} {kws : List Keyword} {t tk : TA} {g : List Value → List Value → List Value} {gV : List V → List V → List V} {dvs : List V} {ds : List Value}
  {pins : List (Addr × Obj)} {σ : L2.St} {H : Hp} {s : Shared} {Q : VK}
theorem make_run {N : Nat} {us bs : List Value} {kw : List (Str × Value)} {vs : List V} (hN : s.heap.objs.size = N) (M : Mk X.K C f) (F : FnOk X.prog X.w X.K X.mg X.base CX k f fd ps sp) (hr : Room (k + 1) X.A) (hx : PassesAt CX X σ (E σ)) (J : Inv X pins σ H s)
    (hb : ∀ s1 : Shared, X.K.In s1.heap → BindsTo s1 fd ⟨.ref (N + 1) :: us, kw⟩ (ps.zip bs)) (rr : Vals vs bs)
    (wish : sp vs (upd (upd H N (.own (N + 1))) (N + 1) (.ins C N [])) (fun v H2 => v = .non ∧ Q (.ref (N + 1)) H2) (E σ)) :
    wpAny (model X.prog X.w) X.A (call (.ref C) us kw) (EP X pins σ Q) X.xe s := by
  subst hN
  have J2 := Inv.made (C := C) J
  have run := F.run _ X.stack _ _ ⟨Value.ref (s.heap.objs.size + 1) :: us, kw⟩ bs vs _ (E σ) (hr.make C us kw) (J2.env0.make C us kw) (hb _ J2.kIn) rr wish
  refine wpAny_call (make_map (f := f) J.kIn M.makes M.init (beq_iff_eq.mp M.fn) (codeAny_mono run fun r s' ho => ?_))
  cases r with
  | error x => exact hx pins _ _ x s' J2 ho
  | ok fl =>
    cases fl with
    | ret u =>
      obtain ⟨v, G, J3, rv, ev, wq⟩ := J2.after ho
      rw [ev] at rv
      exact ⟨rv, .ref (s.heap.objs.size + 1), G, J3, (show RelV (.ref _) (.ref _) from rfl), wq⟩
    | next => cases ho
    | brk => cases ho
    | cont => cases ho
def tMakeS (C : Addr) (sp : Sp) (dvs : List V) (E : L2.St → XK) (t : TA) : TE := fun σ H Q => t σ H fun vs H1 => ∀ a b, H1 a = none → H1 b = none → b ≠ a → sp (.ref a :: (vs ++ dvs)) (upd (upd H1 b (.own a)) a (.ins C b [])) (fun v H2 => v = .non ∧ Q (.ref a) H2) (E σ)
theorem pe_makeS (M : Mk X.K C f) (F : FnOk X.prog X.w X.K X.mg X.base CX k f fd ps sp) (hr : Room (k + 1) X.A) (hg : Gl X y) (hm : X.mg y = some (.ref C)) (hb : Binds X.K fd ps ds) (hd : Vals dvs ds) (hx : ∀ σ, PassesAt CX X σ (E σ))
    (ha : PA X (e :: es) t) (hdb : (y == ("__debug__" : Str)) = false := by decide) (he : starEach (e :: es) X.env = (false, eval e X.env) :: starEach es X.env := by rfl) (hpp : (backTo pos (starEach es X.env)).any (·.1) = false := by rfl) :
    PE X (.Call (.Name y p) (e :: es) [] pos) (tMakeS C sp dvs E t) := by
  constructor
  intro pins s σ H Q I h
  refine wpAny_Call_Name_kw (ld_glob I hg hm ?_ hdb)
  refine PySem.W.callWith_K (h₀ := X.base) I.ok.mod.kin M.kp (thn (ha.run pos pins s σ H _ I h) fun us z ⟨vs, G, J, rv, q⟩ => ⟨J.kIn, ?_⟩) he hpp
  have wish := q (z.heap.objs.size + 1) z.heap.objs.size (J.hok.fresh (Nat.le_succ _)) (J.hok.fresh (Nat.le_refl _)) (Nat.ne_of_lt (Nat.lt_succ_self _))
  have rr : Vals (V.ref (z.heap.objs.size + 1) :: (vs ++ dvs)) (Value.ref (z.heap.objs.size + 1) :: (us ++ ds)) := .cons (show RelV (.ref (z.heap.objs.size + 1)) (.ref (z.heap.objs.size + 1)) from rfl) (rv.append hd)
  exact make_run rfl M F hr (hx σ) J (fun s1 K1 => hb s1 (.ref (z.heap.objs.size + 1) :: us) K1 (rr.length.symm.trans (F.len _ _ _ _ wish))) rr wish
def tMakeKS (C : Addr) (n m : Nat) (sp : Sp) (gV : List V → List V → List V) (E : L2.St → XK) (t tk : TA) : TE := fun σ H Q => t σ H fun vs H1 => tk σ H1 fun zs H2 => vs.length = n ∧ zs.length = m ∧
  ∀ a b, H2 a = none → H2 b = none → b ≠ a → sp (gV (.ref a :: vs) zs) (upd (upd H2 b (.own a)) a (.ins C b [])) (fun v H3 => v = .non ∧ Q (.ref a) H3) (E σ)
theorem pe_makeKS (M : Mk X.K C f) (F : FnOk X.prog X.w X.K X.mg X.base CX k f fd ps sp) (hr : Room (k + 1) X.A) (hg : Gl X y) (hm : X.mg y = some (.ref C)) (hb : KBn X.K fd ps (n + 1) ks g gV) (hx : ∀ σ, PassesAt CX X σ (E σ)) (ha : PA X (e :: es) t) (hkw : PK X kws tk)
    (hal : (backToKw pos (keywordEach kws X.env)).all (·.1.isSome) = true := by rfl) (hks : (backToKw pos (keywordEach kws X.env)).filterMap (·.1) = ks := by rfl) (hdb : (y == ("__debug__" : Str)) = false := by decide)
    (he : starEach (e :: es) X.env = (false, eval e X.env) :: starEach es X.env := by rfl) (hpp : ((backTo pos (starEach (e :: es) X.env)).any (·.1) || (backToKw pos (keywordEach kws X.env)).any (·.1.isNone)) = false := by rfl) :
    PE X (.Call (.Name y p) (e :: es) kws pos) (tMakeKS C n ks.length sp gV E t tk) := by
  constructor
  intro pins s σ H Q I h
  refine wpAny_Call_Name_kw (ld_glob I hg hm ?_ hdb)
  refine PySem.W.callWith_KW (h₀ := X.base) I.ok.mod.kin M.kp hal (thn (ha.run pos pins s σ H _ I h) fun us z0 ⟨vs, G0, J0, rv, q0⟩ => ?_) hpp he
  refine thn (hkw.run pos pins z0 σ G0 _ J0 q0) fun ws z ⟨zs, G, J, rz, l1, l2, q⟩ => ⟨J.kIn, ?_⟩
  rw [hks]
  have wish := q (z.heap.objs.size + 1) z.heap.objs.size (J.hok.fresh (Nat.le_succ _)) (J.hok.fresh (Nat.le_refl _)) (Nat.ne_of_lt (Nat.lt_succ_self _))
  have r0 : Vals (V.ref (z.heap.objs.size + 1) :: vs) (Value.ref (z.heap.objs.size + 1) :: us) := .cons (show RelV (.ref (z.heap.objs.size + 1)) (.ref (z.heap.objs.size + 1)) from rfl) rv
  exact make_run rfl M F hr (hx σ) J (fun s1 K1 => hb.to s1 (.ref (z.heap.objs.size + 1) :: us) ws K1 (by rw [List.length_cons, ← rv.length, l1]) (rz.length.symm.trans l2)) (hb.rel r0 rz) wish
theorem pe_makeK0S (M : Mk X.K C f) (F : FnOk X.prog X.w X.K X.mg X.base CX k f fd ps sp) (hr : Room (k + 1) X.A) (hg : Gl X y) (hm : X.mg y = some (.ref C)) (hb : KBn X.K fd ps 1 ks g gV) (hx : ∀ σ, PassesAt CX X σ (E σ)) (hkw : PK X kws tk)
    (hal : (backToKw pos (keywordEach kws X.env)).all (·.1.isSome) = true := by rfl) (hks : (backToKw pos (keywordEach kws X.env)).filterMap (·.1) = ks := by rfl) (hdb : (y == ("__debug__" : Str)) = false := by decide)
    (hpp : ((backTo pos (starEach [] X.env)).any (·.1) || (backToKw pos (keywordEach kws X.env)).any (·.1.isNone)) = false := by rfl) :
    PE X (.Call (.Name y p) [] kws pos) (tMakeKS C 0 ks.length sp gV E tNil tk) := by
  constructor
  intro pins s σ H Q I h
  refine wpAny_Call_Name_kw (ld_glob I hg hm ?_ hdb)
  refine PySem.W.callWith_KW0 (h₀ := X.base) I.ok.mod.kin M.kp hal ?_ hpp
  refine thn (hkw.run pos pins s σ H _ I h) fun ws z ⟨zs, G, J, rz, l1, l2, q⟩ => ⟨J.kIn, ?_⟩
  rw [hks]
  have wish := q (z.heap.objs.size + 1) z.heap.objs.size (J.hok.fresh (Nat.le_succ _)) (J.hok.fresh (Nat.le_refl _)) (Nat.ne_of_lt (Nat.lt_succ_self _))
  have r0 : Vals [V.ref (z.heap.objs.size + 1)] [Value.ref (z.heap.objs.size + 1)] := .cons (show RelV (.ref (z.heap.objs.size + 1)) (.ref (z.heap.objs.size + 1)) from rfl) .nil
  exact make_run rfl M F hr (hx σ) J (fun s1 K1 => hb.to s1 [.ref (z.heap.objs.size + 1)] ws K1 rfl (rz.length.symm.trans l2)) (hb.rel r0 rz) wish
end
end SB

end

section
set_option Elab.async false
set_option linter.all false
set_option maxRecDepth 100000
set_option maxHeartbeats 4000000
/-! Row made of any values. -/
namespace K03
open PySem L2 SB
/-- a value as a lot -/
def LotV (K : PySem.W.Frag) (H : Hp) (v : V) : Option (List Int) → Prop
  | some ls => ∃ q, v = .ref q ∧ SqT K H q (ls.map V.int) ∧ KSet ls ∧ 0 < ls.length ∧ ls.length ≤ 1000
  | none => LV K H v false
def bad1 (ls : List Int) (p : V) (o : Option Int) : Bool := !decide (p = .non) && !liveB ls o
def bad2 (ls : List Int) (p r : V) (o : Option Int) : Bool := !decide (r = .non) && (!decide (p = .non) || !liveB ls o)
def spRowX (K : PySem.W.Frag) (C CL CM : Addr) : Sp := fun vs H Q E => ∃ r dx v p1 p2 o1 o2 lo, vs = [.ref r, v, p1, p2] ∧ H r = some (.ins C dx []) ∧ NV K H p1 o1 ∧ NV K H p2 o2 ∧ LotV K H v lo ∧
  match lo with
  | none => ∀ d H', Same H H' → H' d = none → E (.ref CL) (some d) (upd H' d (.xd (fs1 "InvalidLot" "value" [v])))
  | some ls => (bad1 ls p1 o1 = true → ∀ d H', Same H H' → H' d = none → E (.ref CM) (some d) (upd H' d (.xd (fs1 "InvalidMark" "value" [p1])))) ∧
    (bad1 ls p1 o1 = false → bad2 ls p1 p2 o2 = true → ∀ d H', Same H H' → H' d = none → E (.ref CM) (some d) (upd H' d (.xd (fs1 "InvalidMark" "value" [p2])))) ∧
    (bad1 ls p1 o1 = false → bad2 ls p1 p2 o2 = false → ∀ q up dn, v = .ref q → p1 = mV up → p2 = mV dn → Lot ls up dn → SqT K H q (ls.map V.int) → ∀ H', H' r = some (.ins C dx (rowF q up dn)) → Keep r H H' → Q .non H')
section
variable {P : Program} {w : World} {K : PySem.W.Frag} {mg : Str → Option Value} {base : Heap}
theorem mark_ok {H : Hp} {ls : List Int} {p : V} {o : Option Int} (n : NV K H p o) (h : (!decide (p = .non) && !liveB ls o) = false) (hk : KSet ls) : ∃ up, p = mV up ∧ ∀ k, up = some k → k ∈ ls := by
  cases n with
  | int i =>
    refine ⟨some i, rfl, fun k e => ?_⟩
    cases e
    have : liveB ls (some i) = true := by
      cases e : liveB ls (some i) with
      | true => rfl
      | false => rw [e] at h; simp at h
    rw [liveB_key hk] at this
    exact of_decide_eq_true this
  | no t b1 b2 ty h1 h2 h3 =>
    by_cases e : p = .non
    · exact ⟨none, e, fun k z => by cases z⟩
    · rw [decide_eq_false e] at h
      cases h
theorem ok_rowX {f C CL CM fL fV gI1 gI2 : Addr} {fd fdL fdV fd1 fd2 : FuncData} (F : FunD K "__init__" "Row.__init__" (defArgs s_Row_init) (defBody s_Row_init) (defScope s_Row_init) [] [("coming", .non), ("going", .non)] f fd) (T : RowC K C)
    (gL : mg "is_lot" = some (.ref fL)) (FL : FnOk P w K mg base CX0 4 fL fdL ["value"] (spLot K)) (kL : PySem.W.keepIn K (.ref fL) = true) (bL : Binds K fdL ["value"] [])
    (gV : mg "lives_in" = some (.ref fV)) (FV : FnOk P w K mg base CX0 3 fV fdV ["living", "value"] (spLive K)) (kV : PySem.W.keepIn K (.ref fV) = true) (bV : Binds K fdV ["living", "value"] [])
    (XL : XFacts K mg "InvalidLot" CL gI1 bmVE "ValueError.__new__") (GL : FnOk P w K mg base CX0 1 gI1 fd1 ["self", "value"] (spX CL 1 (fs1 "InvalidLot" "value"))) (b1 : Binds K fd1 ["self", "value"] [])
    (XM : XFacts K mg "InvalidMark" CM gI2 bmVE "ValueError.__new__") (GM : FnOk P w K mg base CX0 1 gI2 fd2 ["self", "value"] (spX CM 1 (fs1 "InvalidMark" "value"))) (b2 : Binds K fd2 ["self", "value"] []) :
    FnOk P w K mg base (L2.CX P w) 5 f fd ["self", "lot", "coming", "going"] (spRowX K C CL CM) := by
  refine F.ok (CX := L2.CX P w) sc_Row_init (fun vs H Q E h => ?_) (fun cdv A outer s H vs Q E hr h => ?_)
  · obtain ⟨r, dx, v, p1, p2, o1, o2, lo, rfl, _⟩ := h
    rfl
  · obtain ⟨r, dx, v, p1, p2, o1, o2, lo, rfl, hr0, n1, n2, lv, k⟩ := h
    refine ⟨_, pss_cons (ps_if (pt_not (pt_val (pe_call FL (hr.mono (by decide)) (by rfl) gL kL bL .nil pass0 (pa_cons (pv 1) pa_nil)))) (pss_one (ps_raise rfl (takes_of rfl rfl rfl rfl) (pmk_exg PySem.F.excBase_ValueError XL.T XL.iC XL.tI GL (hr.mono (by decide)) b1 .nil pass0 (by rfl) XL.g (pa_cons (pv 1) pa_nil)))) pss_nil)
      (pss_cut (ps_if (PW.pt (pw_and (pt_cmpR op_notN (pv 2) pe_non (nomark _)) (pw_and1 (pt_not (pt_val (pe_call FV (hr.mono (by decide)) (by rfl) gV kV bV .nil pass0 (pa_cons (pv 1) (pa_cons (pv 2) pa_nil)))))))) (pss_one (ps_raise rfl (takes_of rfl rfl rfl rfl) (pmk_exg PySem.F.excBase_ValueError XM.T XM.iC XM.tI GM (hr.mono (by decide)) b2 .nil pass0 (by rfl) XM.g (pa_cons (pv 2) pa_nil)))) pss_nil)
      (pss_cut (ps_if (PW.pt (pw_and (pt_cmpR op_notN (pv 3) pe_non (nomark _)) (pw_and1 (PW.pt (pw_or (pt_cmpR op_notN (pv 2) pe_non (nomark _)) (pw_or1 (pt_not (pt_val (pe_call FV (hr.mono (by decide)) (by rfl) gV kV bV .nil pass0 (pa_cons (pv 1) (pa_cons (pv 3) pa_nil)))))))))))
        (pss_one (ps_raise rfl (takes_of rfl rfl rfl rfl) (pmk_exg PySem.F.excBase_ValueError XM.T XM.iC XM.tI GM (hr.mono (by decide)) b2 .nil pass0 (by rfl) XM.g (pa_cons (pv 3) pa_nil)))) pss_nil)
      (pss_cons (ps_fld (pv 0) (pv 1) rfl) (pss_cons (ps_fld (pv 0) (pv 2) rfl) (pss_one (ps_fld (pv 0) (pv 3) rfl)))))), ?_⟩
    cases lo with
    | none => exact ⟨_, rfl, v, false, rfl, lv, fun H1 s1 => ⟨_, rfl, iteT ⟨_, rfl, rd_raise rfl (by decide) fun d hd => k d H1 s1 hd⟩⟩⟩
    | some ls =>
      obtain ⟨k1, k2, k3⟩ := k
      obtain ⟨q, rfl, hs, hk, h0, h1⟩ := lv
      refine ⟨_, rfl, .ref q, true, rfl, lot_lv (up := none) (dn := none) ⟨hk, h0, h1, (fun k e => by cases e), (fun k e => by cases e)⟩ hs, fun H1 s1 => ⟨_, rfl, iteF ?_⟩⟩
      have hs1 := sqT_same s1 hs
      have hr1 : H1 r = some (.ins C dx []) := s1 _ _ hr0
      refine ⟨fun σ H' => σ = [some (.ref r), some (.ref q), some p1, some p2] ∧ H' = H1 ∧ bad1 ls p1 o1 = false, ?_, ?_⟩
      · refine ⟨_, rfl, rfl, _, rfl, ite2 (fun a => ?_) (fun a => ?_)⟩
        · refine ⟨_, rfl, _, rfl, q, ls, p1, o1, rfl, hs1, n1.sm s1, _, rfl, ite2 (fun b => ?_) (fun b => ?_)⟩
          · exact ⟨_, rfl, rd_raise rfl (by decide) fun d hd => k1 (by unfold bad1; rw [a, b]; rfl) d H1 s1 hd⟩
          · exact ⟨rfl, rfl, by unfold bad1; rw [Bool.eq_false_iff.mpr b, Bool.and_false]⟩
        · exact ⟨rfl, rfl, by unfold bad1; rw [Bool.eq_false_iff.mpr a, Bool.false_and]⟩
      rintro σ H' ⟨rfl, rfl, g1⟩
      refine ⟨fun σ H2 => σ = [some (.ref r), some (.ref q), some p1, some p2] ∧ H2 = H' ∧ bad2 ls p1 p2 o2 = false, ?_, ?_⟩
      · refine ⟨_, rfl, rfl, _, rfl, ite2 (fun a => ?_) (fun a => ?_)⟩
        · refine ⟨_, rfl, rfl, _, rfl, ite2 (fun b => ?_) (fun b => ?_)⟩
          · exact ⟨_, rfl, rd_raise rfl (by decide) fun d hd => k2 g1 (by unfold bad2; rw [a, b]; rfl) d H' s1 hd⟩
          · refine ⟨_, rfl, _, rfl, q, ls, p2, o2, rfl, hs1, n2.sm s1, _, rfl, ite2 (fun c => ?_) (fun c => ?_)⟩
            · exact ⟨_, rfl, rd_raise rfl (by decide) fun d hd => k2 g1 (by unfold bad2; rw [a, Bool.eq_false_iff.mpr b, c]; rfl) d H' s1 hd⟩
            · exact ⟨rfl, rfl, by unfold bad2; rw [Bool.eq_false_iff.mpr b, Bool.eq_false_iff.mpr c, Bool.or_false, Bool.and_false]⟩
        · exact ⟨rfl, rfl, by unfold bad2; rw [Bool.eq_false_iff.mpr a, Bool.false_and]⟩
      rintro σ H2 ⟨rfl, rfl, g2⟩
      obtain ⟨up, e1, hu⟩ := mark_ok n1 g1 hk
      have g2' : (!decide (p2 = .non) && !liveB ls o2) = false := by
        unfold bad2 at g2
        cases e : decide (p2 = V.non) with
        | true => rfl
        | false => rw [e] at g2; simp at g2; simp [g2.2]
      obtain ⟨dn, e2, hd⟩ := mark_ok n2 g2' hk
      subst e1 e2
      have L : Lot ls up dn := ⟨hk, h0, h1, hu, fun k e => ⟨by
        cases dn with
        | none => cases e
        | some d =>
          cases up with
          | none => rfl
          | some u => simp [bad2, mV] at g2, hd k e⟩⟩
      refine ⟨_, rfl, _, rfl, r, C, dx, _, rfl, hr1, T.cl, T.nL, (by show 0 < 1000; decide), ?_⟩
      refine ⟨_, rfl, _, rfl, r, C, dx, _, rfl, upd_same, T.cl, T.nC, (by show 1 < 1000; decide), ?_⟩
      refine ⟨_, rfl, _, rfl, r, C, dx, _, rfl, upd_same, T.cl, T.nG, (by show 2 < 1000; decide), ?_⟩
      exact k3 g1 g2 q up dn rfl rfl rfl L hs _ upd_same (((Keep.ofSame s1).upd).upd.upd)
end
end K03

end

section
set_option Elab.async false
set_option linter.all false
set_option maxRecDepth 100000
set_option maxHeartbeats 4000000
/-! small data; data within data; values gathered in a menu. -/
namespace SB
open PySem PySem.Spec PyProof.Rows L2
/-- a small datum -/
structure Dt (n m : Nat) (d : PyData) : Prop where
  ls : d.leavesShort 50 = true
  sh : d.showable = true
  bk : d.bulk ≤ n
  dp : d.depth ≤ m
theorem Dt.fits {n m : Nat} {d : PyData} (h : Dt n m d) (hn : n ≤ 100000) : d.shown.length ≤ sizeLine := by
  have e := PyData.shown_le_bulk 50 (by decide) d h.ls
  have h2 : 52 * d.bulk ≤ 52 * n := Nat.mul_le_mul_left _ h.bk
  rw [sizeLine_eq]
  omega
theorem Dt.mono {n m n' m' : Nat} {d : PyData} (h : Dt n m d) (hn : n ≤ n') (hm : m ≤ m') : Dt n' m' d := ⟨h.ls, h.sh, Nat.le_trans h.bk hn, Nat.le_trans h.dp hm⟩
theorem dt_non : Dt 0 0 .none := ⟨by simp [PyData.leavesShort], by simp [PyData.showable], by simp [PyData.bulk], by simp [PyData.depth]⟩
theorem dt_bl (b : Bool) : Dt 0 0 (.bool b) := ⟨by simp [PyData.leavesShort], by simp [PyData.showable], by simp [PyData.bulk], by simp [PyData.depth]⟩
theorem log_lt {i : Int} (h : i.natAbs < 10 ^ 45) : i.natAbs.log2 < 1920 := by
  by_cases h0 : i.natAbs = 0
  · rw [h0]; decide
  · exact Nat.lt_of_lt_of_le ((Nat.log2_lt h0).mpr (Nat.lt_of_lt_of_le h (show 10 ^ 45 ≤ 2 ^ 150 by decide +kernel))) (by decide)
theorem dt_int {i : Int} (h : i.natAbs < 10 ^ 45) : Dt 0 0 (.int i) := by
  refine ⟨?_, ?_, by simp [PyData.bulk], by simp [PyData.depth]⟩
  · have e := int_text_length_le10 (a := i) (k := 45) (by decide) h
    simp only [PyData.leavesShort, PyData.shown]
    refine decide_eq_true ?_
    show (Str.ofString (toString i)).length ≤ 50
    rw [PySem.ofString_length]
    omega
  · simp only [PyData.showable, decide_eq_true_eq]
    exact log_lt h
theorem dt_str {n : Nat} {z : Str} (h : Sm n z) : Dt n 0 (.str z) := by
  refine ⟨?_, by simp [PyData.showable], ?_, by simp [PyData.depth]⟩
  · simp only [PyData.leavesShort, List.all_eq_true, decide_eq_true_eq]
    exact fun c hc => Nat.lt_trans (h.2 c hc) (by decide)
  · simp only [PyData.bulk]
    exact h.1
theorem dt_all {n m : Nat} : ∀ {ds : List PyData}, (∀ d ∈ ds, Dt n m d) → PyData.leavesShortAll 50 ds = true ∧ PyData.showableAll ds = true ∧ PyData.bulkAll ds ≤ ds.length * (n + 1) ∧ PyData.depthAll ds ≤ m
  | [], _ => ⟨by simp [PyData.leavesShortAll], by simp [PyData.showableAll], by simp [PyData.bulkAll], by simp [PyData.depthAll]⟩
  | d :: ds, h => by
    obtain ⟨a1, a2, a3, a4⟩ := dt_all (ds := ds) fun x hx => h x (List.mem_cons_of_mem _ hx)
    have q := h d List.mem_cons_self
    have b1 := q.bk
    have b2 := q.dp
    refine ⟨by simp only [PyData.leavesShortAll, q.ls, a1, Bool.and_self], by simp only [PyData.showableAll, q.sh, a2, Bool.and_self], ?_, ?_⟩
    · simp only [PyData.bulkAll, List.length_cons]
      rw [Nat.add_mul, Nat.one_mul]
      omega
    · simp only [PyData.depthAll]
      omega
theorem dt_list {n m L : Nat} {ds : List PyData} (h : ∀ d ∈ ds, Dt n m d) (hl : ds.length ≤ L) : Dt (L * (n + 1)) (m + 1) (.list ds) := by
  obtain ⟨a1, a2, a3, a4⟩ := dt_all h
  have h2 : ds.length * (n + 1) ≤ L * (n + 1) := Nat.mul_le_mul_right _ hl
  exact ⟨by simp only [PyData.leavesShort]; exact a1, by simp only [PyData.showable]; exact a2, by simp only [PyData.bulk]; omega, by simp only [PyData.depth]; omega⟩
theorem dt_tuple {n m L : Nat} {ds : List PyData} (h : ∀ d ∈ ds, Dt n m d) (hl : ds.length ≤ L) : Dt (L * (n + 1)) (m + 1) (.tuple ds) := by
  obtain ⟨a1, a2, a3, a4⟩ := dt_all h
  have h2 : ds.length * (n + 1) ≤ L * (n + 1) := Nat.mul_le_mul_right _ hl
  exact ⟨by simp only [PyData.leavesShort]; exact a1, by simp only [PyData.showable]; exact a2, by simp only [PyData.bulk]; omega, by simp only [PyData.depth]; omega⟩
section
variable {K : PySem.W.Frag} {H : Hp}
theorem rd_sh {v : V} {d : PyData} (h : Sh K H v d) : Rd K H v d := fun X pins σ s u e I r => by
  subst e
  exact sh_reads I h r
theorem rd_non : Rd K H .non .none := rd_sh (.dp .non (by simp [PyData.hasDict]))
theorem rd_bl (b : Bool) : Rd K H (.bl b) (.bool b) := rd_sh (.dp (.bl b) (by simp [PyData.hasDict]))
theorem rd_int (i : Int) : Rd K H (.int i) (.int i) := rd_sh (.dp (.int i) (by simp [PyData.hasDict]))
theorem rd_str (z : Str) : Rd K H (.str z) (.str z) := rd_sh (.dp (.str z) (by simp [PyData.hasDict]))
/-- .. and is no part of the table of modules -/
def RdN (K : PySem.W.Frag) (H : Hp) (v : V) (d : PyData) : Prop := ∀ (X : Cx) (pins : List (Addr × Obj)) (σ : L2.St) (s : Shared) (u : Value), X.K = K → Inv X pins σ H s → RelV v u → ∃ as, Reads s.heap u d as ∧ sysModules ∉ as
theorem RdN.rd {v : V} {d : PyData} (h : RdN K H v d) : Rd K H v d := fun X pins σ s u e I r => let ⟨as, a, b⟩ := h X pins σ s u e I r; ⟨as, a, fun _ => b⟩
theorem rn_flat {v : V} (f : flatV v = true) : RdN K H v (flatD v) := fun X pins σ s u e I r => ⟨[], reads_flat r f, by simp⟩
theorem rn_all {X : Cx} {pins : List (Addr × Obj)} {σ : L2.St} {s : Shared} (I : Inv X pins σ H s) : ∀ {xs : List V} {ds : List PyData} {us : List Value}, Paired (RdN X.K H) xs ds → Vals xs us →
    ∃ as, ReadsAll s.heap us ds as ∧ sysModules ∉ as
  | _, _, _, .nil, .nil => ⟨[], .nil, by simp⟩
  | _, _, _, .cons a t, .cons r q => by
    obtain ⟨as, h1, h2⟩ := a X pins σ s _ rfl I r
    obtain ⟨bs, h3, h4⟩ := rn_all I t q
    refine ⟨as ++ bs, .cons h1 h3, ?_⟩
    rw [List.mem_append, not_or]
    exact ⟨h2, h4⟩
theorem rn_tup {a : Addr} {xs : List V} {ds : List PyData} (hs : SqT K H a xs) (hp : Paired (RdN K H) xs ds) : RdN K H (.ref a) (.tuple ds) := fun X pins σ s u e I r => by
  subst e
  cases (show u = Value.ref a from r)
  obtain ⟨its, rv, ⟨o, ho, hc, n, hd⟩, _⟩ := I.tuple hs
  obtain ⟨as, hr, hm⟩ := rn_all I hp rv
  exact ⟨_, Reads.tuple ho hc hd hr, hm⟩
theorem rn_lst {a : Addr} {xs : List V} {ds : List PyData} (hs : SqL K H a xs) (hp : Paired (RdN K H) xs ds) (ha : a ≠ sysModules) : RdN K H (.ref a) (.list ds) := fun X pins σ s u e I r => by
  subst e
  cases (show u = Value.ref a from r)
  obtain ⟨its, rv, ⟨o, n, ho, hc, _, hd⟩, _⟩ := I.list hs
  obtain ⟨as, hr, hm⟩ := rn_all I hp rv
  exact ⟨_, Reads.list ho hc hd hr, by
    simp only [List.mem_cons, not_or]
    exact ⟨fun e => ha e.symm, hm⟩⟩
theorem rn_dct {a : Addr} {kvs : List (Key × V)} (h : H a = some (.dK kvs)) (hf : ∀ p ∈ kvs, flatV p.2 = true) : RdN K H (.ref a) (.dict (kvs.map fun p => (keyD p.1, flatD p.2))) := fun X pins σ s u e I r => by
  subst e
  obtain ⟨as, a, b⟩ := sh_reads I (.dct h hf) r
  exact ⟨as, a, b rfl⟩
/-- a datum that may be told by repr -/
def Sd (K : PySem.W.Frag) (H : Hp) (v : V) (d : PyData) : Prop := (Dp K H v d ∧ d.hasDict = false) ∨ RdN K H v d
theorem Sd.rd {v : V} {d : PyData} (h : Sd K H v d) : Rd K H v d := h.elim (fun h => rd_sh (.dp h.1 h.2)) RdN.rd
theorem dpAll_app {xs ys : List V} {ds es : List PyData} (h : DpAll K H xs ds) (g : DpAll K H ys es) : DpAll K H (xs ++ ys) (ds ++ es) := by
  match xs, ds, h with
  | [], [], _ => exact g
  | x :: xs, d :: ds, .cons a t => exact .cons a (dpAll_app t g)
theorem paired_app {α β : Type} {F : α → β → Prop} : ∀ {xs ys : List α} {ds es : List β}, Paired F xs ds → Paired F ys es → Paired F (xs ++ ys) (ds ++ es)
  | _, _, _, _, .nil, g => g
  | _, _, _, _, .cons a t, g => .cons a (paired_app t g)
theorem rn_ints : ∀ ks : List Int, Paired (RdN K H) (ks.map V.int) (ks.map PyData.int)
  | [] => .nil
  | k :: ks => .cons (rn_flat (v := .int k) rfl) (rn_ints ks)
theorem nodict_app {ds es : List PyData} (h : PyData.hasDictAll ds = false) (g : PyData.hasDictAll es = false) : PyData.hasDictAll (ds ++ es) = false := by
  induction ds with
  | nil => exact g
  | cons d ds ih =>
    simp only [PyData.hasDictAll, Bool.or_eq_false_iff] at h
    show (d.hasDict || PyData.hasDictAll (ds ++ es)) = false
    rw [h.1, ih h.2]; rfl
theorem nodict_ints : ∀ ks : List Int, PyData.hasDictAll (ks.map PyData.int) = false
  | [] => by simp [PyData.hasDictAll]
  | k :: ks => by
    simp only [List.map_cons, PyData.hasDictAll, PyData.hasDict, nodict_ints ks, Bool.or_self]
theorem sd_ints {a : Addr} {ks : List Int} (hs : SqT K H a (ks.map V.int)) : Sd K H (.ref a) (.tuple (ks.map .int)) :=
  .inl ⟨.tup hs (dpAll_ints ks), by simp only [PyData.hasDict]; exact nodict_ints ks⟩
theorem sd_intsL {a : Addr} {ks : List Int} (hs : SqL K H a (ks.map V.int)) : Sd K H (.ref a) (.list (ks.map .int)) :=
  .inl ⟨.lst hs (dpAll_ints ks), by simp only [PyData.hasDict]; exact nodict_ints ks⟩
/-- one datum among whole numbers -/
theorem sd_mid {a : Addr} {k1 k2 : List Int} {v : V} {d : PyData} (hs : SqT K H a (k1.map V.int ++ [v] ++ k2.map V.int)) (h : Sd K H v d) : Sd K H (.ref a) (.tuple (k1.map .int ++ [d] ++ k2.map .int)) := by
  rcases h with ⟨h, n⟩ | h
  · refine .inl ⟨.tup hs (dpAll_app (dpAll_app (dpAll_ints k1) (.cons h .nil)) (dpAll_ints k2)), ?_⟩
    simp only [PyData.hasDict]
    exact nodict_app (nodict_app (nodict_ints k1) (by simp only [PyData.hasDictAll, n, Bool.or_self])) (nodict_ints k2)
  · exact .inr (rn_tup hs (paired_app (paired_app (rn_ints k1) (.cons h .nil)) (rn_ints k2)))
theorem sd_tup1 {a : Addr} {v : V} {d : PyData} (hs : SqT K H a [v]) (h : Sd K H v d) : Sd K H (.ref a) (.tuple [d]) := sd_mid (k1 := []) (k2 := []) hs h
theorem sd_lst1 {a : Addr} {v : V} {d : PyData} (hs : SqL K H a [v]) (ha : a ≠ sysModules) (h : Sd K H v d) : Sd K H (.ref a) (.list [d]) := by
  rcases h with ⟨h, n⟩ | h
  · exact .inl ⟨.lst hs (.cons h .nil), by simp only [PyData.hasDict, PyData.hasDictAll, n, Bool.or_self]⟩
  · exact .inr (rn_lst hs (.cons h .nil) ha)
theorem sd_int (i : Int) : Sd K H (.int i) (.int i) := .inr (rn_flat (v := .int i) rfl)
theorem sd_bl (i : Bool) : Sd K H (.bl i) (.bool i) := .inr (rn_flat (v := .bl i) rfl)
theorem sd_str (i : Str) : Sd K H (.str i) (.str i) := .inr (rn_flat (v := .str i) rfl)
theorem sd_non : Sd K H .non .none := .inr (rn_flat (v := .non) rfl)
theorem dt_mid {n m : Nat} {k1 k2 : List Int} {d : PyData} (h1 : ∀ k ∈ k1, k.natAbs < 10 ^ 45) (h2 : ∀ k ∈ k2, k.natAbs < 10 ^ 45) (h : Dt n m d) (hl : k1.length + 1 + k2.length ≤ 200) : Dt (200 * (n + 1)) (m + 1) (.tuple (k1.map .int ++ [d] ++ k2.map .int)) := by
  refine dt_tuple (fun x hx => ?_) (by simp only [List.length_append, List.length_map, List.length_cons, List.length_nil]; omega)
  have ii : ∀ {ks : List Int}, (∀ k ∈ ks, k.natAbs < 10 ^ 45) → x ∈ ks.map PyData.int → Dt n m x := fun {ks} g q => by
    obtain ⟨k, hk, rfl⟩ := List.mem_map.mp q
    exact (dt_int (g k hk)).mono (Nat.zero_le _) (Nat.zero_le _)
  rcases List.mem_append.mp hx with hx | hx
  · rcases List.mem_append.mp hx with hx | hx
    · exact ii h1 hx
    · have : x = d := by simpa using hx
      rw [this]; exact h
  · exact ii h2 hx
theorem dt_ints {ks : List Int} (h : ∀ k ∈ ks, k.natAbs < 10 ^ 45) (hl : ks.length ≤ 200) : Dt 200 1 (.tuple (ks.map .int)) := by
  refine dt_tuple (n := 0) (m := 0) (L := 200) (fun x hx => ?_) (by rw [List.length_map]; exact hl)
  obtain ⟨k, hk, rfl⟩ := List.mem_map.mp hx
  exact dt_int (h k hk)
theorem dt_intsL {ks : List Int} (h : ∀ k ∈ ks, k.natAbs < 10 ^ 45) (hl : ks.length ≤ 200) : Dt 200 1 (.list (ks.map .int)) := by
  refine dt_list (n := 0) (m := 0) (L := 200) (fun x hx => ?_) (by rw [List.length_map]; exact hl)
  obtain ⟨k, hk, rfl⟩ := List.mem_map.mp hx
  exact dt_int (h k hk)
end
/-- a list that is known to be no table of modules -/
def tLstB (t : TA) : TE := fun σ H Q => t σ H fun xs H1 => xs.length ≤ sizeLine ∧ ∀ p, H1 p = none → p ≠ sysModules → Q (.ref p) (upd H1 p (.lst xs))
theorem pe_lstB {X : Cx} {es : List Expr} {t : TA} {pos : Pos} (h : PA X es t) : PE X (.List es pos) (tLstB t) := by
  refine ⟨fun pins s σ H Q I hq => ?_⟩
  refine wpAny_List_spliced (thn (h.run pos pins s σ H _ I hq) fun us s1 ⟨xs, H1, I1, r, z, q⟩ => ⟨by rw [← r.length]; exact z, ?_⟩)
  have hf : H1 s1.heap.objs.size = none := I1.hok.fresh (Nat.le_refl _)
  refine ⟨.ref s1.heap.objs.size, upd H1 s1.heap.objs.size (.lst xs), I1.laid (t' := s1.toks) (fun b u e => Heap.get?_push_of_some _ e) (Nat.le_refl _) ?_, rfl, q _ hf (Nat.ne_of_gt I1.big)⟩
  exact ⟨z, us, 0, r, Heap.get?_push_size _ rfl⟩
/-- what has been gathered so far -/
structure GotP (b l : Addr) (P : Hp → V → Prop) (H0 H : Hp) (vs : List V) : Prop where
  B : BagL H b l
  k : Keep b H0 H
  all : ∀ v ∈ vs, P H v
section
variable {b l : Addr} {P : Hp → V → Prop} {H0 H H' : Hp} {vs : List V}
/-- what is kept whatever is drawn -/
abbrev KeepP (b : Addr) (P : Hp → V → Prop) : Prop := ∀ {H H' : Hp} {v : V}, P H v → Keep b H H' → P H' v
theorem GotP.start (B : BagL H b l) : GotP b l P H H [] := ⟨B, Keep.refl b H, fun v h => by cases h⟩
theorem GotP.val (g : GotP b l P H0 H vs) {w : V} (i : P H w) : GotP b l P H0 H (vs ++ [w]) := ⟨g.B, g.k, fun v h => (List.mem_append.mp h).elim (g.all v) fun h => by
  have : v = w := by simpa using h
  rw [this]; exact i⟩
theorem GotP.skip (g : GotP b l P H0 H vs) (kp : KeepP b P) {p : Addr} (hp : H p = none) (o : HO) : GotP b l P H0 (upd H p o) vs := ⟨g.B.new hp, g.k.new hp, fun v h => kp (g.all v h) (Keep.new (Keep.refl b H) hp)⟩
theorem GotP.go (g : GotP b l P H0 H vs) (kp : KeepP b P) (B : BagL H' b l) (k : Keep b H H') : GotP b l P H0 H' vs := ⟨B, g.k.trans k, fun v h => kp (g.all v h) k⟩
theorem GotP.new (g : GotP b l P H0 H vs) (kp : KeepP b P) {p : Addr} (hp : H p = none) {o : HO} (i : p ≠ b → P (upd H p o) (.ref p)) : GotP b l P H0 (upd H p o) (vs ++ [.ref p]) := (g.skip kp hp o).val (i (g.B.ne hp))
theorem GotP.app {ws : List V} {H1 : Hp} (g : GotP b l P H0 H vs) (kp : KeepP b P) (h : GotP b l P H H1 ws) : GotP b l P H0 H1 (vs ++ ws) := ⟨h.B, g.k.trans h.k, fun v hv => (List.mem_append.mp hv).elim (fun q => kp (g.all v q) h.k) (h.all v)⟩
end
/-- a text, or something else -/
inductive TV (K : PySem.W.Frag) (H : Hp) : V → Option Str → Prop
  | str (z : Str) : TV K H (.str z) (some z)
  | no {v : V} (t : Value) (ty : TyX K H v t) (h : PySem.W.kitOne K t (.type "str") = some false) : TV K H v none
end SB

end

section
set_option Elab.async false
set_option linter.all false
set_option maxRecDepth 100000
set_option maxHeartbeats 4000000
/-! tuples cut and joined at will; what a drawn value is. -/
namespace SB
open PySem PySem.Spec PyProof.Rows L2
theorem cut_take (xs : List V) (n : Nat) : cutV xs none (some (n : Int)) = xs.take n := by
  unfold cutV
  rw [HT.sIx_none, HT.sIx_nat, List.drop_zero, Nat.sub_zero]
  by_cases h : n ≤ xs.length
  · rw [Nat.min_eq_left h]
  · rw [Nat.min_eq_right (by omega), List.take_length, List.take_of_length_le (by omega)]
theorem cut_drop (xs : List V) (n : Nat) : cutV xs (some (n : Int)) none = xs.drop n := by
  unfold cutV
  rw [HT.sIx_none, HT.sIx_nat]
  by_cases h : n ≤ xs.length
  · rw [Nat.min_eq_left h, List.take_of_length_le (by rw [List.length_drop]; omega)]
  · rw [Nat.min_eq_right (by omega), List.drop_length, List.drop_of_length_le (by omega)]
    simp
/-- a tuple that is no bag -/
def Tp (b : Addr) (K : PySem.W.Frag) (H : Hp) (p : Addr) (zs : List V) : Prop := SqT K H p zs ∧ p ≠ b
section
variable {b l p x y : Addr} {K : PySem.W.Frag} {H H' : Hp} {xs ys zs : List V} {Q : VK}
theorem Tp.keep (h : Tp b K H p zs) (k : Keep b H H') : Tp b K H' p zs := ⟨seqT_keep k h.2 h.1, h.2⟩
theorem Tp.sm (h : Tp b K H p zs) (s : Same H H') : Tp b K H' p zs := h.keep (Keep.ofSame s)
theorem Tp.new (B : BagL H b l) (hp : H p = none) : Tp b K (upd H p (.tup zs)) p zs := ⟨SqT.of upd_same, B.ne hp⟩
theorem rd_catA (B : BagL H b l) (hx : Tp b K H x xs) (hy : Tp b K H y ys) (hz : xs.length + ys.length ≤ 4000) (k : ∀ p H', Same H H' → Tp b K H' p (xs ++ ys) → Q (.ref p) H') : rCatA K (.ref x) (.ref y) H Q :=
  ⟨x, y, xs, ys, rfl, rfl, hx.1, hy.1, by rw [sizeLine_eq]; omega, fun e => by subst e; exact k y H (Same.refl H) hy, fun _ e => by subst e; exact k x H (Same.refl H) (by rw [List.append_nil]; exact hx),
    fun _ _ p hp => k p _ (Same.new (Same.refl H) hp) (Tp.new B hp)⟩
theorem rd_slA (B : BagL H b l) (hx : Tp b K H x xs) {lo hi : Option Int} (k : ∀ p H', Same H H' → Tp b K H' p (cutV xs lo hi) → Q (.ref p) H') : rSlA K (.ref x) lo hi H Q :=
  ⟨x, xs, rfl, hx.1, fun e => k x H (Same.refl H) (by
    unfold cutV
    rw [e.1, e.2, List.drop_zero, Nat.sub_zero, List.take_length]
    exact hx), fun _ p hp => k p _ (Same.new (Same.refl H) hp) (Tp.new B hp)⟩
theorem GotP.sm {P : Hp → V → Prop} {H0 : Hp} {vs : List V} (g : GotP b l P H0 H vs) (kp : KeepP b P) (s : Same H H') : GotP b l P H0 H' vs := g.go kp (g.B.same s) (Keep.ofSame s)
end
/-- small text -/
def Sm0 (t : Option Str) : Prop := ∀ z, t = some z → Sm 1000 z
/-- what a value is, whatever is drawn later: a number, a key set, a text; and its datum -/
def Num (n m : Nat) (b : Addr) (K : PySem.W.Frag) (H : Hp) (v : V) : Prop := ∃ o r t d, Sm0 t ∧ Dt n m d ∧ ∀ H', Keep b H H' → NV K H' v o ∧ SV K H' v r ∧ TV K H' v t ∧ Sd K H' v d
section
variable {n m : Nat} {b l p : Addr} {K : PySem.W.Frag} {H H' : Hp} {v : V}
theorem Num.keep (h : Num n m b K H v) (k : Keep b H H') : Num n m b K H' v := let ⟨o, r, t, d, h1, h2, h3⟩ := h; ⟨o, r, t, d, h1, h2, fun H2 k2 => h3 H2 (k.trans k2)⟩
theorem Num.mono {n' m' : Nat} (h : Num n m b K H v) (hn : n ≤ n') (hm : m ≤ m') : Num n' m' b K H v := let ⟨o, r, t, d, h1, h2, h3⟩ := h; ⟨o, r, t, d, h1, h2.mono hn hm, h3⟩
theorem num_ty {T : String} {b1 b2 : Bool} {d : PyData} (hd : Dt n m d) (ty : ∀ H', Keep b H H' → TyX K H' v (.type T)) (sd : ∀ H', Keep b H H' → Sd K H' v d) (h0 : kitB T "tuple" = some false) (hs : kitB T "str" = some false) (h1 : kitB T "int" = some b1) (h2 : kitB T "bool" = some b2) (h : (b1 && !b2) = false) : Num n m b K H v :=
  ⟨none, false, none, d, (fun z e => nomatch e), hd, fun H' k => ⟨.no _ b1 b2 (ty H' k) (kit_ty h1) (kit_ty h2) h, .inl ⟨_, ty H' k, kit_ty h0, rfl⟩, .no _ (ty H' k) (kit_ty hs), sd H' k⟩⟩
theorem num_non : Num n m b K H .non := num_ty (T := "NoneType") (b1 := false) (b2 := false) (dt_non.mono (Nat.zero_le _) (Nat.zero_le _)) (fun _ _ => .base .non) (fun _ _ => sd_non) (by decide +kernel) (by decide +kernel) (by decide +kernel) (by decide +kernel) rfl
theorem num_bl (x : Bool) : Num n m b K H (.bl x) := num_ty (T := "bool") (b1 := true) (b2 := true) ((dt_bl x).mono (Nat.zero_le _) (Nat.zero_le _)) (fun _ _ => .base (.bl x)) (fun _ _ => sd_bl x) (by decide +kernel) (by decide +kernel) (by decide +kernel) (by decide +kernel) rfl
theorem num_int {i : Int} (hi : i.natAbs < 10 ^ 45) : Num n m b K H (.int i) :=
  ⟨some i, false, none, _, (fun z e => nomatch e), (dt_int hi).mono (Nat.zero_le _) (Nat.zero_le _), fun H' k => ⟨.int i, .inl ⟨_, .base (.int i), kit_ty (by decide +kernel), rfl⟩, .no _ (.base (.int i)) (kit_ty (by decide +kernel)), sd_int i⟩⟩
theorem num_str {z : Str} (hz : Sm n z) (hn : n ≤ 1000) : Num n m b K H (.str z) :=
  ⟨none, false, some z, _, (fun y e => by cases e; exact hz.mono hn), (dt_str hz).mono (Nat.le_refl _) (Nat.zero_le _), fun H' k => ⟨.no _ false false (.base (.str z)) (kit_ty (by decide +kernel)) (kit_ty (by decide +kernel)) rfl, .inl ⟨_, .base (.str z), kit_ty (by decide +kernel), rfl⟩, .str z, sd_str z⟩⟩
theorem num_lst {xs : List V} {d : PyData} (h : H p = some (.lst xs)) (hb : p ≠ b) (hd : Dt n m d) (sd : ∀ H', Keep b H H' → Sd K H' (.ref p) d) : Num n m b K H (.ref p) :=
  num_ty (T := "list") (b1 := false) (b2 := false) hd (fun _ k => .base (.lst (k _ _ h hb))) sd (by decide +kernel) (by decide +kernel) (by decide +kernel) (by decide +kernel) rfl
theorem num_intsL {ks : List Int} (h : H p = some (.lst (ks.map V.int))) (hb : p ≠ b) (hk : ∀ k ∈ ks, k.natAbs < 10 ^ 45) (hl : ks.length ≤ 200) (hn : 200 ≤ n) (hm : 1 ≤ m) : Num n m b K H (.ref p) :=
  num_lst h hb ((dt_intsL hk hl).mono hn hm) fun H' k => sd_intsL (SqL.of (k _ _ h hb))
theorem num_lst1 {d : PyData} (h : H p = some (.lst [v])) (hb : p ≠ b) (ha : p ≠ sysModules) (hv : Num n m b K H v) : Num (1 * (n + 1)) (m + 1) b K H (.ref p) := by
  obtain ⟨o, r, t, d, h1, h2, h3⟩ := hv
  exact num_lst h hb (dt_list (ds := [d]) (fun x hx => by
    have : x = d := by simpa using hx
    rw [this]; exact h2) (Nat.le_refl 1)) fun H' k => sd_lst1 (SqL.of (k _ _ h hb)) ha (h3 H' k).2.2.2
theorem num_dct {kvs : List (Key × V)} (h : H p = some (.dK kvs)) (hb : p ≠ b) (hf : ∀ q ∈ kvs, flatV q.2 = true) (hd : Dt n m (.dict (kvs.map fun q => (keyD q.1, flatD q.2)))) : Num n m b K H (.ref p) :=
  num_ty (T := "dict") (b1 := false) (b2 := false) hd (fun _ k => .base (.dK (k _ _ h hb))) (fun H' k => .inr (rn_dct (k _ _ h hb) hf)) (by decide +kernel) (by decide +kernel) (by decide +kernel) (by decide +kernel) rfl
theorem dt_dct0 : Dt 0 1 (.dict []) := ⟨by simp [PyData.leavesShort, PyData.leavesShortKv], by simp [PyData.showable, PyData.showableKv], by simp [PyData.bulk, PyData.bulkKv], by simp [PyData.depth, PyData.depthKv]⟩
theorem dt_dct1 {k : Int} (hk : k.natAbs < 10 ^ 45) : Dt 2 1 (.dict [(.int k, .int 1)]) := by
  have a := dt_int hk
  have c := dt_int (i := 1) (by decide +kernel)
  refine ⟨?_, ?_, by simp [PyData.bulk, PyData.bulkKv], by simp [PyData.depth, PyData.depthKv]⟩
  · have e1 : PyData.leavesShort 50 (.dict [(.int k, .int 1)]) = PyData.leavesShortKv 50 [(.int k, .int 1)] := by rw [PyData.leavesShort]
    have e2 : PyData.leavesShortKv 50 [(.int k, .int 1)] = (PyData.leavesShort 50 (.int k) && PyData.leavesShort 50 (.int 1) && PyData.leavesShortKv 50 []) := by
      conv => lhs; rw [PyData.leavesShortKv]
    rw [e1, e2, a.ls, c.ls, PyData.leavesShortKv]
    rfl
  · have e1 : PyData.showable (.dict [(.int k, .int 1)]) = PyData.showableKv [(.int k, .int 1)] := by rw [PyData.showable]
    have e2 : PyData.showableKv [(.int k, .int 1)] = (PyData.showable (.int k) && PyData.showable (.int 1) && PyData.showableKv []) := by
      conv => lhs; rw [PyData.showableKv]
    rw [e1, e2, a.sh, c.sh, PyData.showableKv]
    rfl
def NVk (b : Addr) (K : PySem.W.Frag) (H : Hp) (x : V) : Prop := ∃ o, ∀ H', Keep b H H' → NV K H' x o
theorem Num.nv (h : Num n m b K H v) : NVk b K H v := let ⟨o, r, t, d, h1, h2, h3⟩ := h; ⟨o, fun H' k => (h3 H' k).1⟩
theorem nvk_int (i : Int) : NVk b K H (.int i) := ⟨some i, fun _ _ => .int i⟩
theorem NVk.keep {x : V} (h : NVk b K H x) (k : Keep b H H') : NVk b K H' x := let ⟨o, h⟩ := h; ⟨o, fun H2 k2 => h H2 (k.trans k2)⟩
theorem pair_nvk : ∀ {xs : List V}, (∀ x ∈ xs, NVk b K H x) → ∃ os, ∀ H', Keep b H H' → Paired (NV K H') xs os
  | [], _ => ⟨[], fun _ _ => .nil⟩
  | x :: xs, h => by
    obtain ⟨o, ho⟩ := h x List.mem_cons_self
    obtain ⟨os, hos⟩ := pair_nvk (xs := xs) fun y hy => h y (List.mem_cons_of_mem _ hy)
    exact ⟨o :: os, fun H' k => .cons (ho H' k) (hos H' k)⟩
theorem num_tp {xs : List V} {d : PyData} (h : Tp b K H p xs) (hz : xs.length ≤ 2000) (hx : ∀ x ∈ xs, NVk b K H x) (hd : Dt n m d) (sd : ∀ H', Keep b H H' → Sd K H' (.ref p) d) : Num n m b K H (.ref p) := by
  obtain ⟨os, hos⟩ := pair_nvk hx
  exact ⟨none, setB os, none, d, (fun z e => nomatch e), hd, fun H' k => ⟨.no _ false false (ty_tup (h.keep k).1) (kit_ty (by decide +kernel)) (kit_ty (by decide +kernel)) rfl,
    .inr ⟨p, xs, os, rfl, (h.keep k).1, hz, hos H' k, rfl⟩, .no _ (ty_tup (h.keep k).1) (kit_ty (by decide +kernel)), sd H' k⟩⟩
theorem num_ints {ks : List Int} (h : Tp b K H p (ks.map V.int)) (hk : ∀ k ∈ ks, k.natAbs < 10 ^ 45) (hl : ks.length ≤ 200) (hn : 200 ≤ n) (hm : 1 ≤ m) : Num n m b K H (.ref p) :=
  num_tp h (by rw [List.length_map]; omega) (fun x hx => by
    obtain ⟨k, rfl, _⟩ := mem_ints hx
    exact nvk_int k) ((dt_ints hk hl).mono hn hm) fun H' k => sd_ints (h.keep k).1
theorem num_mid {k1 k2 : List Int} (h : Tp b K H p (k1.map V.int ++ [v] ++ k2.map V.int)) (h1 : ∀ k ∈ k1, k.natAbs < 10 ^ 45) (h2 : ∀ k ∈ k2, k.natAbs < 10 ^ 45) (hl : k1.length + 1 + k2.length ≤ 200) (hv : Num n m b K H v) : Num (200 * (n + 1)) (m + 1) b K H (.ref p) := by
  obtain ⟨o, r, t, d, g1, g2, g3⟩ := id hv
  refine num_tp h (by simp only [List.length_append, List.length_map, List.length_cons, List.length_nil]; omega) (fun x hx => ?_) (dt_mid h1 h2 g2 hl) fun H' k => sd_mid (h.keep k).1 (g3 H' k).2.2.2
  rcases List.mem_append.mp hx with hx | hx
  · rcases List.mem_append.mp hx with hx | hx
    · obtain ⟨k, rfl, _⟩ := mem_ints hx
      exact nvk_int k
    · have : x = v := by simpa using hx
      rw [this]; exact hv.nv
  · obtain ⟨k, rfl, _⟩ := mem_ints hx
    exact nvk_int k
theorem num_tup1 (h : Tp b K H p [v]) (hv : Num n m b K H v) : Num (1 * (n + 1)) (m + 1) b K H (.ref p) := by
  obtain ⟨o, r, t, d, g1, g2, g3⟩ := id hv
  exact num_tp h (by show 1 ≤ 2000; decide) (fun x hx => by
    have : x = v := by simpa using hx
    rw [this]; exact hv.nv) (dt_tuple (ds := [d]) (fun x hx => by
    have : x = d := by simpa using hx
    rw [this]; exact g2) (Nat.le_refl 1)) fun H' k => sd_tup1 (h.keep k).1 (g3 H' k).2.2.2
end
end SB

end

section
set_option Elab.async false
set_option linter.all false
set_option maxRecDepth 100000
set_option maxHeartbeats 4000000
/-! tuple(range(a, b, c)). -/
namespace SB
open PySem PySem.Spec PyProof.Rows L2
def rg3 (a c : Int) (n : Nat) : List Int := (List.range n).map fun m : Nat => a + (m : Int) * c
def tTupRg3 (ta : TA) : TE := fun σ H Q => ta σ H fun vs H1 => ∃ (i j c : Int) (n : Nat), vs = [.int i, .int j, .int c] ∧ RgC i j c n ∧ n ≤ 2 ^ 24 ∧ ∀ q, H1 q = none → Q (.ref q) (upd H1 q (.tup ((rg3 i c n).map V.int)))
theorem vals_rg3 {a c : Int} {n : Nat} {acc : Array Value} (h : ItemsOf (fun i v => ∃ t, v = .int (a + i * c) t) acc n) : Vals ((rg3 a c n).map V.int) acc.toList := by
  have e : acc.toList.length = n := by rw [Array.length_toList]; exact h.1
  unfold rg3
  rw [List.map_map, ← e]
  refine vals_of_get acc.toList _ fun j u hj => ?_
  obtain ⟨t, rfl⟩ := h.2 j u (by rw [← hj, Array.getElem?_toList])
  exact ⟨t, rfl⟩
section
variable {X : Cx} {a b c : Expr} {ta : TA}
theorem pe_tupRg3 {p p2 pos pos2 : Pos} (hc : X.calm = true) (hg : Gl X "tuple") (hm : X.mg "tuple" = none) (hg2 : Gl X "range") (hm2 : X.mg "range" = none) (ha : PA X [a, b, c] ta)
    (na : starEach [.Call (.Name "range" p2) [a, b, c] [] pos2] X.env = (false, eval (.Call (.Name "range" p2) [a, b, c] [] pos2) X.env) :: starEach [] X.env := by rfl)
    (hs : starEach [a, b, c] X.env = (false, eval a X.env) :: starEach [b, c] X.env := by rfl) (hpl : (backTo pos2 (starEach [b, c] X.env)).any (·.1) = false := by rfl) :
    PE X (.Call (.Name "tuple" p) [.Call (.Name "range" p2) [a, b, c] [] pos2] [] pos) (tTupRg3 ta) := by
  refine ⟨fun pins s σ H Q I h => ?_⟩
  refine Call_ (ld_blt I hg hm boot_tuple (PyProof.Rows.callWith_type1 (args_cons ?_ na) na))
  refine Call_ (ld_blt I hg2 hm2 boot_range (PyProof.Rows.callWith_type1 (thn (ha.run pos2 pins s σ H _ I h) fun us s1 ⟨vs, H1, I1, r1, q1⟩ => ?_) hs hpl))
  obtain ⟨i, j, k, n, e, ⟨c0, c1, c2, c3⟩, hn, q⟩ := q1
  subst e
  cases r1 with
  | cons r rr =>
    cases rr with
    | cons r' rr =>
      cases rr with
      | cons r'' rr =>
        cases rr
        obtain ⟨t, rfl⟩ := r
        obtain ⟨t', rfl⟩ := r'
        obtain ⟨t'', rfl⟩ := r''
        refine call_range_3 c0 ?_ (.inl (PyProof.noPylong_small c1))
        have I2 : Inv X pins σ H1 { s1 with heap := s1.heap.push { cls := .type "range", data := .fields #[.int i t, .int j t', .int k t''] } } := I1.kept (t' := s1.toks) fun b o e => Heap.get?_push_of_some _ e
        refine args_nil ?_
        refine call_tuple_range (n := n) (I2.ok.hd hc) (IsRange.new ..) c2 c3 hn fun h' tk acc hk hi => ?_
        have I3 : Inv X pins σ H1 { s1 with heap := h', toks := tk } := I2.kept hk
        refine ⟨.ref h'.objs.size, upd H1 h'.objs.size (.tup ((rg3 i k n).map V.int)), I3.laid (t' := tk) (fun c o e => Heap.get?_push_of_some _ e) (Nat.le_refl _) (show ObjOk X.prog X.w _ _ _ (.tup ((rg3 i k n).map V.int)) from ⟨?_, acc.toList, vals_rg3 hi, ?_⟩), rfl, q _ (I3.hok.fresh (Nat.le_refl _))⟩
        · unfold rg3
          rw [List.length_map, List.length_map, List.length_range, sizeLine_eq]; omega
        · rw [Array.toArray_toList]; exact IsTup.new _ _
end
theorem rg_look : ∀ (d : Fin 600) (c : Fin 3), (Builtin.Range.small (d.val : Int) 1000 ((c.val : Int) + 1) && decide (100 ≤ Builtin.Range.rangeSize (d.val : Int) 1000 ((c.val : Int) + 1)) && decide (Builtin.Range.rangeSize (d.val : Int) 1000 ((c.val : Int) + 1) ≤ 1000)) = true := by decide +kernel
theorem rg_small {d e : Int} (d0 : 0 ≤ d) (d1 : d < 600) (e0 : 0 ≤ e) (e1 : e < 3) : ∃ n : Nat, RgC d 1000 (1 + e) n ∧ 100 ≤ n ∧ n ≤ 1000 ∧ (n : Int) = (1000 - d - 1) / (1 + e) + 1 := by
  have h := rg_look ⟨d.toNat, by omega⟩ ⟨e.toNat, by omega⟩
  simp only [Bool.and_eq_true, decide_eq_true_eq] at h
  rw [show ((d.toNat : Nat) : Int) = d by omega, show ((e.toNat : Nat) : Int) + 1 = 1 + e by omega] at h
  obtain ⟨⟨h1, h2⟩, h3⟩ := h
  refine ⟨(Builtin.Range.rangeSize d 1000 (1 + e)).toNat, ⟨by omega, by omega, h1, by omega⟩, by omega, by omega, ?_⟩
  have e4 : Builtin.Range.rangeSize d 1000 (1 + e) = (1000 - d - 1) / (1 + e) + 1 := by
    unfold Builtin.Range.rangeSize
    rw [if_pos (by omega), if_pos (by omega)]
  omega
theorem rg_len (a c : Int) (n : Nat) : (rg3 a c n).length = n := by unfold rg3; rw [List.length_map, List.length_range]
theorem rg_kset {d c : Int} {n : Nat} (d0 : 0 ≤ d) (d1 : d < 1000) (c0 : 0 < c) (hn : (n : Int) = (1000 - d - 1) / c + 1) : KSet (rg3 d c n) where
  up := by
    unfold rg3
    rw [List.pairwise_map]
    refine List.pairwise_lt_range.imp fun {a b} h => ?_
    have : (a : Int) * c < (b : Int) * c := Int.mul_lt_mul_of_pos_right (by omega) c0
    omega
  lo k hk := by
    obtain ⟨m, hm, rfl⟩ := List.mem_map.mp hk
    have : 0 ≤ (m : Int) * c := Int.mul_nonneg (by omega) (by omega)
    omega
  hi k hk := by
    obtain ⟨m, hm, rfl⟩ := List.mem_map.mp hk
    have hm' := List.mem_range.mp hm
    have h1 : (m : Int) ≤ (1000 - d - 1) / c := by omega
    have h2 : (m : Int) * c ≤ (1000 - d - 1) / c * c := Int.mul_le_mul_of_nonneg_right h1 (by omega)
    have h3 : (1000 - d - 1) / c * c ≤ 1000 - d - 1 := Int.ediv_mul_le _ (by omega)
    omega
end SB

end

section
set_option Elab.async false
set_option linter.all false
set_option maxRecDepth 100000
set_option maxHeartbeats 4000000
namespace K03
open PySem L2 SB
/-- the sign ahead of a key; the text of a row -/
def sgn (up dn : Option Int) (k : Int) : Str := if decide (V.int k = mV up) = true then "+" else if decide (V.int k = mV dn) = true then "-" else ""
def rowText (ls : List Int) (up dn : Option Int) : Str := Txt.join " " (ls.map fun k => sgn up dn k ++ (toString k : Str))
theorem sgn_len (up dn : Option Int) (k : Int) : (sgn up dn k).length ≤ 1 := by
  unfold sgn
  split
  · decide
  · split <;> decide
theorem row_len {ls : List Int} {up dn : Option Int} (L : Lot ls up dn) : (rowText ls up dn).length ≤ 6000 := by
  have h := StrLaws.join_length_le (" " : Str) (ls.map fun k => sgn up dn k ++ (toString k : Str))
  have e : rowText ls up dn = Str.join " " (ls.map fun k => sgn up dn k ++ (toString k : Str)) := StrLaws.glued_eq_join _ _
  rw [e]
  have few := L.few
  have hs : ∀ l : List Int, (∀ k ∈ l, 0 ≤ k ∧ k ≤ 999) → ((l.map fun k => sgn up dn k ++ (toString k : Str)).map (·.length)).sum ≤ l.length * 5 := fun l => by
    induction l with
    | nil => intro _; simp
    | cons a r ih =>
      intro h
      have h1 := h a List.mem_cons_self
      have h2 := ih fun y hy => h y (List.mem_cons_of_mem _ hy)
      have h3 := sgn_len up dn a
      have h4 := key_len h1.1 h1.2
      rw [List.map_cons, List.map_cons, List.sum_cons, List.length_cons, Str.length_append]
      omega
  have := hs ls fun k hk => ⟨L.ks.lo k hk, L.ks.hi k hk⟩
  rw [List.length_map] at h
  have e1 : (" " : Str).length = 1 := by decide
  rw [e1] at h
  omega
def rowRepr (ls : List Int) (up dn : Option Int) : Str := ((Str.empty ++ "Row(") ++ rowText ls up dn) ++ ")"
def spSignD (K : PySem.W.Frag) (C : Addr) : Sp := fun vs H Q _ => ∃ r q up dn k, vs = [.ref r, .int k] ∧ RowAt C H r q up dn ∧ Q (.str (sgn up dn k)) H
def spTextD (K : PySem.W.Frag) (C : Addr) : Sp := fun vs H Q _ => ∃ r q ls up dn, vs = [.ref r] ∧ RowAt C H r q up dn ∧ SqT K H q (ls.map V.int) ∧ Lot ls up dn ∧ ∀ H', Same H H' → Q (.str (rowText ls up dn)) H'
def spRepr (K : PySem.W.Frag) (C : Addr) : Sp := fun vs H Q _ => ∃ r q ls up dn, vs = [.ref r] ∧ RowAt C H r q up dn ∧ SqT K H q (ls.map V.int) ∧ Lot ls up dn ∧ ∀ H', Same H H' → Q (.str (rowRepr ls up dn)) H'
section
variable {P : Program} {w : World} {K : PySem.W.Frag} {mg : Str → Option Value} {base : Heap}
theorem ok_signD {f C : Addr} {fd : FuncData} (F : Fun K "_sign" "Row._sign" s_Row_sign f fd) (T : RowC K C) : FnOk P w K mg base CX0 1 f fd ["self", "key"] (spSignD K C) := by
  refine F.ok sc_Row_sign (fun vs H Q E h => ?_) (fun cdv A outer s H vs Q E hr h => ?_)
  · obtain ⟨r, q, up, dn, k, rfl, _⟩ := h
    rfl
  · obtain ⟨r, q, up, dn, z, rfl, ⟨dx, ha⟩, k⟩ := h
    refine ⟨_, pss_cons (ps_if (pt_cmpR op_eq (pv 1) (pe_fld (pv 0) rfl) (nomark _)) (pss_one (ps_ret pe_str)) pss_nil)
      (pss_cons (ps_if (pt_cmpR op_eq (pv 1) (pe_fld (pv 0) rfl) (nomark _)) (pss_one (ps_ret pe_str)) pss_nil) (pss_one (ps_ret pe_str))), ?_⟩
    refine ⟨_, rfl, _, rfl, r, C, dx, _, _, rfl, ha, T.cl, T.nC, rfl, by cases up <;> rfl, _, rfl, ite2 (fun e => ?_) (fun e => ?_)⟩
    · have h : sgn up dn z = "+" := if_pos e
      rw [h] at k
      exact k
    refine ⟨_, rfl, _, rfl, r, C, dx, _, _, rfl, ha, T.cl, T.nG, rfl, by cases dn <;> rfl, _, rfl, ite2 (fun e' => ?_) (fun e' => ?_)⟩
    · have h : sgn up dn z = "-" := (if_neg e).trans (if_pos e')
      rw [h] at k
      exact k
    · have h : sgn up dn z = "" := (if_neg e).trans (if_neg e')
      rw [h] at k
      exact k
theorem ok_textD {f C fS : Addr} {fd fdS : FuncData} (F : Fun K "text" "Row.text" s_Row_text f fd) (T : RowC K C) (gStr : mg "str" = none) (mS : Meth K C "_sign" fS) (FS : FnOk P w K mg base CX0 1 fS fdS ["self", "key"] (spSignD K C)) (bS : Binds K fdS ["self", "key"] []) :
    FnOk P w K mg base CX0 2 f fd ["self"] (spTextD K C) := by
  refine F.ok sc_Row_text (fun vs H Q E h => ?_) (fun cdv A outer s H vs Q E hr h => ?_)
  · obtain ⟨r, q, ls, up, dn, rfl, _⟩ := h
    rfl
  · obtain ⟨r, q, ls, up, dn, rfl, ⟨dx, ha⟩, hs, L, k⟩ := h
    have nd := sc_Row_text.nd
    refine ⟨_, pss_one (ps_ret (pe_join pe_str (pe_lc (own := [("key", 1)]) (g := gName 1) (tt := tYes) (te := tOp (fun x y H Q => ∃ i j, x = .str i ∧ y = .str j ∧ i.length + j.length ≤ sizeLine ∧ Q (.str (i ++ j)) H) (tMeth C "_sign" (spSignD K C) [] E0 (tVar 0) (tCons (tVar 1) tNil)) (tCB (fun xs H Q => ∃ i, xs = [.int i] ∧ i.natAbs.log2 < 1920 ∧ Q (.str (toString i)) H) (tCons (tVar 1) tNil))) rfl nd
        (pi_tup (pe_fld (pv 0) rfl)) (blkOk_by (N := N_Row_text) (sc := defScope s_Row_text) (by decide +kernel))
        (fun _ _ _ _ _ => pg_name (i := 1) nd rfl (Or.inl rfl)) (fun _ _ _ _ _ => pts_nil) (fun _ _ _ _ _ => pe_op op_add_str (pe_meth (pv 0) T.cl mS FS hr bS .nil pass0 (pa_cons (pv 1) pa_nil)) (pe_callTy call_str_int (by rfl) gStr (by decide +kernel) (pa_cons (pv 1) pa_nil)))))), ?_⟩
    let tx : Int → Str := fun k => sgn up dn k ++ (toString k : Str)
    refine ⟨⟨_, rfl⟩, _, rfl, r, C, dx, _, _, rfl, ha, T.cl, T.nL, rfl, q, rfl, ⟨_, hs⟩, fun D hD => lc_tup (K := K) (a := q) (xs := ls.map V.int) (fun i H' => Same H H' ∧ H' D = some (.lst (((ls.take i).map tx).map V.str)))
      ⟨Same.new (Same.refl H) hD, upd_same⟩ (fun i H' _ p => sqT_same p.1 hs) (fun i x H' hx p => ?_) (fun H1 p => ?_)⟩
    · obtain ⟨z, rfl, hz⟩ := ints_at hx
      obtain ⟨s1, hd⟩ := p
      have hm := List.mem_of_getElem? hz
      have z0 := L.ks.lo z hm
      have z1 := L.ks.hi z hm
      have few := L.few
      have hil : i < ls.length := (List.getElem?_eq_some_iff.mp hz).1
      have kl := key_len z0 z1
      have gl := sgn_len up dn z
      refine ⟨rfl, _, rfl, r, dx, _, rfl, s1 _ _ ha, rfl, _, rfl, r, q, up, dn, z, rfl, ⟨dx, s1 _ _ ha⟩, ?_⟩
      refine ⟨_, rfl, z, rfl, log_lt (by omega), _, _, rfl, rfl, by rw [sizeLine_eq]; omega, _, hd, ?_, (fun c o e => ?_), ?_⟩
      · rw [List.length_map, List.length_map, List.length_take, sizeLine_eq]; omega
      · rw [upd_ne (ne_of_none e hD)]
        exact s1 c o e
      · rw [upd_same, List.take_add_one, hz, List.map_append, List.map_append]; rfl
    · obtain ⟨s1, hd⟩ := p
      rw [List.length_map, List.take_length] at hd
      have few := L.few
      refine ⟨_, D, ls.map tx, rfl, rfl, .inl (SqL.of hd), ?_, k H1 s1⟩
      have hsum : ∀ l : List Int, (∀ k ∈ l, 0 ≤ k ∧ k ≤ 999) → ((l.map tx).map (·.length)).sum ≤ l.length * 5 := fun l => by
        induction l with
        | nil => intro _; simp
        | cons a r ih =>
          intro h
          have h1 := h a List.mem_cons_self
          have h2 := ih fun y hy => h y (List.mem_cons_of_mem _ hy)
          have h3 := sgn_len up dn a
          have h4 := key_len h1.1 h1.2
          have h5 : (tx a).length = (sgn up dn a).length + (toString a : Str).length := Str.length_append _ _
          rw [List.map_cons, List.map_cons, List.sum_cons, List.length_cons]
          omega
      have := hsum ls fun k hk => ⟨L.ks.lo k hk, L.ks.hi k hk⟩
      show ((ls.map tx).map (·.length)).sum + (ls.map tx).length * 1 ≤ 16777216
      rw [List.length_map]
      omega
theorem ok_repr {f C fT : Addr} {fd fdT : FuncData} (F : Fun K "__repr__" "Row.__repr__" s_Row_repr f fd) (T : RowC K C) (mT : Meth K C "text" fT) (FT : FnOk P w K mg base CX0 2 fT fdT ["self"] (spTextD K C)) (bT : Binds K fdT ["self"] []) :
    FnOk P w K mg base CX0 3 f fd ["self"] (spRepr K C) := by
  refine F.ok sc_Row_repr (fun vs H Q E h => ?_) (fun cdv A outer s H vs Q E hr h => ?_)
  · obtain ⟨r, q, ls, up, dn, rfl, _⟩ := h
    rfl
  · obtain ⟨r, q, ls, up, dn, rfl, ⟨dx, ha⟩, hs, L, k⟩ := h
    refine ⟨_, pss_one (ps_ret (pe_joined (.cons pe_str (.cons (pe_fmt (pe_meth0 (pv 0) T.cl mT FT hr bT .nil pass0)) (.cons pe_str .nil))))), ?_⟩
    have hl := row_len L
    refine ⟨_, rfl, (by decide), _, rfl, r, dx, _, rfl, ha, rfl, r, q, ls, up, dn, rfl, ⟨dx, ha⟩, hs, L, fun H' s' => .inl ⟨_, rfl, (by rw [sizeLine_eq]; omega), _, rfl, ?_, _, rfl, ?_, k H' s'⟩⟩
    · rw [Str.length_append]
      show 4 + _ ≤ sizeLine
      rw [sizeLine_eq]; omega
    · rw [Str.length_append, Str.length_append]
      show 4 + _ + 1 ≤ sizeLine
      rw [sizeLine_eq]; omega
end
end K03

end

section
set_option Elab.async false
set_option linter.all false
set_option maxRecDepth 100000
set_option maxHeartbeats 4000000
namespace K03
open PySem L2 SB
/-- no row -/
def OddV (K : PySem.W.Frag) (C : Addr) (H : Hp) (v : V) : Prop := ∃ t, TyX K H v t ∧ PySem.W.kitOne K t (.ref C) = some false
theorem OddV.sm {K : PySem.W.Frag} {C : Addr} {H H' : Hp} {v : V} (s : Same H H') (h : OddV K C H v) : OddV K C H' v := let ⟨t, a, b⟩ := h; ⟨t, tyX_sm s a, b⟩
abbrev Seen := Option (List Int × Option Int × Option Int)
/-- a value as a row: its lot and its marks; or nothing -/
def RVw (K : PySem.W.Frag) (C : Addr) (H : Hp) (v : V) : Seen → Prop
  | some (ls, up, dn) => (∃ r q, v = .ref r ∧ RowAt C H r q up dn ∧ SqT K H q (ls.map V.int) ∧ Lot ls up dn) ∨ (∃ q, v = .ref q ∧ up = none ∧ dn = none ∧ SqT K H q (ls.map V.int) ∧ Lot ls none none ∧ OddV K C H v)
  | none => OddV K C H v ∧ LV K H v false
theorem RVw.sm {K : PySem.W.Frag} {C : Addr} {H H' : Hp} {v : V} {o : Seen} (s : Same H H') (h : RVw K C H v o) : RVw K C H' v o := by
  match o, h with
  | some (ls, up, dn), .inl ⟨r, q, e, h1, h2, h3⟩ => exact .inl ⟨r, q, e, h1.sm s, sqT_same s h2, h3⟩
  | some (ls, up, dn), .inr ⟨q, e, e1, e2, h2, h3, h4⟩ => exact .inr ⟨q, e, e1, e2, sqT_same s h2, h3, h4.sm s⟩
  | none, ⟨h1, h2⟩ => exact ⟨h1.sm s, h2.sm s⟩
def spAs (K : PySem.W.Frag) (C CI : Addr) : Sp := fun vs H Q E => ∃ v o, vs = [v] ∧ RVw K C H v o ∧ match o with
  | some (ls, up, dn) => ∀ r q H', Same H H' → RowAt C H' r q up dn → SqT K H' q (ls.map V.int) → Lot ls up dn → Q (.ref r) H'
  | none => ∀ d H', Same H H' → H' d = none → E (.ref CI) (some d) (upd H' d (.xd (fs1 "InvalidRow" "at" [.int 0])))
structure RowT (K : PySem.W.Frag) (C : Addr) : Prop where
  c : RowC K C
  ha : PySem.W.findIn K (.ref C) "__class__" = some (some (.builtin "object.__class__"))
  hn : PySem.W.specialIn K (.builtin "object.__class__") "__get__" = some (some (.builtin "getset_descriptor.__get__"))
  htk : PySem.W.takesIn K (.builtin "object.__class__") = some true
  hm : PySem.W.mroIn K C (.type "object") = some true
theorem RowT.ty {K : PySem.W.Frag} {C r q : Addr} {H : Hp} {up dn : Option Int} (T : RowT K C) (h : RowAt C H r q up dn) : TyX K H (.ref r) (.ref C) := let ⟨_, e⟩ := h; .base (.ins e T.c.cl T.ha T.hn T.htk T.hm)
section
variable {P : Program} {w : World} {K : PySem.W.Frag} {mg : Str → Option Value} {base : Heap}
theorem ok_as {f C CI fI fL fR : Addr} {fd fdI fdL fdR : FuncData} {dsR : List Value} (F : Fun K "as_row" "as_row" s_as_row f fd) (T : RowT K C) (gC : mg "Row" = some (.ref C)) (gIsi : mg "isinstance" = none)
    (gL : mg "is_lot" = some (.ref fL)) (FL : FnOk P w K mg base CX0 4 fL fdL ["value"] (spLot K)) (kL : PySem.W.keepIn K (.ref fL) = true) (bL : Binds K fdL ["value"] [])
    (X : XFacts K mg "InvalidRow" CI fI bmVE "ValueError.__new__") (G : FnOk P w K mg base CX0 1 fI fdI ["self", "at"] (spX CI 1 (fs1 "InvalidRow" "at"))) (bI : Binds K fdI ["self", "at"] [])
    (M : Mk K C fR) (FR : FnOk P w K mg base CX0 5 fR fdR ["self", "lot", "coming", "going"] (spRow K C)) (bR : Binds K fdR ["self", "lot", "coming", "going"] dsR) (rR : Vals [V.non, V.non] dsR) :
    FnOk P w K mg base (L2.CX P w) 7 f fd ["value"] (spAs K C CI) := by
  refine F.okX sc_as_row (fun vs H Q E h => ?_) (fun cdv A outer s H vs Q E hr h => ?_)
  · obtain ⟨v, o, rfl, _⟩ := h
    rfl
  · obtain ⟨v, o, rfl, rv, k⟩ := h
    refine ⟨_, pss_cons (ps_if (pt_val (pe_callB call_isi (by rfl) gIsi (by decide +kernel) (pa_cons (pv 0) (pa_cons (pe_glob (v := .ref C) (by rfl) gC rfl) pa_nil)))) (pss_one (ps_ret (pv 0))) pss_nil)
      (pss_cons (ps_if (pt_not (pt_val (pe_call FL (hr.mono (by decide)) (by rfl) gL kL bL .nil pass0 (pa_cons (pv 0) pa_nil))))
        (pss_one (ps_raise rfl (takes_of rfl rfl rfl rfl) (pmk_exg PySem.F.excBase_ValueError X.T X.iC X.tI G (hr.mono (by decide)) bI .nil pass0 (by rfl) X.g (pa_cons pe_int pa_nil)))) pss_nil)
      (pss_one (ps_ret (pe_make M FR hr (by rfl) gC bR rR pass0 (pa_cons (pv 0) pa_nil))))), ?_⟩
    match o, rv, k with
    | some (ls, up, dn), .inl ⟨r, q, e, h1, h2, h3⟩, k =>
      subst e
      refine ⟨_, rfl, _, .ref C, _, _, true, rfl, .own C, T.ty h1, ?_, _, rfl, iteT ⟨_, rfl, k r q H (Same.refl H) h1 h2 h3⟩⟩
      unfold PySem.W.kitOne
      rw [if_pos (beq_self_eq_true _)]
    | some (ls, up, dn), .inr ⟨q, e, e1, e2, h2, h3, t, ht, hk⟩, k =>
      subst e e1 e2
      refine ⟨_, rfl, _, .ref C, _, _, false, rfl, .own C, ht, hk, _, rfl, iteF ?_⟩
      refine ⟨_, rfl, _, true, rfl, lot_lv h3 h2, fun H1 s1 => ⟨_, rfl, iteF ?_⟩⟩
      refine ⟨_, rfl, fun x dx hx hdx ne => ?_⟩
      exact row_new (up := none) (dn := none) hx hdx ne (sqT_same s1 h2) h3 fun H' s' ra => k x q H' (s1.trans s') ra (sqT_same (s1.trans s') h2) h3
    | none, ⟨⟨t, ht, hk⟩, lv⟩, k =>
      refine ⟨_, rfl, _, .ref C, _, _, false, rfl, .own C, ht, hk, _, rfl, iteF ?_⟩
      refine ⟨_, rfl, _, false, rfl, lv, fun H1 s1 => ⟨_, rfl, iteT ?_⟩⟩
      exact rd_raise rfl (by decide) fun d hd => k d H1 s1 hd
end
end K03

end

section
set_option Elab.async false
set_option linter.all false
set_option maxRecDepth 100000
set_option maxHeartbeats 4000000
namespace K03
open PySem L2 SB RZ
theorem alike_cases {K : PySem.W.Frag} {H : Hp} {n : Nat} {x y : V} (h : Alike K H n x y) : Leaf H x y ∨ ∃ m, n = m + 1 ∧
    ((∃ a b xs ys, x = .ref a ∧ y = .ref b ∧ SqL K H a xs ∧ SqL K H b ys ∧ xs.length < sizeLine ∧ Paired (Alike K H m) xs ys) ∨ ∃ a b xs ys, x = .ref a ∧ y = .ref b ∧ SqT K H a xs ∧ SqT K H b ys ∧ xs.length < sizeLine ∧ Paired (Alike K H m) xs ys) := by
  cases n with
  | zero => exact .inl h
  | succ m =>
    rcases h with h | h | h
    · exact .inl h
    · exact .inr ⟨m, rfl, .inl h⟩
    · exact .inr ⟨m, rfl, .inr h⟩
section
variable {P : Program} {w : World} {K : PySem.W.Frag} {mg : Str → Option Value} {base : Heap}
structure TSame (mg : Str → Option Value) : Prop where
  isi : mg "isinstance" = none
  lst : mg "list" = none
  tup : mg "tuple" = none
  len : mg "len" = none
  all : mg "all" = none
  zip : mg "zip" = none
  bool : mg "bool" = none
  int : mg "int" = none
  str : mg "str" = none
theorem ok_same {f : Addr} {fd : FuncData} (F : Fun K "_law_same" "_law_same" s_l_same f fd) (T : TSame mg) (gS : mg "_law_same" = some (.ref f)) (bS : Binds K fd ["_law_found", "_law_due"] []) :
    ∀ n, FnOk P w K mg base CX0 n f fd ["_law_found", "_law_due"] (spSame K n)
  | 0 => ⟨fun _ _ _ _ h => h.elim, fun _ _ _ _ _ _ _ _ _ _ _ _ _ h => h.elim⟩
  | n + 1 => by
    have G := ok_same F T gS bS n
    refine F.ok sc_l_same (fun vs H Q E h => ?_) (fun cdv A outer s H vs Q E hr h => ?_)
    · obtain ⟨x, y, rfl, _⟩ := h
      rfl
    · obtain ⟨x, y, rfl, al, k⟩ := h
      have nd := sc_l_same.nd
      have hu : (A.deeper (PyProof.Rows.envOfC "_law_same" (defScope s_l_same) s.heap.objs.size f cdv)).units + 64 < cLine := hr.units
      refine ⟨_, pss_cons (ps_if (pt_val (pe_callB call_isiT (by rfl) T.isi (by decide +kernel) (pa_cons (pv 1) (pa_cons (pe_tup (pa_cons (pe_bltn (v := .ty "list") (by rfl) T.lst (by decide +kernel) rfl) (pa_cons (pe_bltn (v := .ty "tuple") (by rfl) T.tup (by decide +kernel) rfl) pa_nil))) pa_nil))))
          (pss_cons (ps_if (PW.pt (pw_or (pt_cmpR op_ne (pe_callB call_isi (by rfl) T.isi (by decide +kernel) (pa_cons (pv 0) (pa_cons (pe_bltn (v := .ty "list") (by rfl) T.lst (by decide +kernel) rfl) pa_nil))) (pe_callB call_isi (by rfl) T.isi (by decide +kernel) (pa_cons (pv 1) (pa_cons (pe_bltn (v := .ty "list") (by rfl) T.lst (by decide +kernel) rfl) pa_nil))) (nomark _))
              (pw_or1 (pt_cmpR op_ne (pe_callB call_isi (by rfl) T.isi (by decide +kernel) (pa_cons (pv 0) (pa_cons (pe_bltn (v := .ty "tuple") (by rfl) T.tup (by decide +kernel) rfl) pa_nil))) (pe_callB call_isi (by rfl) T.isi (by decide +kernel) (pa_cons (pv 1) (pa_cons (pe_bltn (v := .ty "tuple") (by rfl) T.tup (by decide +kernel) rfl) pa_nil))) (nomark _)))))
            (pss_one (ps_ret pe_bl)) pss_nil)
          (pss_one (ps_ret (pe_and (pe_cmpR op_eq (pe_callB call_len_seq (by rfl) T.len PySem.boot_len (pa_cons (pv 0) pa_nil)) (pe_callB call_len_seq (by rfl) T.len PySem.boot_len (pa_cons (pv 1) pa_nil)) (nomark _))
            (pe_one (pe_callB (cr_all rfl) (by rfl) T.all (by decide +kernel) (pa_cons (pe_lc (own := [("_law_p", 2), ("_law_q", 3)]) (g := gTup K 2 (gCons (gName 2) (gCons (gName 3) gNil))) (tt := tYes) (te := tCall (spSame K n) [] E0 (tCons (tVar 2) (tCons (tVar 3) tNil))) rfl nd
              (pi_zipA (by rfl) T.zip (pa_cons (pv 0) (pa_cons (pv 1) pa_nil))) (blkOk_by (N := ["_law_found", "_law_due", "_law_p", "_law_q"]) (sc := defScope s_l_same) (by decide +kernel))
              (fun _ _ _ _ _ => pg_tup rfl (pgs_cons (pg_name (i := 2) nd rfl (Or.inl rfl)) (pgs_cons (pg_name (i := 3) nd rfl (Or.inl rfl)) pgs_nil))) (fun _ _ _ _ _ => pts_nil)
              (fun _ _ _ _ _ => pe_call G hr (by rfl) gS F.kp bS .nil pass0 (pa_cons (pv 2) (pa_cons (pv 3) pa_nil)))) pa_nil)))))))
          pss_nil)
        (pss_cons (ps_if (pt_val (pe_callB call_isiT (by rfl) T.isi (by decide +kernel) (pa_cons (pv 0) (pa_cons (pe_tup (pa_cons (pe_bltn (v := .ty "list") (by rfl) T.lst (by decide +kernel) rfl) (pa_cons (pe_bltn (v := .ty "tuple") (by rfl) T.tup (by decide +kernel) rfl) pa_nil))) pa_nil)))) (pss_one (ps_ret pe_bl)) pss_nil)
        (pss_cons (ps_if (PW.pt (pw_or (pt_cmpR op_isN (pv 1) pe_non (nomark _)) (pw_or1 (pt_cmpR op_isN (pv 0) pe_non (nomark _))))) (pss_one (ps_ret (pe_and (pe_cmpR op_isN (pv 1) pe_non (nomark _)) (pe_one (pe_cmpR op_isN (pv 0) pe_non (nomark _)))))) pss_nil)
        (pss_cons (ps_if (PW.pt (pw_or (pt_val (pe_callB call_isi (by rfl) T.isi (by decide +kernel) (pa_cons (pv 1) (pa_cons (pe_bltn (v := .ty "bool") (by rfl) T.bool (by decide +kernel) rfl) pa_nil)))) (pw_or1 (pt_val (pe_callB call_isi (by rfl) T.isi (by decide +kernel) (pa_cons (pv 0) (pa_cons (pe_bltn (v := .ty "bool") (by rfl) T.bool (by decide +kernel) rfl) pa_nil)))))))
            (pss_one (ps_ret (pe_and (pe_callB call_isi (by rfl) T.isi (by decide +kernel) (pa_cons (pv 1) (pa_cons (pe_bltn (v := .ty "bool") (by rfl) T.bool (by decide +kernel) rfl) pa_nil))) (pe_and (pe_callB call_isi (by rfl) T.isi (by decide +kernel) (pa_cons (pv 0) (pa_cons (pe_bltn (v := .ty "bool") (by rfl) T.bool (by decide +kernel) rfl) pa_nil))) (pe_one (pe_cmpR op_eq (pv 0) (pv 1) (nomark _))))))) pss_nil)
        (pss_cons (ps_if (PW.pt (pw_or (pt_val (pe_callB call_isi (by rfl) T.isi (by decide +kernel) (pa_cons (pv 1) (pa_cons (pe_bltn (v := .ty "int") (by rfl) T.int (by decide +kernel) rfl) pa_nil)))) (pw_or1 (pt_val (pe_callB call_isi (by rfl) T.isi (by decide +kernel) (pa_cons (pv 0) (pa_cons (pe_bltn (v := .ty "int") (by rfl) T.int (by decide +kernel) rfl) pa_nil)))))))
            (pss_one (ps_ret (pe_and (pe_callB call_isi (by rfl) T.isi (by decide +kernel) (pa_cons (pv 1) (pa_cons (pe_bltn (v := .ty "int") (by rfl) T.int (by decide +kernel) rfl) pa_nil))) (pe_and (pe_callB call_isi (by rfl) T.isi (by decide +kernel) (pa_cons (pv 0) (pa_cons (pe_bltn (v := .ty "int") (by rfl) T.int (by decide +kernel) rfl) pa_nil))) (pe_one (pe_cmpR op_eq (pv 0) (pv 1) (nomark _))))))) pss_nil)
        (pss_cons (ps_if (PW.pt (pw_or (pt_val (pe_callB call_isi (by rfl) T.isi (by decide +kernel) (pa_cons (pv 1) (pa_cons (pe_bltn (v := .ty "str") (by rfl) T.str (by decide +kernel) rfl) pa_nil)))) (pw_or1 (pt_val (pe_callB call_isi (by rfl) T.isi (by decide +kernel) (pa_cons (pv 0) (pa_cons (pe_bltn (v := .ty "str") (by rfl) T.str (by decide +kernel) rfl) pa_nil)))))))
            (pss_one (ps_ret (pe_and (pe_callB call_isi (by rfl) T.isi (by decide +kernel) (pa_cons (pv 1) (pa_cons (pe_bltn (v := .ty "str") (by rfl) T.str (by decide +kernel) rfl) pa_nil))) (pe_and (pe_callB call_isi (by rfl) T.isi (by decide +kernel) (pa_cons (pv 0) (pa_cons (pe_bltn (v := .ty "str") (by rfl) T.str (by decide +kernel) rfl) pa_nil))) (pe_one (pe_cmpR op_eq (pv 0) (pv 1) (nomark _))))))) pss_nil)
        (pss_one (ps_ret (pe_cmpR (op_eqV hu) (pv 0) (pv 1) (nomark _))))))))), ?_⟩
      have same0 : Same H H := Same.refl H
      have atoms : ∀ {U : String}, x = y → TyX K H x (.type U) → kitB U "list" = some false → kitB U "tuple" = some false → True := fun _ _ _ _ => trivial
      rcases alike_cases al with (⟨rfl, fl⟩ | ⟨a, kvs, rfl, rfl, ha, hk⟩) | ⟨m, rfl, ⟨a, b, xs, ys, rfl, rfl, h1, h2, hz, hp⟩ | ⟨a, b, xs, ys, rfl, rfl, h1, h2, hz, hp⟩⟩
      · cases x with
        | non =>
          have ty : ∀ H', TyX K H' V.non (.type "NoneType") := fun H' => .base .non
          refine rd_isLT (i := 1) rfl (ty _) (lt_of (b := false) (c := false) (by decide +kernel) (by decide +kernel)) fun H1 s1 => ⟨_, rfl, iteF ?_⟩
          refine rd_isLT (i := 0) rfl (ty _) (lt_of (b := false) (c := false) (by decide +kernel) (by decide +kernel)) fun H2 s2 => ⟨_, rfl, iteF ?_⟩
          refine ⟨_, rfl, rfl, _, rfl, iteT (iteT ?_)⟩
          exact ⟨_, rfl, rfl, _, rfl, iteT ⟨_, rfl, rfl, k _ (s1.trans s2)⟩⟩
        | bl q =>
          have ty : ∀ H', TyX K H' (V.bl q) (.type "bool") := fun H' => .base (.bl q)
          refine rd_isLT (i := 1) rfl (ty _) (lt_of (b := false) (c := false) (by decide +kernel) (by decide +kernel)) fun H1 s1 => ⟨_, rfl, iteF ?_⟩
          refine rd_isLT (i := 0) rfl (ty _) (lt_of (b := false) (c := false) (by decide +kernel) (by decide +kernel)) fun H2 s2 => ⟨_, rfl, iteF ?_⟩
          refine ⟨_, rfl, rfl, _, rfl, iteF ⟨_, rfl, rfl, _, rfl, iteF ?_⟩⟩
          refine rd_is (i := 1) rfl (ty _) (by decide +kernel) ⟨_, rfl, iteT (iteT ?_)⟩
          refine rd_is (i := 1) rfl (ty _) (by decide +kernel) ⟨_, rfl, iteT (rd_is (i := 0) rfl (ty _) (by decide +kernel) ⟨_, rfl, iteT ?_⟩)⟩
          refine ⟨_, rfl, _, rfl, by cases q <;> rfl, ?_⟩
          rw [decide_eq_true rfl]
          exact k _ (s1.trans s2)
        | int q =>
          have ty : ∀ H', TyX K H' (V.int q) (.type "int") := fun H' => .base (.int q)
          refine rd_isLT (i := 1) rfl (ty _) (lt_of (b := false) (c := false) (by decide +kernel) (by decide +kernel)) fun H1 s1 => ⟨_, rfl, iteF ?_⟩
          refine rd_isLT (i := 0) rfl (ty _) (lt_of (b := false) (c := false) (by decide +kernel) (by decide +kernel)) fun H2 s2 => ⟨_, rfl, iteF ?_⟩
          refine ⟨_, rfl, rfl, _, rfl, iteF ⟨_, rfl, rfl, _, rfl, iteF ?_⟩⟩
          refine rd_is (i := 1) rfl (ty _) (by decide +kernel) ⟨_, rfl, iteF (rd_is (i := 0) rfl (ty _) (by decide +kernel) ⟨_, rfl, iteF ?_⟩)⟩
          refine rd_is (i := 1) rfl (ty _) (by decide +kernel) ⟨_, rfl, iteT (iteT ?_)⟩
          refine rd_is (i := 1) rfl (ty _) (by decide +kernel) ⟨_, rfl, iteT (rd_is (i := 0) rfl (ty _) (by decide +kernel) ⟨_, rfl, iteT ?_⟩)⟩
          refine ⟨_, rfl, _, rfl, rfl, ?_⟩
          rw [decide_eq_true rfl]
          exact k _ (s1.trans s2)
        | str q =>
          have ty : ∀ H', TyX K H' (V.str q) (.type "str") := fun H' => .base (.str q)
          refine rd_isLT (i := 1) rfl (ty _) (lt_of (b := false) (c := false) (by decide +kernel) (by decide +kernel)) fun H1 s1 => ⟨_, rfl, iteF ?_⟩
          refine rd_isLT (i := 0) rfl (ty _) (lt_of (b := false) (c := false) (by decide +kernel) (by decide +kernel)) fun H2 s2 => ⟨_, rfl, iteF ?_⟩
          refine ⟨_, rfl, rfl, _, rfl, iteF ⟨_, rfl, rfl, _, rfl, iteF ?_⟩⟩
          refine rd_is (i := 1) rfl (ty _) (by decide +kernel) ⟨_, rfl, iteF (rd_is (i := 0) rfl (ty _) (by decide +kernel) ⟨_, rfl, iteF ?_⟩)⟩
          refine rd_is (i := 1) rfl (ty _) (by decide +kernel) ⟨_, rfl, iteF (rd_is (i := 0) rfl (ty _) (by decide +kernel) ⟨_, rfl, iteF ?_⟩)⟩
          refine rd_is (i := 1) rfl (ty _) (by decide +kernel) ⟨_, rfl, iteT (iteT ?_)⟩
          refine rd_is (i := 1) rfl (ty _) (by decide +kernel) ⟨_, rfl, iteT (rd_is (i := 0) rfl (ty _) (by decide +kernel) ⟨_, rfl, iteT ?_⟩)⟩
          refine ⟨_, rfl, _, rfl, rfl, ?_⟩
          rw [decide_eq_true rfl]
          exact k _ (s1.trans s2)
        | byt q => cases fl
        | flt q => cases fl
        | ref q => cases fl
        | ty q => cases fl
      · have ty : ∀ H', Same H H' → TyX K H' (V.ref a) (.type "dict") := fun H' ss => .base (.dK (ss _ _ ha))
        refine rd_isLT (i := 1) rfl (ty _ same0) (lt_of (b := false) (c := false) (by decide +kernel) (by decide +kernel)) fun H1 s1 => ⟨_, rfl, iteF ?_⟩
        refine rd_isLT (i := 0) rfl (ty _ s1) (lt_of (b := false) (c := false) (by decide +kernel) (by decide +kernel)) fun H2 s2 => ⟨_, rfl, iteF ?_⟩
        have t2 := ty _ (s1.trans s2)
        refine ⟨_, rfl, rfl, _, rfl, iteF ⟨_, rfl, rfl, _, rfl, iteF ?_⟩⟩
        refine rd_is (i := 1) rfl t2 (by decide +kernel) ⟨_, rfl, iteF (rd_is (i := 0) rfl t2 (by decide +kernel) ⟨_, rfl, iteF ?_⟩)⟩
        refine rd_is (i := 1) rfl t2 (by decide +kernel) ⟨_, rfl, iteF (rd_is (i := 0) rfl t2 (by decide +kernel) ⟨_, rfl, iteF ?_⟩)⟩
        refine rd_is (i := 1) rfl t2 (by decide +kernel) ⟨_, rfl, iteF (rd_is (i := 0) rfl t2 (by decide +kernel) ⟨_, rfl, iteF ?_⟩)⟩
        have ha2 := (s1.trans s2) _ _ ha
        exact ⟨_, rfl, _, rfl, 1, by decide, .inr ⟨a, a, kvs, kvs, rfl, rfl, ha2, ha2, rfl, fun p hp => ⟨_, (hk p hp).1, .inl ⟨rfl, (hk p hp).2⟩⟩⟩, k _ (s1.trans s2)⟩
      · refine rd_isLT (i := 1) rfl (ty_list h2) (lt_of (b := true) (c := false) (by decide +kernel) (by decide +kernel)) fun H1 s1 => ⟨_, rfl, iteT ?_⟩
        have g1 := (s1.seq h1)
        have g2 := (s1.seq h2)
        refine rd_is (b := true) (i := 0) rfl (ty_list g1) (by decide +kernel) (rd_is (b := true) (i := 1) rfl (ty_list g2) (by decide +kernel) ⟨rfl, _, rfl, iteNS rfl ?_⟩)
        refine rd_is (b := false) (i := 0) rfl (ty_list g1) (by decide +kernel) (rd_is (b := false) (i := 1) rfl (ty_list g2) (by decide +kernel) ⟨rfl, _, rfl, iteNS rfl ?_⟩)
        have el := paired_len hp
        refine ⟨_, rfl, a, xs, rfl, .inl g1, _, rfl, b, ys, rfl, .inl g2, rfl, true, congrArg V.bl (decide_eq_true (by rw [el])), iteT ?_⟩
        refine ⟨_, rfl, _, rfl, a, b, xs, ys, rfl, .inl ⟨g1, g2, fun D hD => ?_⟩⟩
        refine lc_walk (n := xs.length) (fun i H' => Same H1 H' ∧ H' D = some (.lst ((List.replicate i true).map V.bl))) ⟨Same.new (Same.refl H1) hD, upd_same⟩ (fun i H' hi p => ?_) (fun H' p => ?_) (fun i v H' H'' hi p yl => ?_) (fun H' p => ?_)
        · exact ⟨xs, ys, xs[i], ys[i]'(by omega), (p.1.seq g1), (p.1.seq g2), List.getElem?_eq_getElem hi, List.getElem?_eq_getElem (by omega)⟩
        · exact ⟨xs, ys, (p.1.seq g1), (p.1.seq g2), .inl (Nat.le_refl _)⟩
        · obtain ⟨T', u, v', rfl, hT, rfl, q1, q2⟩ := yl
          have e1 := q1 xs (p.1.seq g1)
          have e2 := q2 ys (p.1.seq g2)
          have s3 : Same H' (upd H' T' (.tup [u, v'])) := Same.new (Same.refl H') hT
          refine ⟨T', [u, v'], rfl, SqT.of upd_same, rfl, u, [v'], rfl, v', [], rfl, rfl, rfl, ?_⟩
          refine ⟨_, rfl, _, rfl, u, v', rfl, (paired_at hp e1 e2).same ((s1.trans p.1).trans s3), fun H4 s4 => ?_⟩
          refine ⟨_, s4 _ _ (s3 _ _ p.2), by rw [List.length_map, List.length_replicate]; omega, (fun c o e => ?_), ?_⟩
          · have e' := s4 _ _ (s3 _ _ (p.1 _ _ e))
            rw [upd_ne (ne_of_none e hD)]
            exact e'
          · rw [upd_same, List.replicate_succ', List.map_append]
            rfl
        · refine ⟨D, List.replicate xs.length true, rfl, SqL.of p.2, ?_⟩
          have e : (List.replicate xs.length true).all id = true := by simp
          rw [e]
          exact k _ (s1.trans p.1)
      · refine rd_isLT (i := 1) rfl (ty_tup h2) (lt_of (b := false) (c := true) (by decide +kernel) (by decide +kernel)) fun H1 s1 => ⟨_, rfl, iteT ?_⟩
        have g1 := (sqT_same s1 h1)
        have g2 := (sqT_same s1 h2)
        refine rd_is (b := false) (i := 0) rfl (ty_tup g1) (by decide +kernel) (rd_is (b := false) (i := 1) rfl (ty_tup g2) (by decide +kernel) ⟨rfl, _, rfl, iteNS rfl ?_⟩)
        refine rd_is (b := true) (i := 0) rfl (ty_tup g1) (by decide +kernel) (rd_is (b := true) (i := 1) rfl (ty_tup g2) (by decide +kernel) ⟨rfl, _, rfl, iteNS rfl ?_⟩)
        have el := paired_len hp
        refine ⟨_, rfl, a, xs, rfl, .inr g1, _, rfl, b, ys, rfl, .inr g2, rfl, true, congrArg V.bl (decide_eq_true (by rw [el])), iteT ?_⟩
        refine ⟨_, rfl, _, rfl, a, b, xs, ys, rfl, .inr ⟨g1, g2, fun D hD => ?_⟩⟩
        refine lc_walk (n := xs.length) (fun i H' => Same H1 H' ∧ H' D = some (.lst ((List.replicate i true).map V.bl))) ⟨Same.new (Same.refl H1) hD, upd_same⟩ (fun i H' hi p => ?_) (fun H' p => ?_) (fun i v H' H'' hi p yl => ?_) (fun H' p => ?_)
        · exact ⟨xs, ys, xs[i], ys[i]'(by omega), (sqT_same p.1 g1), (sqT_same p.1 g2), List.getElem?_eq_getElem hi, List.getElem?_eq_getElem (by omega)⟩
        · exact ⟨xs, ys, (sqT_same p.1 g1), (sqT_same p.1 g2), .inl (Nat.le_refl _)⟩
        · obtain ⟨T', u, v', rfl, hT, rfl, q1, q2⟩ := yl
          have e1 := q1 xs (sqT_same p.1 g1)
          have e2 := q2 ys (sqT_same p.1 g2)
          have s3 : Same H' (upd H' T' (.tup [u, v'])) := Same.new (Same.refl H') hT
          refine ⟨T', [u, v'], rfl, SqT.of upd_same, rfl, u, [v'], rfl, v', [], rfl, rfl, rfl, ?_⟩
          refine ⟨_, rfl, _, rfl, u, v', rfl, (paired_at hp e1 e2).same ((s1.trans p.1).trans s3), fun H4 s4 => ?_⟩
          refine ⟨_, s4 _ _ (s3 _ _ p.2), by rw [List.length_map, List.length_replicate]; omega, (fun c o e => ?_), ?_⟩
          · have e' := s4 _ _ (s3 _ _ (p.1 _ _ e))
            rw [upd_ne (ne_of_none e hD)]
            exact e'
          · rw [upd_same, List.replicate_succ', List.map_append]
            rfl
        · refine ⟨D, List.replicate xs.length true, rfl, SqL.of p.2, ?_⟩
          have e : (List.replicate xs.length true).all id = true := by simp
          rw [e]
          exact k _ (s1.trans p.1)
end
end K03

end

section
set_option Elab.async false
set_option linter.all false
set_option maxRecDepth 100000
set_option maxHeartbeats 4000000
namespace K03
open PySem L2 SB
/-- a value that may be no key: a number or not; the same as itself, whatever is drawn later -/
theorem canAll_ints : ∀ zs : List Int, PyData.canLayAll0 (zs.map PyData.int) = true
  | [] => by simp [PyData.canLayAll0]
  | z :: zs => by
    rw [List.map_cons]
    simp [PyData.canLayAll0, PyData.canLay0, canAll_ints zs]
theorem depthAll_ints : ∀ zs : List Int, PyData.depthAll (zs.map PyData.int) = 0
  | [] => by simp [PyData.depthAll]
  | z :: zs => by
    rw [List.map_cons]
    simp [PyData.depthAll, PyData.depth, depthAll_ints zs]
theorem shaped_tup (zs : List Int) : SeqAt.shaped (.tuple (zs.map PyData.int)) = true := by
  unfold SeqAt.shaped
  simp [PyData.canLay0, PyData.depth, canAll_ints, depthAll_ints]
/-- a row without marks, whatever is drawn later -/
def Ov (b : Addr) (K : PySem.W.Frag) (H : Hp) (v : V) : Prop := ∃ o, ∀ H', Keep b H H' → NV K H' v o ∧ Alike K H' 2 v v
section
variable {b l p : Addr} {K : PySem.W.Frag} {H H' : Hp} {v : V}
theorem ok_ {b : Addr} {K : PySem.W.Frag} : KeepP b (Ov b K) := fun ⟨o, h⟩ k => ⟨o, fun H2 k2 => h H2 (k.trans k2)⟩
theorem al_flat {n : Nat} (h : flatV v = true) : Alike K H n v v := by
  cases n with
  | zero => exact .inl ⟨rfl, h⟩
  | succ n => exact .inl (.inl ⟨rfl, h⟩)
theorem ov_non : Ov b K H .non := ⟨none, fun _ _ => ⟨.no _ false false (.base .non) (kit_ty (by decide +kernel)) (kit_ty (by decide +kernel)) rfl, al_flat rfl⟩⟩
theorem ov_bl (x : Bool) : Ov b K H (.bl x) := ⟨none, fun _ _ => ⟨.no _ true true (.base (.bl x)) (kit_ty (by decide +kernel)) (kit_ty (by decide +kernel)) rfl, al_flat rfl⟩⟩
theorem ov_int (x : Int) : Ov b K H (.int x) := ⟨some x, fun _ _ => ⟨.int x, al_flat rfl⟩⟩
theorem ov_str (x : Str) : Ov b K H (.str x) := ⟨none, fun _ _ => ⟨.no _ false false (.base (.str x)) (kit_ty (by decide +kernel)) (kit_ty (by decide +kernel)) rfl, al_flat rfl⟩⟩
theorem al_self {n : Nat} : ∀ {xs : List V}, (∀ x ∈ xs, Alike K H n x x) → Paired (Alike K H n) xs xs
  | [], _ => .nil
  | x :: xs, h => .cons (h x List.mem_cons_self) (al_self fun y hy => h y (List.mem_cons_of_mem _ hy))
theorem al_tup {n : Nat} {xs : List V} (h : SqT K H p xs) (hz : xs.length ≤ 2000) (hx : ∀ x ∈ xs, Alike K H n x x) : Alike K H (n + 1) (.ref p) (.ref p) :=
  .inr (.inr ⟨p, p, xs, xs, rfl, rfl, h, h, by rw [sizeLine_eq]; omega, al_self hx⟩)
theorem al_lst {n : Nat} {xs : List V} (h : SqL K H p xs) (hz : xs.length ≤ 2000) (hx : ∀ x ∈ xs, Alike K H n x x) : Alike K H (n + 1) (.ref p) (.ref p) :=
  .inr (.inl ⟨p, p, xs, xs, rfl, rfl, h, h, by rw [sizeLine_eq]; omega, al_self hx⟩)
theorem flat_mem {ks : List Int} {x : V} (h : x ∈ ks.map V.int) : flatV x = true := by
  obtain ⟨k, rfl, _⟩ := mem_ints h
  rfl
theorem ov_tup {ks : List Int} (h : Tp b K H p (ks.map V.int)) (hz : ks.length ≤ 2000) : Ov b K H (.ref p) :=
  ⟨none, fun H' k => ⟨.no _ false false (ty_tup (h.keep k).1) (kit_ty (by decide +kernel)) (kit_ty (by decide +kernel)) rfl, al_tup (h.keep k).1 (by rw [List.length_map]; exact hz) fun x hx => al_flat (flat_mem hx)⟩⟩
theorem ov_lst {ks : List Int} (h : H p = some (.lst (ks.map V.int))) (hb : p ≠ b) (hz : ks.length ≤ 2000) : Ov b K H (.ref p) :=
  ⟨none, fun H' k => ⟨.no _ false false (.base (.lst (k _ _ h hb))) (kit_ty (by decide +kernel)) (kit_ty (by decide +kernel)) rfl, al_lst (SqL.of (k _ _ h hb)) (by rw [List.length_map]; exact hz) fun x hx => al_flat (flat_mem hx)⟩⟩
/-- a list with a tuple of whole numbers in it -/
theorem ov_lstT {q : Addr} {ks : List Int} (h : H p = some (.lst [.ref q])) (hb : p ≠ b) (T : Tp b K H q (ks.map V.int)) (hz : ks.length ≤ 2000) : Ov b K H (.ref p) :=
  ⟨none, fun H' k => ⟨.no _ false false (.base (.lst (k _ _ h hb))) (kit_ty (by decide +kernel)) (kit_ty (by decide +kernel)) rfl, al_lst (SqL.of (k _ _ h hb)) (by show 1 ≤ 2000; decide) fun x hx => by
    have : x = .ref q := by simpa using hx
    rw [this]
    exact al_tup (T.keep k).1 (by rw [List.length_map]; exact hz) fun y hy => al_flat (flat_mem hy)⟩⟩
theorem ov_dct {kvs : List (Key × V)} (h : H p = some (.dK kvs)) (hb : p ≠ b) (hf : ∀ q ∈ kvs, valV kvs q.1 = some q.2 ∧ flatB q.2 = true) : Ov b K H (.ref p) :=
  ⟨none, fun H' k => ⟨.no _ false false (.base (.dK (k _ _ h hb))) (kit_ty (by decide +kernel)) (kit_ty (by decide +kernel)) rfl, .inl (.inr ⟨p, kvs, rfl, rfl, k _ _ h hb, hf⟩)⟩⟩
end
def spOdd (K : PySem.W.Frag) : Sp := fun vs H Q _ => ∃ (b l p m : Addr) (ks : List Int) (ms : List V), vs = [.ref b, .ref p, .ref m] ∧ BagL H b l ∧ Tp b K H p (ks.map V.int) ∧ (∀ k ∈ ks, 0 ≤ k ∧ k ≤ 999) ∧ ks.length ≤ 60 ∧ H m = some (.lst ms) ∧ m ≠ b ∧ ms.length ≤ 10 ∧ (∀ v ∈ ms, Ov b K H v) ∧
  ∀ v H', Ov b K H' v → BagL H' b l → Keep b H H' → Q v H'
section
variable {P : Program} {w : World} {K : PySem.W.Frag} {mg : Str → Option Value} {base : Heap}
theorem ok_odd {f fO fS : Addr} {fd fdO fdS : FuncData} (F : Fun K "_law_odd" "_law_odd" s_l_odd f fd) (gStr : mg "str" = none)
    (gO : mg "_law_of" = some (.ref fO)) (FO : FnOk P w K mg base CX0 2 fO fdO ["_law_bag_here", "_law_some"] (spOfL K)) (kO : PySem.W.keepIn K (.ref fO) = true) (bO : Binds K fdO ["_law_bag_here", "_law_some"] [])
    (gS : mg "_law_stranger" = some (.ref fS)) (FS : FnOk P w K mg base CX0 3 fS fdS ["_law_bag_here", "_law_ks"] (spStr K)) (kS : PySem.W.keepIn K (.ref fS) = true) (bS : Binds K fdS ["_law_bag_here", "_law_ks"] []) :
    FnOk P w K mg base CX0 4 f fd ["_law_bag_here", "_law_ks", "_law_more"] (spOdd K) := by
  refine F.ok sc_l_odd (fun vs H Q E h => ?_) (fun cdv A outer s H vs Q E hr h => ?_)
  · obtain ⟨b, l, p, m, ks, ms, rfl, _⟩ := h
    rfl
  · obtain ⟨b, l, p, m, ks, ms, rfl, B, T, hs, hl, hm, nmb, hml, hmo, k⟩ := h
    have hr2 : Room 2 _ := hr.mono (by decide)
    have nd := sc_l_odd.nd
    have hu : (A.deeper (PyProof.Rows.envOfC "_law_odd" (defScope s_l_odd) s.heap.objs.size f cdv)).units + 64 < cLine := hr.units
    refine ⟨_, (pss_cut (ps_set (i := 3) nd rfl (Or.inl rfl) (pe_call FS hr (by rfl) gS kS bS .nil pass0 (pa_cons (pv 0) (pa_cons (pv 1) pa_nil)))) (pss_cut (ps_set (i := 4) nd rfl (Or.inl rfl) (pe_lst (pa_cons pe_non (pa_cons pe_bl (pa_cons pe_bl (pa_cons (pe_un un_neg pe_int) (pa_cons pe_int (pa_cons (pe_op op_pow pe_int pe_int) (pa_cons pe_str (pa_cons pe_str (pa_cons (pe_callTy call_str_int (by rfl) gStr (by decide +kernel) (pa_cons (pv 3) pa_nil)) (pa_cons (pv 3) (pa_cons (pv 3) (pa_cons (pe_tup (pa_cons (pv 3) pa_nil)) (pa_cons (pe_lst (pa_cons (pv 3) pa_nil)) (pa_cons (pe_tup pa_nil) (pa_cons pe_dnewK (pa_cons (pe_disp (pps_cons (pv 3) pe_int pps_nil) (by rfl) (by rfl) (fun z => by cases z) (by decide)) pa_nil)))))))))))))))))) (pss_cut (ps_if (pt_cmpR (op_neD hu) (pv 1) (pe_tup pa_nil) (nomark _)) (pss_cons (ps_set (i := 5) nd rfl (Or.inl rfl) (pe_call FO hr2 (by rfl) gO kO bO .nil pass0 (pa_cons (pv 0) (pa_cons (pv 1) pa_nil)))) (pss_one (ps_set (i := 4) nd rfl (Or.inl rfl) (pe_op op_cat (pv 4) (pe_lst (pa_cons (pe_callTy call_str_int (by rfl) gStr (by decide +kernel) (pa_cons (pv 5) pa_nil)) (pa_cons (pe_tup (pa_cons (pv 5) pa_nil)) (pa_cons (pe_lst (pa_cons (pv 5) pa_nil)) (pa_cons (pe_op op_sub (pe_un un_neg pe_int) (pv 5)) (pa_cons (pe_op op_add (pv 5) pe_int) (pa_cons (pe_lst (pa_cons (pv 1) pa_nil)) (pa_cons (pv 1) pa_nil)))))))))))) pss_nil) (pss_one (ps_ret (pe_call FO hr2 (by rfl) gO kO bO .nil pass0 (pa_cons (pv 0) (pa_cons (pe_op op_cat (pv 4) (pv 2)) pa_nil)))))))), ?_⟩
    have lg : ∀ {c : Int}, 0 ≤ c → c ≤ 999 → c.natAbs.log2 < 1920 := fun h0 h1 => log_lt (by omega)
    refine ⟨fun σ H' => ∃ z : Int, σ = [some (.ref b), some (.ref p), some (.ref m), some (.int z), none, none] ∧ 0 ≤ z ∧ z ≤ 999 ∧ BagL H' b l ∧ Keep b H H', ?_, ?_⟩
    · exact ⟨_, rfl, _, rfl, b, l, p, ks, rfl, B, T.2, T.1, by omega, hs, fun z H1 z0 z1 B1 k1 => ⟨z, rfl, z0, z1, B1, k1⟩⟩
    rintro σ H1 ⟨z, rfl, z0, z1, B1, K1⟩
    refine ⟨fun σ H' => ∃ q vs, σ = [some (.ref b), some (.ref p), some (.ref m), some (.int z), some (.ref q), none] ∧ H' q = some (.lst vs) ∧ vs.length = 16 ∧ GotP b l (Ov b K) H H' vs, ?_, ?_⟩
    · refine ⟨_, rfl, _, _, rfl, rfl, ⟨by decide, by decide, by decide⟩, _, rfl, z, rfl, lg z0 z1, _, rfl, _, rfl, _, rfl, (by show 1 ≤ sizeLine; decide), fun a1 h1 => ⟨_, rfl, (by show 1 ≤ sizeLine; decide), fun a2 h2 => ⟨(by decide), fun a3 h3 => fun a4 h4 => fun a5 h5 => ⟨_, rfl, upd_same, [(.inl z, .int 1)], rfl, (by show 1 ≤ 15; decide), ?_⟩⟩⟩⟩
      rw [upd_upd]
      refine ⟨(by show 16 ≤ sizeLine; decide), fun q hq => ?_⟩
      have g0 : GotP b l (Ov b K) H H1 _ := (((((((((((⟨B1, K1, fun v h => by cases h⟩ : GotP b l (Ov b K) H H1 []).val ov_non).val (ov_bl true)).val (ov_bl false)).val (ov_int (-1))).val (ov_int 1000)).val (ov_int (10 ^ (39 : Int).toNat))).val (ov_str "")).val (ov_str "1")).val (ov_str (toString z))).val (ov_int z)).val (ov_int z)
      have g1 := g0.new ok_ h1 (o := .tup [.int z]) fun nb => ov_tup (ks := [z]) ⟨SqT.of upd_same, nb⟩ (by show 1 ≤ 2000; decide)
      have g2 := g1.new ok_ h2 (o := .lst [.int z]) fun nb => ov_lst (ks := [z]) upd_same nb (by show 1 ≤ 2000; decide)
      have g3 := g2.new ok_ h3 (o := .tup []) fun nb => ov_tup (ks := []) ⟨SqT.of upd_same, nb⟩ (by decide)
      have g4 := g3.new ok_ h4 (o := .dK []) fun nb => ov_dct upd_same nb fun q h => by cases h
      have g5 := g4.new ok_ h5 (o := .dK (mergeK [] [(.inl z, .int 1)])) fun nb => ov_dct upd_same nb fun q h => by
        have : q = (.inl z, .int 1) := by simpa [mergeK, putK] using h
        rw [this]
        exact ⟨by simp [mergeK, putK, valV], rfl⟩
      exact ⟨q, _, rfl, upd_same, rfl, g5.skip ok_ hq _⟩
    rintro σ H2 ⟨q2, vs2, rfl, hq2, hv2, G2⟩
    have T2 := T.keep G2.k
    refine ⟨fun σ H' => ∃ q vs x5, σ = [some (.ref b), some (.ref p), some (.ref m), some (.int z), some (.ref q), x5] ∧ H' q = some (.lst vs) ∧ 16 ≤ vs.length ∧ vs.length ≤ 23 ∧ GotP b l (Ov b K) H H' vs, ?_, ?_⟩
    · refine ⟨_, rfl, (by decide), fun De hDe => ?_⟩
      have G2' := G2.skip ok_ hDe (.tup [])
      have qn : q2 ≠ De := ne_of_none hq2 hDe
      have hq2' : upd H2 De (.tup []) q2 = some (.lst vs2) := by rw [upd_ne qn]; exact hq2
      have T2' := T.keep G2'.k
      have sme : SqT K (upd H2 De (.tup [])) De [] := SqT.of upd_same
      refine ⟨.tuple (ks.map .int), .tuple [], .tup T2'.1 (dpAll_ints ks), .tup sme .nil, shaped_tup ks, shaped_tup [], _, rfl, ite2 (fun h => ?_) (fun h => ⟨q2, vs2, _, rfl, hq2', by omega, by omega, G2'⟩)⟩
      generalize upd H2 De (.tup []) = G at G2' hq2' T2'
      have h0 : 0 < ks.length := by
        cases ks with
        | nil => cases h
        | cons a r => exact Nat.zero_lt_succ _
      refine ⟨_, rfl, _, rfl, of_seqL (E := E0) G2'.B T.2 (.inr T2'.1) (by rw [List.length_map]; exact h0) (by rw [List.length_map]; omega) fun y G3 hy B3 k3 _ => ?_⟩
      obtain ⟨c, rfl, hc⟩ := mem_ints hy
      obtain ⟨c0, c1⟩ := hs c hc
      have G3' := G2'.go ok_ B3 k3
      have qb : q2 ≠ b := fun e => by
        obtain ⟨ns, i, g, m, c, hb, _⟩ := G2'.B
        rw [e, hb] at hq2'
        cases hq2'
        simp at hv2
      refine ⟨_, rfl, _, rfl, c, rfl, lg c0 c1, _, rfl, (by show 1 ≤ sizeLine; decide), fun a1 h1 => ⟨_, rfl, (by show 1 ≤ sizeLine; decide), fun a2 h2 => ⟨_, rfl, _, rfl, _, _, rfl, rfl, _, rfl, _, _, rfl, rfl, _, rfl, (by show 1 ≤ sizeLine; decide), fun a3 h3 => ⟨_, rfl, (by show 7 ≤ sizeLine; decide), fun m2 hm2 => ?_⟩⟩⟩⟩
      have N0 : GotP b l (Ov b K) G3 G3 [.str (toString c)] := (GotP.start B3).val (ov_str _)
      have g1 := N0.new ok_ h1 (o := .tup [.int c]) fun nb => ov_tup (ks := [c]) ⟨SqT.of upd_same, nb⟩ (by show 1 ≤ 2000; decide)
      have g2 := g1.new ok_ h2 (o := .lst [.int c]) fun nb => ov_lst (ks := [c]) upd_same nb (by show 1 ≤ 2000; decide)
      have g2' := (g2.val (ov_int (-1 - c))).val (ov_int (c + 1000))
      have T3 := T.keep (G3'.k.trans g2.k)
      have g3 := g2'.new ok_ h3 (o := .lst [.ref p]) fun nb => ov_lstT upd_same nb (T3.keep (Keep.new (Keep.refl b _) h3)) (by omega)
      have g4 := g3.val (ov_tup (T.keep (G3'.k.trans g3.k)) (by omega))
      have gA := g4.skip ok_ hm2 (.lst [.str (toString c), .ref a1, .ref a2, .int (-1 - c), .int (c + 1000), .ref a3, .ref p])
      refine ⟨q2, m2, _, _, rfl, rfl, gA.k _ _ (k3 _ _ hq2' qb) qb, upd_same, (by rw [hv2]; show 16 + 7 ≤ sizeLine; decide), fun q3 hq3 => ?_⟩
      exact ⟨q3, _, _, rfl, upd_same, (by rw [List.length_append, hv2]; show 16 ≤ 16 + 7; decide), (by rw [List.length_append, hv2]; show 16 + 7 ≤ 23; decide), G3'.app ok_ (gA.skip ok_ hq3 _)⟩
    rintro σ H3 ⟨q3, vs3, x5, rfl, hq3, hv3, hv3', G3⟩
    refine ⟨_, rfl, _, rfl, _, rfl, q3, m, vs3, ms, rfl, rfl, hq3, G3.k _ _ hm nmb, (by rw [sizeLine_eq]; omega), fun q4 hq4 => ?_⟩
    have G4 := G3.skip ok_ hq4 (.lst (vs3 ++ ms))
    refine of_seqL (E := E0) G4.B (G3.B.ne hq4) (.inl (SqL.of upd_same)) (by rw [List.length_append]; omega) (by rw [List.length_append]; omega) fun y H5 hy B5 k5 _ => ?_
    refine k y H5 (ok_ ?_ k5) B5 (G4.k.trans k5)
    exact (List.mem_append.mp hy).elim (G4.all y) fun h => ok_ (hmo y h) G4.k
end
end K03

end

section
set_option Elab.async false
set_option linter.all false
set_option maxRecDepth 100000
set_option maxHeartbeats 4000000
/-! the methods of Row. -/
namespace K03
open PySem L2 SB
def spAfter (K : PySem.W.Frag) (C : Addr) : Sp := fun vs H Q _ => ∃ r q ls up dn, vs = [.ref r] ∧ RowAt C H r q up dn ∧ SqT K H q (ls.map V.int) ∧ ls.length ≤ 1000 ∧
  ∀ t H', H t = none → Same H H' → H' t = some (.tup ((bef ls dn).map V.int)) → Q (.ref t) H'
def spLen (K : PySem.W.Frag) (C : Addr) : Sp := fun vs H Q _ => ∃ r q, ∃ ls : List Int, ∃ up dn, vs = [.ref r] ∧ RowAt C H r q up dn ∧ SqT K H q (ls.map V.int) ∧ Q (.int ls.length) H
def spIn (K : PySem.W.Frag) (C : Addr) : Sp := fun vs H Q _ => ∃ r q ls up dn v o, vs = [.ref r, v] ∧ RowAt C H r q up dn ∧ SqT K H q (ls.map V.int) ∧ NV K H v o ∧ Q (.bl (liveB ls o)) H
/-- a value beside a row: another row, or no row -/
def Beside (K : PySem.W.Frag) (C : Addr) (H : Hp) (v : V) : Seen → Prop
  | some (ls, up, dn) => ∃ r q, v = .ref r ∧ RowAt C H r q up dn ∧ SqT K H q (ls.map V.int) ∧ ls.length ≤ 1000
  | none => OddV K C H v
def eqRow (ls : List Int) (up dn : Option Int) : Seen → Bool
  | some (ls', up', dn') => decide (ls = ls') && (decide (up = up') && decide (dn = dn'))
  | none => false
def spEqR (K : PySem.W.Frag) (C : Addr) : Sp := fun vs H Q _ => ∃ r q ls up dn v o, vs = [.ref r, v] ∧ RowAt C H r q up dn ∧ SqT K H q (ls.map V.int) ∧ ls.length ≤ 1000 ∧ Beside K C H v o ∧ Q (.bl (eqRow ls up dn o)) H
theorem eqv_ints : ∀ xs ys : List Int, PyData.eqvAll (xs.map .int) (ys.map .int) = decide (xs = ys)
  | [], [] => by simp [PyData.eqvAll]
  | [], y :: ys => by simp [PyData.eqvAll]
  | x :: xs, [] => by simp [PyData.eqvAll]
  | x :: xs, y :: ys => by
    rw [List.map_cons, List.map_cons]
    have : decide (x :: xs = y :: ys) = (decide (x = y) && decide (xs = ys)) := by simp [Bool.decide_and]
    rw [this]
    simp [PyData.eqvAll, PyData.eqv, eqv_ints xs ys]
    rfl
theorem eqv_tup (xs ys : List Int) : PyData.eqv (.tuple (xs.map .int)) (.tuple (ys.map .int)) = decide (xs = ys) := by
  rw [PyData.eqv]
  exact eqv_ints xs ys
theorem mV_eq (a b : Option Int) : decide (mV a = mV b) = decide (a = b) := by
  cases a <;> cases b <;> simp [mV]
section
variable {P : Program} {w : World} {K : PySem.W.Frag} {mg : Str → Option Value} {base : Heap}
theorem ok_after {f C : Addr} {fd : FuncData} (F : Fun K "lot_after" "Row.lot_after" s_Row_lot_after f fd) (T : RowC K C) (gTup : mg "tuple" = none) : FnOk P w K mg base CX0 1 f fd ["self"] (spAfter K C) := by
  refine F.ok sc_Row_lot_after (fun vs H Q E h => ?_) (fun cdv A outer s H vs Q E hr h => ?_)
  · obtain ⟨r, q, ls, up, dn, rfl, _⟩ := h
    rfl
  · obtain ⟨r, q, ls, up, dn, rfl, ⟨dx, ha⟩, hs, hz, k⟩ := h
    have nd := sc_Row_lot_after.nd
    refine ⟨_, pss_one (ps_ret (pe_callTy call_tuple_of (by rfl) gTup (by decide +kernel) (pa_cons (pe_lc (own := [("key", 1)]) (g := gName 1) (tt := tTest (tOp rNe (tVar 1) (tFld K (tVar 0) "going"))) (te := tVar 1) rfl nd (pi_tup (pe_fld (pv 0) rfl)) (blkOk_by (N := N_Row_lot_after) (sc := defScope s_Row_lot_after) (by decide +kernel))
        (fun _ _ _ _ _ => pg_name (i := 1) nd rfl (Or.inl rfl)) (fun _ _ _ _ _ => pts_one (pt_cmpR op_ne (pv 1) (pe_fld (pv 0) rfl) (nomark _))) (fun _ _ _ _ _ => pv 1)) pa_nil))), ?_⟩
    refine ⟨_, rfl, r, C, dx, _, _, rfl, ha, T.cl, T.nL, rfl, q, rfl, ⟨_, hs⟩, fun D hD => filt_tup (fun z => !decide (V.int z = mV dn)) hs hD (by omega) (fun z H' R S hz s1 r1 r2 => ?_) (fun H1 s1 h1 => ?_)⟩
    · refine ⟨rfl, _, rfl, _, rfl, r, C, dx, _, _, rfl, s1 _ _ ha, T.cl, T.nG, rfl, by cases dn <;> rfl, _, rfl, ite2 (fun e => ⟨_, rfl, r1 e⟩) (fun e => r2 (Bool.eq_false_iff.mpr e))⟩
    · refine ⟨D, _, rfl, .inl ⟨SqL.of h1, fun t ht => ?_⟩⟩
      refine k t _ ?_ (Same.new s1 ht) upd_same
      cases e : H t with
      | none => rfl
      | some o => rw [s1 _ _ e] at ht; cases ht
theorem ok_str {f C fT : Addr} {fd fdT : FuncData} (F : Fun K "__str__" "Row.__str__" s_Row_str f fd) (T : RowC K C) (mT : Meth K C "text" fT) (FT : FnOk P w K mg base CX0 2 fT fdT ["self"] (spTextD K C)) (bT : Binds K fdT ["self"] []) :
    FnOk P w K mg base CX0 3 f fd ["self"] (spTextD K C) := by
  refine F.ok sc_Row_str (fun vs H Q E h => ?_) (fun cdv A outer s H vs Q E hr h => ?_)
  · obtain ⟨r, q, ls, up, dn, rfl, _⟩ := h
    rfl
  · obtain ⟨r, q, ls, up, dn, rfl, ⟨dx, ha⟩, hs, L, k⟩ := h
    refine ⟨_, pss_one (ps_ret (pe_joined1 (pe_fmt (pe_meth0 (pv 0) T.cl mT FT hr bT .nil pass0)))), ?_⟩
    have hl := row_len L
    refine ⟨_, rfl, r, dx, _, rfl, ha, rfl, r, q, ls, up, dn, rfl, ⟨dx, ha⟩, hs, L, fun H' s' => .inl ⟨_, rfl, (by rw [sizeLine_eq]; omega), k H' s'⟩⟩
theorem ok_len {f C : Addr} {fd : FuncData} (F : Fun K "__len__" "Row.__len__" s_Row_len f fd) (T : RowC K C) (gLen : mg "len" = none) : FnOk P w K mg base CX0 1 f fd ["self"] (spLen K C) := by
  refine F.ok sc_Row_len (fun vs H Q E h => ?_) (fun cdv A outer s H vs Q E hr h => ?_)
  · obtain ⟨r, q, ls, up, dn, rfl, _⟩ := h
    rfl
  · obtain ⟨r, q, ls, up, dn, rfl, ⟨dx, ha⟩, hs, k⟩ := h
    refine ⟨_, pss_one (ps_ret (pe_callB call_len_seq (by rfl) gLen PySem.boot_len (pa_cons (pe_fld (pv 0) rfl) pa_nil))), ?_⟩
    exact ⟨_, rfl, r, C, dx, _, _, rfl, ha, T.cl, T.nL, rfl, q, _, rfl, .inr hs, by rw [List.length_map]; exact k⟩
theorem ok_in {f C fV : Addr} {fd fdV : FuncData} (F : Fun K "__contains__" "Row.__contains__" s_Row_contains f fd) (T : RowC K C)
    (gV : mg "lives_in" = some (.ref fV)) (FV : FnOk P w K mg base CX0 3 fV fdV ["living", "value"] (spLive K)) (kV : PySem.W.keepIn K (.ref fV) = true) (bV : Binds K fdV ["living", "value"] []) : FnOk P w K mg base CX0 4 f fd ["self", "key"] (spIn K C) := by
  refine F.ok sc_Row_contains (fun vs H Q E h => ?_) (fun cdv A outer s H vs Q E hr h => ?_)
  · obtain ⟨r, q, ls, up, dn, v, o, rfl, _⟩ := h
    rfl
  · obtain ⟨r, q, ls, up, dn, v, o, rfl, ⟨dx, ha⟩, hs, nv, k⟩ := h
    refine ⟨_, pss_one (ps_ret (pe_call FV hr (by rfl) gV kV bV .nil pass0 (pa_cons (pe_fld (pv 0) rfl) (pa_cons (pv 1) pa_nil)))), ?_⟩
    exact ⟨_, rfl, r, C, dx, _, _, rfl, ha, T.cl, T.nL, rfl, _, rfl, q, ls, v, o, rfl, hs, nv, k⟩
theorem ok_eq {f C : Addr} {fd : FuncData} (F : Fun K "__eq__" "Row.__eq__" s_Row_eq f fd) (T : RowT K C) (gC : mg "Row" = some (.ref C)) (gIsi : mg "isinstance" = none) : FnOk P w K mg base CX0 1 f fd ["self", "other"] (spEqR K C) := by
  refine F.ok sc_Row_eq (fun vs H Q E h => ?_) (fun cdv A outer s H vs Q E hr h => ?_)
  · obtain ⟨r, q, ls, up, dn, v, o, rfl, _⟩ := h
    rfl
  · obtain ⟨r, q, ls, up, dn, v, o, rfl, ⟨dx, ha⟩, hs, hz, bs, k⟩ := h
    refine ⟨_, pss_one (ps_ret (pe_and (pe_callB call_isi (by rfl) gIsi (by decide +kernel) (pa_cons (pv 1) (pa_cons (pe_glob (v := .ref C) (by rfl) gC rfl) pa_nil)))
      (pe_and (pe_cmpR (op_eqD hr.units) (pe_fld (pv 0) rfl) (pe_fld (pv 1) rfl) (nomark _))
      (pe_and (pe_cmpR op_eq (pe_fld (pv 0) rfl) (pe_fld (pv 1) rfl) (nomark _)) (pe_one (pe_cmpR op_eq (pe_fld (pv 0) rfl) (pe_fld (pv 1) rfl) (nomark _))))))), ?_⟩
    cases o with
    | none =>
      obtain ⟨t, ht, hk⟩ := bs
      exact ⟨_, rfl, _, .ref C, _, _, false, rfl, .own C, ht, hk, _, rfl, iteF k⟩
    | some o =>
      obtain ⟨ls', up', dn'⟩ := o
      obtain ⟨r', q', rfl, ⟨dx', ha'⟩, hs', hz'⟩ := bs
      refine ⟨_, rfl, _, .ref C, _, _, true, rfl, .own C, T.ty ⟨dx', ha'⟩, by unfold PySem.W.kitOne; rw [if_pos (beq_self_eq_true _)], _, rfl, iteT ?_⟩
      refine ⟨_, rfl, r, C, dx, _, _, rfl, ha, T.c.cl, T.c.nL, rfl, _, rfl, r', C, dx', _, _, rfl, ha', T.c.cl, T.c.nL, rfl, .tuple (ls.map .int), .tuple (ls'.map .int), .tup hs (dpAll_ints ls), .tup hs' (dpAll_ints ls'), shaped_tup ls, shaped_tup ls', _, rfl, ?_⟩
      rw [eqv_tup]
      have k : Q (.bl (decide (ls = ls') && (decide (up = up') && decide (dn = dn')))) H := k
      refine ite2 (fun a => ?_) (fun a => ?_)
      · rw [a, Bool.true_and] at k
        refine ⟨_, rfl, r, C, dx, _, _, rfl, ha, T.c.cl, T.c.nC, rfl, _, rfl, r', C, dx', _, _, rfl, ha', T.c.cl, T.c.nC, rfl, by cases up <;> cases up' <;> rfl, _, rfl, ?_⟩
        rw [mV_eq]
        refine ite2 (fun b => ?_) (fun b => ?_)
        · rw [b, Bool.true_and] at k
          refine ⟨_, rfl, r, C, dx, _, _, rfl, ha, T.c.cl, T.c.nG, rfl, _, rfl, r', C, dx', _, _, rfl, ha', T.c.cl, T.c.nG, rfl, by cases dn <;> cases dn' <;> rfl, ?_⟩
          rw [mV_eq]
          exact k
        · rw [Bool.eq_false_iff.mpr b, Bool.false_and] at k
          exact k
      · rw [Bool.eq_false_iff.mpr a, Bool.false_and] at k
        exact k
end
end K03

end

section
set_option Elab.async false
set_option linter.all false
set_option maxRecDepth 100000
set_option maxHeartbeats 4000000
/-! a word as a key. -/
namespace K03
open PySem L2 SB
abbrev DIG : Str := "0123456789"
abbrev chr1 (c : Nat) : Str := ⟨#[c]⟩
def digC (c : Nat) : Bool := decide (48 ≤ c) && decide (c ≤ 57)
theorem dig_in (c : Nat) : (!(Builtin.Str.occurrences DIG (chr1 c) 0 DIG.length 1).isEmpty) = digC c := by
  have h := SX.in_one [48, 49, 50, 51, 52, 53, 54, 55, 56, 57] c
  have e : (DIG : Str) = SX.S [48, 49, 50, 51, 52, 53, 54, 55, 56, 57] := by decide +kernel
  rw [e]
  refine h.trans ?_
  unfold digC
  by_cases h1 : 48 ≤ c
  · by_cases h2 : c ≤ 57
    · rw [decide_eq_true h1, decide_eq_true h2, Bool.and_true]
      exact decide_eq_true (by
        have : c = 48 ∨ c = 49 ∨ c = 50 ∨ c = 51 ∨ c = 52 ∨ c = 53 ∨ c = 54 ∨ c = 55 ∨ c = 56 ∨ c = 57 := by omega
        simpa using this)
    · rw [decide_eq_false h2, Bool.and_false]
      exact decide_eq_false (fun m => by simp at m; omega)
  · rw [decide_eq_false h1, Bool.false_and]
    exact decide_eq_false (fun m => by simp at m; omega)
def lead0 (l : List Nat) : Bool := decide (l.head? = some 48) && decide (1 < l.length)
/-- the key that a word writes -/
def keyL (l : List Nat) : Option Int := if (decide (1 ≤ l.length) && decide (l.length ≤ 3)) && (l.all digC && !lead0 l) then some ((NumText.digitsVal l : Nat) : Int) else none
theorem keyL_no {l : List Nat} (h : ¬ (1 ≤ l.length ∧ l.length ≤ 3 ∧ l.all digC = true ∧ lead0 l = false)) : keyL l = none := by
  unfold keyL
  rw [if_neg]
  intro c
  simp only [Bool.and_eq_true, decide_eq_true_eq, Bool.not_eq_true'] at c
  exact h ⟨c.1.1, c.1.2, c.2.1, c.2.2⟩
theorem keyL_yes {l : List Nat} (h1 : 1 ≤ l.length) (h2 : l.length ≤ 3) (h3 : l.all digC = true) (h4 : lead0 l = false) : keyL l = some ((NumText.digitsVal l : Nat) : Int) := by
  unfold keyL
  rw [if_pos]
  rw [decide_eq_true h1, decide_eq_true h2, h3, h4]
  rfl
theorem val_le : ∀ (l : List Nat), l.length ≤ 3 → (∀ c ∈ l, c ≤ 57) → NumText.digitsVal l ≤ 999
  | [], _, _ => by decide
  | [a], _, h => by
    have := h a (by simp)
    simp [NumText.digitsVal]; omega
  | [a, b], _, h => by
    have := h a (by simp)
    have := h b (by simp)
    simp [NumText.digitsVal]; omega
  | [a, b, c], _, h => by
    have := h a (by simp)
    have := h b (by simp)
    have := h c (by simp)
    simp [NumText.digitsVal]; omega
  | a :: b :: c :: d :: r, hl, _ => by simp at hl
theorem key_le {l : List Nat} {k : Int} (h : keyL l = some k) : 0 ≤ k ∧ k ≤ 999 := by
  unfold keyL at h
  split at h
  · rename_i c
    cases h
    simp only [Bool.and_eq_true, decide_eq_true_eq] at c
    have := val_le l c.1.2 fun x hx => by
      have := List.all_eq_true.mp c.2.1 x hx
      simp [digC] at this
      exact this.2
    omega
  · cases h
theorem int_dig {z : Str} (h : z.cps.toList.all digC = true) (h0 : z.cps.toList ≠ []) (hl : z.length ≤ 3) : PySem.intText? z = some ((NumText.digitsVal z.cps.toList : Nat) : Int) := by
  have e : z = SX.S z.cps.toList := by cases z; rfl
  have := SX.int_S (a := z.cps.toList) h h0 (by rw [Array.length_toList]; exact Nat.le_trans hl (by decide))
  rw [← e] at this
  exact this
abbrev rInS : R2 := fun x y H Q => ∃ i j, x = .str i ∧ y = .str j ∧ Q (.bl (!(Builtin.Str.occurrences j i 0 j.length 1).isEmpty)) H
def spKw : Sp := fun vs H Q _ => ∃ z : Str, vs = [.str z] ∧ z.length ≤ 100000 ∧ ∀ H', Same H H' → Q (mV (keyL z.cps.toList)) H'
section
variable {P : Program} {w : World} {K : PySem.W.Frag} {mg : Str → Option Value} {base : Heap}
theorem at_ofN {xs : List Nat} {v : Nat} (h : xs[0]? = some v) : atI xs 0 = some v := by
  unfold atI ixN
  have hl : 0 < xs.length := (List.getElem?_eq_some_iff.mp h).1
  simp [hl]
  exact (List.getElem?_eq_some_iff.mp h).2
theorem cps_at {z : Str} {i c : Nat} (h : z.cps[i]? = some c) : z.cps.toList[i]? = some c := by rw [Array.getElem?_toList]; exact h
theorem chr_eq (c d : Nat) : decide (V.str (chr1 c) = V.str (chr1 d)) = decide (c = d) := by
  by_cases e : c = d
  · rw [e]; simp
  · rw [decide_eq_false e]
    exact decide_eq_false fun z => e (by injection z with z; injection z with z; simpa using z)
theorem ok_kw {f : Addr} {fd : FuncData} {tG tD : Tok} (F : Fun K "key_of_word" "key_of_word" s_key_of_word f fd) (gStr : mg "str" = none) (gLen : mg "len" = none) (gAll : mg "all" = none) (gInt : mg "int" = none)
    (gG : mg "GREATEST_KEY" = some (.int 999 tG)) (gD : mg "DIGITS" = some (.str DIG tD)) : FnOk P w K mg base CX0 1 f fd ["word"] spKw := by
  refine F.ok sc_key_of_word (fun vs H Q E h => ?_) (fun cdv A outer s H vs Q E hr h => ?_)
  · obtain ⟨z, rfl, _⟩ := h
    rfl
  · obtain ⟨z, rfl, hz, k⟩ := h
    have nd := sc_key_of_word.nd
    refine ⟨_, pss_cons (ps_if (pt_not (pt_chain op_le op_le pe_int (pe_callB call_len_str (by rfl) gLen PySem.boot_len (pa_cons (pv 0) pa_nil)) (pe_callB call_len_str (by rfl) gLen PySem.boot_len (pa_cons (pe_callTy call_str_int (by rfl) gStr (by decide +kernel) (pa_cons (pe_glob (v := .int 999) (by rfl) gG ⟨_, rfl⟩) pa_nil)) pa_nil)))) (pss_one (ps_ret pe_non)) pss_nil)
      (pss_cut (ps_if (pt_not (pt_val (pe_callB (cr_all rfl) (by rfl) gAll (by decide +kernel) (pa_cons (pe_lc (own := [("sign", 1)]) (g := gName 1) (tt := tYes) (te := tOp rInS (tVar 1) (tC (.str DIG))) rfl nd (pi_str (pv 0)) (blkOk_by (N := N_key_of_word) (sc := defScope s_key_of_word) (by decide +kernel))
          (fun _ _ _ _ _ => pg_name (i := 1) nd rfl (Or.inl rfl)) (fun _ _ _ _ _ => pts_nil) (fun _ _ _ _ _ => pe_cmpR op_in_str (pv 1) (pe_glob (v := .str DIG) (by rfl) gD ⟨_, rfl⟩) (by rfl))) pa_nil)))) (pss_one (ps_ret pe_non)) pss_nil)
      (pss_cons (ps_if (PW.pt (pw_and (pt_cmpR op_eq (pe_ix ix_str (pv 0) pe_int (fun _ _ => rfl)) pe_str (nomark _)) (pw_and1 (pt_cmpR op_gt (pe_callB call_len_str (by rfl) gLen PySem.boot_len (pa_cons (pv 0) pa_nil)) pe_int (nomark _))))) (pss_one (ps_ret pe_non)) pss_nil)
      (pss_one (ps_ret (pe_callTy call_int_str (by rfl) gInt (by decide +kernel) (pa_cons (pv 0) pa_nil)))))), ?_⟩
    have hsz : z.cps.toList.length = z.length := Array.length_toList
    have no : keyL z.cps.toList = none → Q .non H := fun e => by have := k H (Same.refl H); rw [e] at this; exact this
    refine ⟨_, rfl, z, rfl, (by rw [sizeLine_eq]; omega), _, _, rfl, rfl, _, rfl, ite2 (fun h1 => ⟨999, rfl, by decide +kernel, (Str.ofString "999"), rfl, by decide, _, _, rfl, rfl, _, rfl, ?_⟩) (fun h1 => ⟨_, rfl, iteT (no (keyL_no fun c => h1 (decide_eq_true (by omega))))⟩)⟩
    by_cases h2 : (z.length : Int) ≤ ((Str.ofString "999").length : Int)
    · rw [decide_eq_true h2]
      have h2' : z.length ≤ 3 := by
        have e : ((Str.ofString "999").length : Int) = 3 := by decide
        rw [e] at h2; omega
      have h1' : 1 ≤ z.length := by have := of_decide_eq_true h1; omega
      refine iteF ?_
      refine ⟨fun σ H' => Same H H' ∧ (∃ y, σ = [some (.str z), y]) ∧ z.cps.toList.all digC = true, ?_, ?_⟩
      · refine ⟨_, rfl, z, rfl, fun D hD => lc_walk (J := Its z) (n := z.cps.size) (fun i H' => Same H H' ∧ H' D = some (.lst (((z.cps.toList.take i).map digC).map V.bl))) ⟨Same.new (Same.refl H) hD, upd_same⟩ (fun i H' hi _ => hi) (fun H' _ => Nat.le_refl _) (fun i x H1 H' hi p y => ?_) (fun H' p => ?_)⟩
        · obtain ⟨s1, hd⟩ := p
          obtain ⟨rfl, c', hc', rfl⟩ := y
          have hat := cps_at hc'
          refine ⟨rfl, _, rfl, _, _, rfl, rfl, ?_⟩
          rw [dig_in]
          refine ⟨_, hd, ?_, (fun a o e => ?_), ?_⟩
          · rw [List.length_map, List.length_map, List.length_take, sizeLine_eq]; omega
          · rw [upd_ne (ne_of_none e hD)]; exact s1 _ _ e
          · rw [upd_same, List.take_add_one, hat, List.map_append, List.map_append]; rfl
        · obtain ⟨s1, hd⟩ := p
          rw [List.take_of_length_le (by rw [Array.length_toList]; exact Nat.le_refl _)] at hd
          refine ⟨D, z.cps.toList.map digC, rfl, SqL.of hd, _, rfl, ?_⟩
          rw [List.all_map]
          cases h3 : z.cps.toList.all (id ∘ digC) with
          | true => exact iteF ⟨s1, ⟨_, rfl⟩, h3⟩
          | false =>
            refine iteT ?_
            have := k H' s1
            rw [keyL_no fun c => by have := c.2.2.1; rw [show z.cps.toList.all digC = z.cps.toList.all (id ∘ digC) from rfl, h3] at this; cases this] at this
            exact this
      rintro σ H' ⟨s1, ⟨y, rfl⟩, h3⟩
      cases hl : z.cps.toList with
      | nil =>
        rw [hl] at hsz
        simp only [List.length_nil] at hsz
        omega
      | cons c r =>
        have kk := k H' s1
        refine ⟨_, rfl, z, 0, c, rfl, rfl, (by rw [sizeLine_eq]; omega), (by rw [hl]; exact at_ofN rfl), rfl, _, rfl, ?_⟩
        have e48 : (Str.ofString "0") = chr1 48 := by decide
        have fin : lead0 z.cps.toList = false → ∃ a n, [V.str z] = [V.str a] ∧ PySem.intText? a = some n ∧ a.length ≤ 640 ∧ Q (.int n) H' := fun h4 => by
          rw [keyL_yes (by omega) (by omega) h3 h4] at kk
          exact ⟨z, _, rfl, int_dig h3 (by rw [hl]; simp) h2', by omega, kk⟩
        refine ite2 (fun a => ?_) (fun a => ?_)
        · have a' : c = 48 := by
            rw [e48, chr_eq] at a
            exact of_decide_eq_true a
          refine ⟨_, rfl, z, rfl, (by rw [sizeLine_eq]; omega), _, _, rfl, rfl, _, rfl, ite2 (fun b => ?_) (fun b => ?_)⟩
          · have b' : z.length > 1 := by have := of_decide_eq_true b; omega
            rw [keyL_no fun q => by
              have := q.2.2.2
              unfold lead0 at this
              rw [hl] at hsz this
              rw [a', decide_eq_true (show 1 < (48 :: r).length by rw [a'] at hsz; omega)] at this
              simp at this] at kk
            exact kk
          · have b' : ¬ z.length > 1 := fun q => b (decide_eq_true (by omega))
            exact ⟨_, rfl, fin (by unfold lead0; rw [decide_eq_false (show ¬ 1 < z.cps.toList.length by omega), Bool.and_false])⟩
        · refine ⟨_, rfl, fin ?_⟩
          unfold lead0
          rw [hl]
          have : c ≠ 48 := fun q => a (by rw [e48, chr_eq]; exact decide_eq_true q)
          simp [this]
    · rw [decide_eq_false h2]
      exact iteT (no (keyL_no fun c => h2 (by
        have e : ((Str.ofString "999").length : Int) = 3 := by decide
        rw [e]; omega)))
end
end K03

end

section
set_option Elab.async false
set_option linter.all false
set_option maxRecDepth 100000
set_option maxHeartbeats 4000000
/-! a word with its sign. -/
namespace K03
open PySem L2 SB
def isSg (c : Nat) : Bool := decide (c = 43) || decide (c = 45)
/-- the sign ahead of a word and the key behind it -/
def splitL : List Nat → Str × Option Int
  | c :: r => if isSg c then (chr1 c, keyL r) else ("", keyL (c :: r))
  | [] => ("", keyL [])
theorem split_yes {c : Nat} {r : List Nat} (h : isSg c = true) : splitL (c :: r) = (chr1 c, keyL r) := by
  show (if isSg c then (chr1 c, keyL r) else _) = _
  rw [if_pos h]
theorem split_no {c : Nat} {r : List Nat} (h : isSg c = false) : splitL (c :: r) = (Str.ofString "", keyL (c :: r)) := by
  show (if isSg c then _ else (Str.ofString "", keyL (c :: r))) = _
  rw [h]
  rfl
theorem starts_one (z : Str) (d : Nat) : Txt.startswith z (chr1 d) = decide (z.cps.toList.head? = some d) := by
  obtain ⟨⟨l⟩⟩ := z
  unfold Txt.startswith Builtin.Str.subAt
  cases l with
  | nil => simp [Str.length]
  | cons c r =>
    by_cases e : c = d
    · subst e; simp [Str.length]
    · simp [Str.length, e]
theorem cutS_drop1 (z : Str) : (cutS z (some 1) none).cps.toList = z.cps.toList.drop 1 := by
  unfold cutS
  have e : HT.sIx z.length 0 (some 1) = min 1 z.length := HT.sIx_nat _ _ 1
  have hl : z.cps.toList.length = z.length := Array.length_toList
  rw [HT.sIx_none, e, List.take_of_length_le (by rw [List.length_drop]; omega)]
  by_cases h : 1 ≤ z.length
  · rw [Nat.min_eq_left h]
  · rw [show min 1 z.length = 0 from by omega]
    rw [List.drop_of_length_le (show z.cps.toList.length ≤ 1 by omega)]
    have : z.cps.toList = [] := List.eq_nil_of_length_eq_zero (by omega)
    rw [this]; rfl
def spSplit (K : PySem.W.Frag) : Sp := fun vs H Q _ => ∃ z : Str, vs = [.str z] ∧ z.length ≤ 100000 ∧ ∀ t H', H t = none → Same H H' → H' t = some (.tup [.str (splitL z.cps.toList).1, mV (splitL z.cps.toList).2]) → Q (.ref t) H'
theorem rd_no {σ : L2.St} {H : Hp} {Q : Option Int → Hp → Prop} (h : Q none H) : tNoPart σ H Q := h
section
variable {P : Program} {w : World} {K : PySem.W.Frag} {mg : Str → Option Value} {base : Heap}
theorem ok_split {f fK : Addr} {fd fdK : FuncData} (F : Fun K "split_sign" "split_sign" s_split_sign f fd)
    (gK : mg "key_of_word" = some (.ref fK)) (FK : FnOk P w K mg base CX0 1 fK fdK ["word"] spKw) (kK : PySem.W.keepIn K (.ref fK) = true) (bK : Binds K fdK ["word"] []) : FnOk P w K mg base CX0 2 f fd ["word"] (spSplit K) := by
  refine F.ok sc_split_sign (fun vs H Q E h => ?_) (fun cdv A outer s H vs Q E hr h => ?_)
  · obtain ⟨z, rfl, _⟩ := h
    rfl
  · obtain ⟨z, rfl, hz, k⟩ := h
    refine ⟨_, pss_cons (ps_if (PW.pt (pw_or (pt_val (pe_m1 PySem.F.slot_str_startswith PySem.F.type_str_startswith mt_startswith (pv 0) pe_str)) (pw_or1 (pt_val (pe_m1 PySem.F.slot_str_startswith PySem.F.type_str_startswith mt_startswith (pv 0) pe_str)))))
        (pss_one (ps_ret (pe_tup (pa_cons (pe_ix ix_str (pv 0) pe_int (fun _ _ => rfl)) (pa_cons (pe_call FK hr (by rfl) gK kK bK .nil pass0 (pa_cons (pe_slice sl_str (pv 0) (po_some pe_int) po_none) pa_nil)) pa_nil))))) pss_nil)
      (pss_one (ps_ret (pe_tup (pa_cons pe_str (pa_cons (pe_call FK hr (by rfl) gK kK bK .nil pass0 (pa_cons (pv 0) pa_nil)) pa_nil))))), ?_⟩
    have hl : z.cps.toList.length = z.length := Array.length_toList
    have e43 : (Str.ofString "+") = chr1 43 := by decide
    have e45 : (Str.ofString "-") = chr1 45 := by decide
    have plain : splitL z.cps.toList = ((Str.ofString ""), keyL z.cps.toList) → ∃ z' : Str, [V.str z] = [.str z'] ∧ z'.length ≤ 100000 ∧ ∀ H', Same H H' → [V.str "", mV (keyL z'.cps.toList)].length ≤ sizeLine ∧ ∀ t, H' t = none → Q (.ref t) (upd H' t (.tup [.str "", mV (keyL z'.cps.toList)])) := fun e =>
      ⟨z, rfl, hz, fun H' s1 => ⟨(by show 2 ≤ sizeLine; decide), fun t ht => k t _ (by
        cases e : H t with
        | none => rfl
        | some o => rw [s1 _ _ e] at ht; cases ht) (Same.new s1 ht) (by rw [e]; exact upd_same)⟩⟩
    refine ⟨_, rfl, ⟨_, rfl⟩, z, _, rfl, rfl, _, rfl, ?_⟩
    rw [e43, starts_one]
    cases hc : z.cps.toList with
    | nil =>
      refine iteF ⟨_, rfl, ⟨_, rfl⟩, z, _, rfl, rfl, _, rfl, ?_⟩
      rw [e45, starts_one, hc]
      refine iteF ⟨_, rfl, ?_⟩
      exact plain (by rw [hc]; rfl)
    | cons c r =>
      have cutl : (cutS z (some 1) none).cps.toList = r := by rw [cutS_drop1, hc]; rfl
      have cutn : (cutS z (some 1) none).length ≤ 100000 := by
        have : (cutS z (some 1) none).cps.toList.length = (cutS z (some 1) none).length := Array.length_toList
        rw [cutl] at this
        rw [hc, List.length_cons] at hl
        omega
      have fin : isSg c = true → ∃ z' : Str, [V.str (cutS z (some 1) none)] = [.str z'] ∧ z'.length ≤ 100000 ∧ ∀ H', Same H H' → [V.str (chr1 c), mV (keyL z'.cps.toList)].length ≤ sizeLine ∧ ∀ t, H' t = none → Q (.ref t) (upd H' t (.tup [.str (chr1 c), mV (keyL z'.cps.toList)])) := fun hs =>
        ⟨_, rfl, cutn, fun H' s1 => ⟨(by show 2 ≤ sizeLine; decide), fun t ht => k t _ (by
          cases e : H t with
          | none => rfl
          | some o => rw [s1 _ _ e] at ht; cases ht) (Same.new s1 ht) (by rw [hc, cutl, upd_same]; rw [split_yes hs])⟩⟩
      by_cases h1 : c = 43
      · rw [decide_eq_true (show (c :: r).head? = some 43 by rw [h1]; rfl)]
        exact iteT ⟨_, rfl, z, 0, c, rfl, rfl, (by rw [sizeLine_eq]; omega), (by rw [hc]; exact at_ofN rfl), _, rfl, 1, rfl, rd_no ⟨z, rfl, (by rw [sizeLine_eq]; omega), fin (by rw [h1]; rfl)⟩⟩
      · rw [decide_eq_false (show ¬ (c :: r).head? = some 43 from fun q => h1 (by simpa using q))]
        refine iteF ⟨_, rfl, ⟨_, rfl⟩, z, _, rfl, rfl, _, rfl, ?_⟩
        rw [e45, starts_one, hc]
        by_cases h2 : c = 45
        · rw [decide_eq_true (show (c :: r).head? = some 45 by rw [h2]; rfl)]
          exact iteT ⟨_, rfl, z, 0, c, rfl, rfl, (by rw [sizeLine_eq]; omega), (by rw [hc]; exact at_ofN rfl), _, rfl, 1, rfl, rd_no ⟨z, rfl, (by rw [sizeLine_eq]; omega), fin (by rw [h2]; rfl)⟩⟩
        · rw [decide_eq_false (show ¬ (c :: r).head? = some 45 from fun q => h2 (by simpa using q))]
          refine iteF ⟨_, rfl, ?_⟩
          refine plain ?_
          rw [hc]
          exact split_no (by unfold isSg; simp [h1, h2])
end
end K03

end

section
set_option Elab.async false
set_option linter.all false
set_option maxRecDepth 100000
set_option maxHeartbeats 4000000
/-! the text of a row, read. -/
namespace K03
open PySem L2 SB
structure RS where
  ks : List Int
  a : Option Int
  b : Option Int
def lastLe (ks : List Int) (k : Int) : Bool := match ks.getLast? with
  | none => false
  | some l => decide (k ≤ l)
/-- one word more -/
def stepR (s : RS) (w : Str) : Option RS := match (splitL w.cps.toList).2 with
  | none => none
  | some k => if lastLe s.ks k then none else
    if (splitL w.cps.toList).1 = Str.ofString "" then some ⟨s.ks ++ [k], s.a, s.b⟩
    else if s.a.isSome || s.b.isSome then none
    else if (splitL w.cps.toList).1 = chr1 43 then some ⟨s.ks ++ [k], some k, s.b⟩ else some ⟨s.ks ++ [k], s.a, some k⟩
def s0 : RS := ⟨[], none, none⟩
def parse (ws : List Str) : Option RS := ws.foldlM stepR s0
def readS (z : Str) : Option RS := parse (Txt.split z (Str.ofString " "))
/-- what holds of what is read -/
structure RSok (s : RS) : Prop where
  ks : KSet s.ks
  a : ∀ k, s.a = some k → k ∈ s.ks
  b : ∀ k, s.b = some k → s.a = none ∧ k ∈ s.ks
theorem kset_snoc {ks : List Int} {k : Int} (h : KSet ks) (h0 : 0 ≤ k) (h1 : k ≤ 999) (hl : lastLe ks k = false) : KSet (ks ++ [k]) where
  up := by
    refine List.pairwise_append.mpr ⟨h.up, by simp, fun x hx y hy => ?_⟩
    obtain rfl : y = k := by simpa using hy
    unfold lastLe at hl
    cases e : ks.getLast? with
    | none => rw [List.getLast?_eq_none_iff] at e; rw [e] at hx; cases hx
    | some l =>
      rw [e] at hl
      have hl : l < y := by have := of_decide_eq_false hl; omega
      obtain ⟨i, hi⟩ := List.mem_iff_getElem?.mp hx
      have hn : ks ≠ [] := fun q => by rw [q] at hx; cases hx
      have el : ks.dropLast ++ [l] = ks := by
        have := List.dropLast_concat_getLast hn
        rw [List.getLast?_eq_some_getLast hn] at e
        cases e
        exact this
      have up := h.up
      rw [← el] at up hx
      rcases List.mem_append.mp hx with hx | hx
      · have := (List.pairwise_append.mp up).2.2 x hx l (by simp)
        omega
      · obtain rfl : x = l := by simpa using hx
        exact hl
  lo x hx := (List.mem_append.mp hx).elim (h.lo x) fun e => (show x = k by simpa using e) ▸ h0
  hi x hx := (List.mem_append.mp hx).elim (h.hi x) fun e => (show x = k by simpa using e) ▸ h1
theorem kset_len : ∀ (ks : List Int) (m : Int), ks.Pairwise (· < ·) → (∀ k ∈ ks, m ≤ k ∧ k ≤ 999) → m ≤ 1000 → (ks.length : Int) ≤ 1000 - m
  | [], m, _, _, h => by simp; omega
  | k :: ks, m, hp, hb, h => by
    have hk := hb k (by simp)
    have := kset_len ks (k + 1) (List.pairwise_cons.mp hp).2 (fun x hx => ⟨by have := (List.pairwise_cons.mp hp).1 x hx; omega, (hb x (by simp [hx])).2⟩) (by omega)
    rw [List.length_cons]
    push_cast
    omega
theorem kset_few {ks : List Int} (h : KSet ks) : ks.length ≤ 1000 := by
  have := kset_len ks 0 h.up (fun k hk => ⟨h.lo k hk, h.hi k hk⟩) (by decide)
  omega
theorem split_key {w : Str} {k : Int} (h : (splitL w.cps.toList).2 = some k) : 0 ≤ k ∧ k ≤ 999 := by
  cases e : w.cps.toList with
  | nil => rw [e] at h; exact key_le (l := []) h
  | cons c r =>
    rw [e] at h
    cases hs : isSg c with
    | true => rw [split_yes hs] at h; exact key_le h
    | false => rw [split_no hs] at h; exact key_le h
theorem step_ok {s s' : RS} {w : Str} (h : RSok s) (e : stepR s w = some s') : RSok s' := by
  unfold stepR at e
  cases hk : (splitL w.cps.toList).2 with
  | none => rw [hk] at e; cases e
  | some k =>
    rw [hk] at e
    have kb := split_key hk
    have e : (if lastLe s.ks k then none else
      if (splitL w.cps.toList).1 = Str.ofString "" then some ⟨s.ks ++ [k], s.a, s.b⟩
      else if s.a.isSome || s.b.isSome then none
      else if (splitL w.cps.toList).1 = chr1 43 then some ⟨s.ks ++ [k], some k, s.b⟩ else some (⟨s.ks ++ [k], s.a, some k⟩ : RS)) = some s' := e
    split at e
    · cases e
    · rename_i hl
      have hl : lastLe s.ks k = false := by simpa using hl
      have hs := kset_snoc h.ks kb.1 kb.2 hl
      split at e
      · cases e
        exact ⟨hs, fun x hx => List.mem_append_left _ (h.a x hx), fun x hx => ⟨(h.b x hx).1, List.mem_append_left _ (h.b x hx).2⟩⟩
      · split at e
        · cases e
        · rename_i hn
          have hn : s.a = none ∧ s.b = none := by
            cases ea : s.a <;> cases eb : s.b <;> simp [ea, eb] at hn ⊢
          split at e
          · cases e
            exact ⟨hs, (fun x hx => by cases hx; simp), (fun x hx => by rw [hn.2] at hx; cases hx)⟩
          · cases e
            exact ⟨hs, (fun x hx => by rw [hn.1] at hx; cases hx), (fun x hx => by cases hx; exact ⟨hn.1, by simp⟩)⟩
theorem parse_ok : ∀ (ws : List Str) (s s' : RS), RSok s → ws.foldlM stepR s = some s' → RSok s'
  | [], s, s', h, e => by
    cases e
    exact h
  | w :: ws, s, s', h, e => by
    rw [List.foldlM_cons] at e
    cases q : stepR s w with
    | none => rw [q] at e; cases e
    | some t =>
      rw [q] at e
      exact parse_ok ws t s' (step_ok h q) e
theorem s0_ok : RSok s0 := ⟨⟨List.Pairwise.nil, (fun k h => by cases h), (fun k h => by cases h)⟩, (fun k h => by cases h), (fun k h => by cases h)⟩
theorem parts_le {x : Str} {cuts : List Nat} {n : Nat} {w : Str} (h : w ∈ Builtin.Str.partsBetween x cuts n) : w.length ≤ x.length := by
  unfold Builtin.Str.partsBetween at h
  obtain ⟨⟨i, j⟩, _, rfl⟩ := List.mem_map.mp h
  show (x.cps.extract i j).size ≤ x.cps.size
  rw [Array.size_extract]
  omega
theorem split_le {x y w : Str} (h : w ∈ Txt.split x y) : w.length ≤ x.length := by
  unfold Txt.split at h
  split at h
  · obtain rfl : w = x := by simpa using h
    exact Nat.le_refl _
  · split at h
    · obtain rfl : w = x := by simpa using h
      exact Nat.le_refl _
    · exact parts_le h
theorem split_ne (x y : Str) : Txt.split x y ≠ [] := by
  unfold Txt.split
  split
  · simp
  · split
    · simp
    · intro e
      have := PySem.length_partsBetween x (Builtin.Str.occurrences x y 0 x.length (x.length + 1)) y.length
      rw [e] at this
      simp at this
theorem step_len {s s' : RS} {w : Str} (e : stepR s w = some s') : s'.ks.length = s.ks.length + 1 := by
  unfold stepR at e
  cases hk : (splitL w.cps.toList).2 with
  | none => rw [hk] at e; cases e
  | some k =>
    rw [hk] at e
    have e : (if lastLe s.ks k then none else
      if (splitL w.cps.toList).1 = Str.ofString "" then some ⟨s.ks ++ [k], s.a, s.b⟩
      else if s.a.isSome || s.b.isSome then none
      else if (splitL w.cps.toList).1 = chr1 43 then some ⟨s.ks ++ [k], some k, s.b⟩ else some (⟨s.ks ++ [k], s.a, some k⟩ : RS)) = some s' := e
    split at e
    · cases e
    · split at e
      · cases e; simp
      · split at e
        · cases e
        · split at e
          · cases e; simp
          · cases e; simp
theorem parse_len : ∀ (ws : List Str) (s s' : RS), ws.foldlM stepR s = some s' → s'.ks.length = s.ks.length + ws.length
  | [], s, s', e => by
    cases e
    rfl
  | w :: ws, s, s', e => by
    rw [List.foldlM_cons] at e
    cases q : stepR s w with
    | none => rw [q] at e; cases e
    | some t =>
      rw [q] at e
      have h := parse_len ws t s' e
      rw [h, step_len q, List.length_cons]
      omega
theorem read_lot {z : Str} {s : RS} (h : readS z = some s) : Lot s.ks s.a s.b := by
  have ok := parse_ok _ _ _ s0_ok h
  refine ⟨ok.ks, ?_, kset_few ok.ks, ok.a, ok.b⟩
  rw [parse_len _ _ _ h]
  have : 0 < (Txt.split z (Str.ofString " ")).length := List.length_pos_iff.mpr (split_ne _ _)
  omega
def kvM (s : RS) : List (Key × V) := [(.inr "+", mV s.a), (.inr "-", mV s.b)]
theorem valM_a (s : RS) : valV (kvM s) (.inr (Str.ofString "+")) = some (mV s.a) := by simp [kvM, valV]
theorem valM_b (s : RS) : valV (kvM s) (.inr (Str.ofString "-")) = some (mV s.b) := by
  have : ((Sum.inr (Str.ofString "+") : Key) = .inr (Str.ofString "-")) = False := by decide
  simp [kvM, valV, List.find?_cons, this]
theorem putM_a (s : RS) (k : Int) : putK (kvM s) (.inr (Str.ofString "+")) (.int k) = kvM ⟨s.ks, some k, s.b⟩ := by
  have : ((Sum.inr (Str.ofString "-") : Key) = .inr (Str.ofString "+")) = False := by decide
  simp [kvM, putK, this, mV]
theorem putM_b (s : RS) (k : Int) : putK (kvM s) (.inr (Str.ofString "-")) (.int k) = kvM ⟨s.ks, s.a, some k⟩ := by
  have : ((Sum.inr (Str.ofString "+") : Key) = .inr (Str.ofString "-")) = False := by decide
  simp [kvM, putK, this, mV]
theorem split_sg (l : List Nat) : (splitL l).1 = Str.ofString "" ∨ (splitL l).1 = Str.ofString "+" ∨ (splitL l).1 = Str.ofString "-" := by
  cases l with
  | nil => exact .inl rfl
  | cons c r =>
    cases h : isSg c with
    | false => rw [split_no h]; exact .inl rfl
    | true =>
      rw [split_yes h]
      unfold isSg at h
      simp only [Bool.or_eq_true, decide_eq_true_eq] at h
      rcases h with rfl | rfl
      · exact .inr (.inl (by show chr1 43 = Str.ofString "+"; decide))
      · exact .inr (.inr (by show chr1 45 = Str.ofString "-"; decide))
def spRead (K : PySem.W.Frag) (C CT : Addr) : Sp := fun vs H Q E => ∃ v t, vs = [v] ∧ TV K H v t ∧ match t with
  | none => ∀ d H', Same H H' → H' d = none → E (.ref CT) (some d) (upd H' d (.xd (fs1 "InvalidText" "at" [.int 0])))
  | some z => z.length ≤ 90000 ∧ match readS z with
    | none => ∀ d H', Same H H' → H' d = none → E (.ref CT) (some d) (upd H' d (.xd (fs1 "InvalidText" "at" [.int 0])))
    | some s => ∀ r q H', Same H H' → RowAt C H' r q s.a s.b → SqT K H' q (s.ks.map V.int) → Lot s.ks s.a s.b → Q (.ref r) H'
section
variable {P : Program} {w : World} {K : PySem.W.Frag} {mg : Str → Option Value} {base : Heap}
theorem ok_read {f C CT fI fS fR : Addr} {fd fdI fdS fdR : FuncData} (F : Fun K "read" "Row.read" s_Row_read f fd) (gC : mg "Row" = some (.ref C)) (gIsi : mg "isinstance" = none) (gStr : mg "str" = none) (gTup : mg "tuple" = none)
    (X : XFacts K mg "InvalidText" CT fI bmVE "ValueError.__new__") (G : FnOk P w K mg base CX0 1 fI fdI ["self", "at"] (spX CT 1 (fs1 "InvalidText" "at"))) (bI : Binds K fdI ["self", "at"] [])
    (gS : mg "split_sign" = some (.ref fS)) (FS : FnOk P w K mg base CX0 2 fS fdS ["word"] (spSplit K)) (kS : PySem.W.keepIn K (.ref fS) = true) (bS : Binds K fdS ["word"] [])
    (M : Mk K C fR) (FR : FnOk P w K mg base CX0 5 fR fdR ["self", "lot", "coming", "going"] (spRow K C)) (kb : KBn K fdR ["self", "lot", "coming", "going"] 2 ["coming", "going"] gR gR) :
    FnOk P w K mg base (L2.CX P w) 7 f fd ["text"] (spRead K C CT) := by
  refine F.okX sc_Row_read (fun vs H Q E h => ?_) (fun cdv A outer s H vs Q E hr h => ?_)
  · obtain ⟨v, t, rfl, _⟩ := h
    rfl
  · obtain ⟨v, t, rfl, tv, k⟩ := h
    have nd := sc_Row_read.nd
    have hu : (A.deeper (PyProof.Rows.envOfC "Row.read" (defScope s_Row_read) s.heap.objs.size f cdv)).units + 1 < cLine := by have := hr.units; omega
    refine ⟨_, pss_cons (ps_if (pt_not (pt_val (pe_callB call_isi (by rfl) gIsi (by decide +kernel) (pa_cons (pv 0) (pa_cons (pe_bltn (v := .ty "str") (by rfl) gStr (by decide +kernel) rfl) pa_nil))))) (pss_one (ps_raise rfl (takes_of rfl rfl rfl rfl) (pmk_exg PySem.F.excBase_ValueError X.T X.iC X.tI G (hr.mono (by decide)) bI .nil pass0 (by rfl) X.g (pa_cons pe_int pa_nil)))) pss_nil)
      (pss_cons (ps_set (i := 1) nd rfl (Or.inl rfl) (pe_lst pa_nil))
      (pss_cut (ps_set (i := 2) nd rfl (Or.inl rfl) (pe_disp (pps_cons pe_str pe_non (pps_cons pe_str pe_non pps_nil)) (by rfl) (by rfl) (fun z => by cases z) (by decide)))
      (pss_cut (ps_for (passes_of rfl) rfl (pi_list (pe_split (pv 0) pe_str)) (pg_name (i := 3) nd rfl (Or.inl rfl))
        (pss_cut (ps_asg (pe_call FS (hr.mono (by decide)) (by rfl) gS kS bS .nil pass0 (pa_cons (pv 3) pa_nil)) (pg_tup rfl (pgs_cons (pg_name (i := 4) nd rfl (Or.inl rfl)) (pgs_cons (pg_name (i := 5) nd rfl (Or.inl rfl)) pgs_nil))))
        (pss_cut (ps_if (PW.pt (pw_or (pt_cmpR op_isN (pv 5) pe_non (nomark _)) (pw_or1 (PW.pt (pw_and (pt_truth (pv 1) (fun _ => rfl)) (pw_and1 (pt_cmpR op_le (pv 5) (pe_ix ix_list (pv 1) (pe_un un_neg pe_int) (fun _ _ => rfl)) (nomark _)))))))) (pss_one (ps_raise rfl (takes_of rfl rfl rfl rfl) (pmk_exg PySem.F.excBase_ValueError X.T X.iC X.tI G (hr.mono (by decide)) bI .nil pass0 (by rfl) X.g (pa_cons pe_int pa_nil)))) pss_nil)
        (pss_cons (ps_expr (pe_bm PySem.F.plainAttrs_list PySem.F.slot_list_append PySem.F.type_list_append mt_append (pv 1) (pa_cons (pv 5) pa_nil)))
        (pss_one (ps_if (pt_cmpR op_ne (pv 4) pe_str (nomark _))
          (pss_cut (ps_if (PW.pt (pw_or (pt_cmpR op_notN (pe_dget hu (pv 2) pe_str (fun _ _ => rfl)) pe_non (nomark _)) (pw_or1 (pt_cmpR op_notN (pe_dget hu (pv 2) pe_str (fun _ _ => rfl)) pe_non (nomark _))))) (pss_one (ps_raise rfl (takes_of rfl rfl rfl rfl) (pmk_exg PySem.F.excBase_ValueError X.T X.iC X.tI G (hr.mono (by decide)) bI .nil pass0 (by rfl) X.g (pa_cons pe_int pa_nil)))) pss_nil)
          (pss_one (ps_asg (pv 5) (pg_sub (pv 2) (pv 4) (set_dict hu))))) pss_nil))))))
      (pss_one (ps_ret (pe_makeK M FR hr (by rfl) gC kb pass0 (pa_cons (pe_callTy call_tuple_of (by rfl) gTup (by decide +kernel) (pa_cons (pv 1) pa_nil)) pa_nil) (pk_cons (pe_dget hu (pv 2) pe_str (fun _ _ => rfl)) (pk_cons (pe_dget hu (pv 2) pe_str (fun _ _ => rfl)) pk_nil)))))))), ?_⟩
    cases tv with
    | no t ty h => exact ⟨_, rfl, v, .ty "str", _, _, false, rfl, .ty "str", ty, h, _, rfl, iteT (rd_raise rfl (by decide) fun d hd => k d H (Same.refl H) hd)⟩
    | str z =>
      obtain ⟨hz, k⟩ := k
      refine ⟨_, rfl, _, .ty "str", _, _, true, rfl, .ty "str", .base (.str z), kit_ty (by decide +kernel), _, rfl, iteF ?_⟩
      refine ⟨(by decide), fun L hL => ?_⟩
      refine ⟨fun σ H' => ∃ D, σ = [some (.str z), some (.ref L), some (.ref D), none, none, none] ∧ Same H H' ∧ H D = none ∧ D ≠ L ∧ H' L = some (.lst []) ∧ H' D = some (.dK (kvM s0)), ?_, ?_⟩
      · refine fun D hD => ⟨upd_same, [(.inr "+", .non), (.inr "-", .non)], rfl, (by show 2 ≤ 15; decide), ?_⟩
        rw [upd_upd]
        have nDL : D ≠ L := fun e => by rw [e, upd_same] at hD; cases hD
        refine ⟨D, rfl, Same.new (Same.new (Same.refl H) hL) hD, ?_, nDL, by rw [upd_ne nDL.symm, upd_same], by rw [upd_same]; rfl⟩
        rw [upd_ne nDL] at hD
        exact hD
      rintro σ H1 ⟨D, rfl, s1, hD, nDL, hL1, hD1⟩
      have bad : ∀ (i : Nat), ((Txt.split z (Str.ofString " ")).take i).foldlM stepR s0 = none → readS z = none := fun i e => by
        unfold readS parse
        rw [← List.take_append_drop i (Txt.split z (Str.ofString " ")), List.foldlM_append, e]
        rfl
      have raise : readS z = none → ∀ d H', Same H H' → H' d = none → E (.ref CT) (some d) (upd H' d (.xd (fs1 "InvalidText" "at" [.int 0]))) := fun e => by rw [e] at k; exact k
      refine ⟨fun σ H' => ∃ st x3 x4 x5, σ = [some (.str z), some (.ref L), some (.ref D), x3, x4, x5] ∧ readS z = some st ∧ Same H H' ∧ H' L = some (.lst (st.ks.map V.int)) ∧ H' D = some (.dK (kvM st)), ?_, ?_⟩
      · refine ⟨_, rfl, ⟨_, rfl⟩, z, _, rfl, rfl, (by decide), (by rw [sizeLine_eq]; omega), fun W hW => ?_⟩
        have nWL : W ≠ L := fun e => by rw [e, hL1] at hW; cases hW
        have nWD : W ≠ D := fun e => by rw [e, hD1] at hW; cases hW
        have hWn : H W = none := by
          cases e : H W with
          | none => rfl
          | some o => rw [s1 _ _ e] at hW; cases hW
        refine ⟨W, rfl, ⟨_, SqL.of upd_same⟩, for_list (K := K) (a := W) (xs := (Txt.split z (Str.ofString " ")).map V.str) (fun i σ H' => ∃ st x3 x4 x5, σ = [some (.str z), some (.ref L), some (.ref D), x3, x4, x5] ∧ ((Txt.split z (Str.ofString " ")).take i).foldlM stepR s0 = some st ∧ Same H H' ∧ H' L = some (.lst (st.ks.map V.int)) ∧ H' D = some (.dK (kvM st)) ∧ H' W = some (.lst ((Txt.split z (Str.ofString " ")).map V.str)))
          ⟨s0, none, none, none, rfl, rfl, Same.new s1 hW, by rw [upd_ne nWL.symm]; exact hL1, by rw [upd_ne nWD.symm]; exact hD1, upd_same⟩ (fun i σ H' _ h => let ⟨_, _, _, _, _, _, _, _, _, h⟩ := h; SqL.of h) ?_ ?_⟩
        · rintro i v σ H2 hv ⟨st, x3, x4, x5, rfl, est, s2, hL2, hD2, hW2⟩
          obtain ⟨w', hw', rfl⟩ : ∃ w', (Txt.split z (Str.ofString " "))[i]? = some w' ∧ v = .str w' := by
            rw [List.getElem?_map] at hv
            cases e : (Txt.split z (Str.ofString " "))[i]? with
            | none => rw [e] at hv; cases hv
            | some w' => rw [e] at hv; cases hv; exact ⟨w', rfl, rfl⟩
          have next : ((Txt.split z (Str.ofString " ")).take (i + 1)).foldlM stepR s0 = stepR st w' := by
            rw [List.take_add_one, hw', List.foldlM_append, est]
            show ([w'].foldlM stepR st) = _
            rw [List.foldlM_cons]
            cases stepR st w' <;> rfl
          have sok := parse_ok _ _ _ s0_ok est
          have kfew := kset_few sok.ks
          refine ⟨fun σ H' => σ = [some (.str z), some (.ref L), some (.ref D), some (.str w'), some (.str (splitL w'.cps.toList).1), some (mV (splitL w'.cps.toList).2)] ∧ Same H2 H', ?_, ?_⟩
          · refine ⟨_, rfl, w', rfl, by have := split_le (List.mem_of_getElem? hw'); omega, fun t H3 ht s3 h3 => ?_⟩
            exact ⟨t, _, rfl, SqT.of h3, rfl, _, [_], rfl, _, [], rfl, rfl, rfl, s3⟩
          rintro σ H3 ⟨rfl, s3⟩
          have hL3 := s3 _ _ hL2
          have hD3 := s3 _ _ hD2
          have hW3 := s3 _ _ hW2
          have sH := s2.trans s3
          have fail : stepR st w' = none → ∀ d G, Same H G → G d = none → E (.ref CT) (some d) (upd G d (.xd (fs1 "InvalidText" "at" [.int 0]))) := fun e => raise (bad (i + 1) (next.trans e))
          refine ⟨fun σ H' => ∃ k', σ = [some (.str z), some (.ref L), some (.ref D), some (.str w'), some (.str (splitL w'.cps.toList).1), some (.int k')] ∧ (splitL w'.cps.toList).2 = some k' ∧ lastLe st.ks k' = false ∧ H' = H3, ?_, ?_⟩
          · refine ⟨_, rfl, rfl, _, rfl, ite2 (fun a => ?_) (fun a => ?_)⟩
            · have e : (splitL w'.cps.toList).2 = none := by
                have := of_decide_eq_true a
                cases e : (splitL w'.cps.toList).2 with
                | none => rfl
                | some x => rw [e] at this; cases this
              exact rd_raise rfl (by decide) fun d hd => fail (by unfold stepR; rw [e]) d H3 sH hd
            · obtain ⟨k', ek⟩ : ∃ k', (splitL w'.cps.toList).2 = some k' := by
                cases e : (splitL w'.cps.toList).2 with
                | none => exact absurd (decide_eq_true (by rw [e]; rfl)) a
                | some x => exact ⟨x, rfl⟩
              rw [ek]
              refine ⟨_, rfl, _, .inl ⟨_, SqL.of hL3, rfl⟩, ite2 (fun b => ?_) (fun b => ?_)⟩
              · have hn : st.ks ≠ [] := fun q => by rw [q] at b; cases b
                obtain ⟨l, el, lw⟩ : ∃ l, st.ks.dropLast ++ [l] = st.ks ∧ lastLe st.ks k' = decide (k' ≤ l) := ⟨st.ks.getLast hn, List.dropLast_concat_getLast hn, by unfold lastLe; rw [List.getLast?_eq_some_getLast hn]⟩
                refine ⟨_, rfl, _, rfl, _, rfl, L, _, -1, .int l, rfl, rfl, SqL.of hL3, ?_, _, _, rfl, rfl, _, rfl, ite2 (fun c => ?_) (fun c => ?_)⟩
                · have := atI_last (st.ks.dropLast.map V.int) (.int l)
                  rw [← el, List.map_append]
                  exact this
                · exact rd_raise rfl (by decide) fun d hd => fail (by
                    unfold stepR
                    rw [ek]
                    show (if lastLe st.ks k' = true then none else _) = _
                    rw [lw, if_pos c]) d H3 sH hd
                · exact ⟨k', rfl, rfl, by rw [lw]; exact Bool.eq_false_iff.mpr c, rfl⟩
              · have hn : st.ks = [] := by
                  cases e : st.ks with
                  | nil => rfl
                  | cons x y => rw [e] at b; exact absurd rfl b
                exact ⟨k', rfl, rfl, by rw [hn]; rfl, rfl⟩
          rintro σ H4 ⟨k', rfl, ek, hlast, rfl⟩
          have stp : stepR st w' = if (splitL w'.cps.toList).1 = Str.ofString "" then some ⟨st.ks ++ [k'], st.a, st.b⟩
              else if st.a.isSome || st.b.isSome then none
              else if (splitL w'.cps.toList).1 = chr1 43 then some ⟨st.ks ++ [k'], some k', st.b⟩ else some ⟨st.ks ++ [k'], st.a, some k'⟩ := by
            unfold stepR
            rw [ek]
            show (if lastLe st.ks k' = true then none else _) = _
            rw [hlast]
            rfl
          refine ⟨_, rfl, .inl ⟨rfl, _, SqL.of hL3⟩, _, rfl, L, _, _, rfl, rfl, hL3, by rw [List.length_map, sizeLine_eq]; omega, ?_⟩
          have hL4 : upd H4 L (.lst (st.ks.map V.int ++ [.int k'])) L = some (.lst ((st.ks ++ [k']).map V.int)) := by rw [upd_same, List.map_append]; rfl
          have hD4 : upd H4 L (.lst (st.ks.map V.int ++ [.int k'])) D = some (.dK (kvM st)) := by rw [upd_ne nDL]; exact hD3
          have hW4 : upd H4 L (.lst (st.ks.map V.int ++ [.int k'])) W = some (.lst ((Txt.split z (Str.ofString " ")).map V.str)) := by rw [upd_ne nWL]; exact hW3
          have sH4 : Same H (upd H4 L (.lst (st.ks.map V.int ++ [.int k']))) := fun a o e => by
            rw [upd_ne (ne_of_none e hL)]
            exact sH _ _ e
          generalize upd H4 L (.lst (st.ks.map V.int ++ [.int k'])) = G at hL4 hD4 hW4 sH4 ⊢
          refine ⟨_, rfl, rfl, _, rfl, ite2 (fun a => ?_) (fun a => ?_)⟩
          · have hne : (splitL w'.cps.toList).1 ≠ Str.ofString "" := fun q => by rw [q] at a; simp at a
            rw [if_neg hne] at stp
            refine ⟨fun σ H' => σ = [some (.str z), some (.ref L), some (.ref D), some (.str w'), some (.str (splitL w'.cps.toList).1), some (.int k')] ∧ st.a = none ∧ st.b = none ∧ H' = G, ?_, ?_⟩
            · refine ⟨_, rfl, D, _, rfl, DGet.k hD4 |> fun x => by rw [valM_a] at x; exact x, rfl, _, rfl, ite2 (fun b => ?_) (fun b => ?_)⟩
              · exact rd_raise rfl (by decide) fun d hd => fail (by
                  rw [stp, if_pos]
                  cases e : st.a with
                  | none => rw [e] at b; simp [mV] at b
                  | some x => rfl) d G sH4 hd
              · refine ⟨_, rfl, D, _, rfl, DGet.k hD4 |> fun x => by rw [valM_b] at x; exact x, rfl, _, rfl, ite2 (fun c => ?_) (fun c => ?_)⟩
                · exact rd_raise rfl (by decide) fun d hd => fail (by
                    rw [stp, if_pos]
                    cases e : st.b with
                    | none => rw [e] at c; simp [mV] at c
                    | some x => cases st.a <;> rfl) d G sH4 hd
                · refine ⟨rfl, ?_, ?_, rfl⟩
                  · cases e : st.a with
                    | none => rfl
                    | some x => rw [e] at b; simp [mV] at b
                  · cases e : st.b with
                    | none => rfl
                    | some x => rw [e] at c; simp [mV] at c
            rintro σ G' ⟨rfl, ea, eb, rfl⟩
            rw [ea, eb] at stp
            have fin : ∀ st', stepR st w' = some st' → st'.ks = st.ks ++ [k'] → putK (kvM st) (.inr (splitL w'.cps.toList).1) (.int k') = kvM st' → ∃ st3 x3 x4 x5, [some (V.str z), some (.ref L), some (.ref D), some (.str w'), some (.str (splitL w'.cps.toList).1), some (.int k')] = [some (.str z), some (.ref L), some (.ref D), x3, x4, x5] ∧
                ((Txt.split z (Str.ofString " ")).take (i + 1)).foldlM stepR s0 = some st3 ∧ Same H (upd G' D (.dK (putK (kvM st) (.inr (splitL w'.cps.toList).1) (.int k')))) ∧ upd G' D (.dK (putK (kvM st) (.inr (splitL w'.cps.toList).1) (.int k'))) L = some (.lst (st3.ks.map V.int)) ∧
                upd G' D (.dK (putK (kvM st) (.inr (splitL w'.cps.toList).1) (.int k'))) D = some (.dK (kvM st3)) ∧ upd G' D (.dK (putK (kvM st) (.inr (splitL w'.cps.toList).1) (.int k'))) W = some (.lst ((Txt.split z (Str.ofString " ")).map V.str)) := fun st' e1 e2 e3 =>
              ⟨st', _, _, _, rfl, next.trans e1, fun a o e => by rw [upd_ne (ne_of_none e hD)]; exact sH4 _ _ e, by rw [upd_ne nDL.symm, e2]; exact hL4, by rw [upd_same, e3], by rw [upd_ne nWD]; exact hW4⟩
            refine ⟨_, rfl, _, rfl, _, rfl, D, _, rfl, DPut.k (k := .inr (splitL w'.cps.toList).1) hD4 (by show 2 < sizeLine; decide), ?_⟩
            rcases split_sg w'.cps.toList with q | q | q
            · exact absurd q hne
            · have stp' : stepR st w' = some ⟨st.ks ++ [k'], some k', none⟩ := by rw [stp, q]; rfl
              exact fin _ stp' rfl (by rw [q, putM_a, eb]; rfl)
            · have stp' : stepR st w' = some ⟨st.ks ++ [k'], none, some k'⟩ := by
                rw [stp, q]
                have : ¬ (Str.ofString "-") = chr1 43 := by decide
                simp [this]
              exact fin _ stp' rfl (by rw [q, putM_b, ea]; rfl)
          · have he : (splitL w'.cps.toList).1 = Str.ofString "" := by
              cases q : decide ((splitL w'.cps.toList).1 = Str.ofString "") with
              | true => exact of_decide_eq_true q
              | false => exact absurd (by simpa using of_decide_eq_false q) a
            rw [if_pos he] at stp
            exact ⟨_, _, _, _, rfl, next.trans stp, sH4, hL4, hD4, hW4⟩
        · rintro σ H2 ⟨st, x3, x4, x5, rfl, est, s2, hL2, hD2, hW2⟩
          rw [List.length_map, List.take_length] at est
          exact ⟨st, x3, x4, x5, rfl, est, s2, hL2, hD2⟩
      rintro σ H2 ⟨st, x3, x4, x5, rfl, est, s2, hL2, hD2⟩
      rw [est] at k
      have lot := read_lot est
      refine ⟨_, rfl, L, _, rfl, .inl ⟨SqL.of hL2, fun t ht => ?_⟩⟩
      have hD3 : upd H2 t (.tup (st.ks.map V.int)) D = some (.dK (kvM st)) := by rw [upd_ne (ne_of_none hD2 ht)]; exact hD2
      refine ⟨_, rfl, D, _, rfl, DGet.k hD3 |> fun x => by rw [valM_a] at x; exact x, _, rfl, D, _, rfl, DGet.k hD3 |> fun x => by rw [valM_b] at x; exact x, rfl, rfl, fun x dx hx hdx ne => ?_⟩
      have s3 : Same H (upd H2 t (.tup (st.ks.map V.int))) := Same.new s2 ht
      have hq : SqT K (upd H2 t (.tup (st.ks.map V.int))) t (st.ks.map V.int) := SqT.of upd_same
      exact row_new hx hdx ne hq lot fun H' s' ra => k x t H' (s3.trans s') ra (sqT_same s' hq) lot
end
end K03

end

section
set_option Elab.async false
set_option linter.all false
set_option maxRecDepth 100000
set_option maxHeartbeats 8000000
/-! what reading must give, by the law. -/
namespace K03
open PySem L2 SB
def isB : Str → Bool := fun _ => true
/-- the figures of a word -/
def figL : List Nat → List Nat
  | c :: r => if isSg c then r else c :: r
  | [] => []
theorem split_fig (l : List Nat) : (splitL l).2 = keyL (figL l) := by
  cases l with
  | nil => rfl
  | cons c r =>
    show _ = keyL (if isSg c then r else c :: r)
    cases h : isSg c with
    | true => rw [split_yes h]; rfl
    | false => rw [split_no h]; rfl
theorem cutS_take1 (z : Str) : (cutS z none (some 1)).cps.toList = z.cps.toList.take 1 := by
  unfold cutS
  have e : HT.sIx z.length z.length (some 1) = min 1 z.length := HT.sIx_nat _ _ 1
  have hl : z.cps.toList.length = z.length := Array.length_toList
  rw [HT.sIx_none, e, Nat.sub_zero, List.drop_zero]
  show z.cps.toList.take (min 1 z.length) = _
  rw [← hl, ← List.take_eq_take_min]
theorem str_of {z : Str} {l : List Nat} (h : z.cps.toList = l) : z = ⟨l.toArray⟩ := by
  obtain ⟨⟨a⟩⟩ := z
  have h : a = l := h
  rw [h]
theorem parts_sub {x : Str} {cuts : List Nat} {n : Nat} {w : Str} (h : w ∈ Builtin.Str.partsBetween x cuts n) : ∀ c ∈ w.cps.toList, c ∈ x.cps.toList := by
  unfold Builtin.Str.partsBetween at h
  obtain ⟨⟨i, j⟩, _, rfl⟩ := List.mem_map.mp h
  intro c hc
  have hc : c ∈ (x.cps.toList.drop i).take (j - i) := by simpa [Builtin.Str.strSub] using hc
  exact List.mem_of_mem_drop (List.mem_of_mem_take hc)
theorem split_sub {x y w : Str} (h : w ∈ Txt.split x y) : ∀ c ∈ w.cps.toList, c ∈ x.cps.toList := by
  unfold Txt.split at h
  split at h
  · obtain rfl : w = x := by simpa using h
    exact fun c h => h
  · split at h
    · obtain rfl : w = x := by simpa using h
      exact fun c h => h
    · exact parts_sub h
abbrev rNinS : R2 := fun x y H Q => ∃ i j, x = .str i ∧ y = .str j ∧ Q (.bl (!(!(Builtin.Str.occurrences j i 0 j.length 1).isEmpty))) H
/-- what must be told of a text -/
def DueR (H : Hp) (a : Addr) : Option RS → Prop
  | none => H a = some (.tup [.str "InvalidText", .int 0])
  | some st => ∃ q, H a = some (.tup [.str "made", .ref q, mV st.a, mV st.b]) ∧ H q = some (.tup (st.ks.map V.int))
def readT : Option Str → Option RS
  | none => none
  | some z => readS z
def spDueR (K : PySem.W.Frag) : Sp := fun vs H Q _ => ∃ v t, vs = [v] ∧ TV K H v t ∧ (∀ z, t = some z → Sm 90000 z) ∧ ∀ a H', Same H H' → DueR H' a (readT t) → Q (.ref a) H'
def sgHead : List Nat → Bool
  | c :: _ => isSg c
  | [] => false
theorem fig_yes {l : List Nat} (h : sgHead l = true) : figL l = l.drop 1 := by
  cases l with
  | nil => cases h
  | cons c r =>
    show (if isSg c then r else c :: r) = r
    rw [if_pos (show isSg c = true from h)]
theorem fig_no {l : List Nat} (h : sgHead l = false) : figL l = l := by
  cases l with
  | nil => rfl
  | cons c r =>
    have h : isSg c = false := h
    show (if isSg c then r else c :: r) = c :: r
    rw [h]; rfl
theorem in_sg (w : Str) : inV (V.str (cutS w none (some 1))) [.str (Str.ofString "+"), .str (Str.ofString "-")] = sgHead w.cps.toList := by
  have h := cutS_take1 w
  cases e : w.cps.toList with
  | nil =>
    rw [e] at h
    rw [str_of h]
    decide
  | cons c r =>
    rw [e] at h
    rw [str_of h]
    have one : ∀ d : Nat, ((chr1 d : Str) == (⟨([c] : List Nat).toArray⟩ : Str)) = decide (c = d) := fun d => by
      by_cases q : c = d
      · rw [decide_eq_true q, q]
        exact beq_self_eq_true _
      · rw [decide_eq_false q]
        exact Bool.eq_false_iff.mpr fun h => q (by
          have := beq_iff_eq.mp h
          injection this with this
          have := congrArg Array.toList this
          simpa using this.symm)
    show (((Str.ofString "+") == (⟨([c] : List Nat).toArray⟩ : Str)) || (((Str.ofString "-") == (⟨([c] : List Nat).toArray⟩ : Str)) || false)) = isSg c
    rw [show (Str.ofString "+") = chr1 43 by decide, show (Str.ofString "-") = chr1 45 by decide, one, one, Bool.or_false]
    rfl
theorem dpAll_strs : ∀ {K : PySem.W.Frag} {H : Hp} (zs : List Str), DpAll K H (zs.map V.str) (zs.map PyData.str)
  | _, _, [] => .nil
  | _, _, z :: zs => .cons (.str z) (dpAll_strs zs)
theorem canAll_strs : ∀ zs : List Str, (∀ z ∈ zs, PyData.strOk z = true) → PyData.canLayAll0 (zs.map PyData.str) = true
  | [], _ => by simp [PyData.canLayAll0]
  | z :: zs, h => by
    rw [List.map_cons]
    simp [PyData.canLayAll0, PyData.canLay0, h z List.mem_cons_self, canAll_strs zs fun y hy => h y (List.mem_cons_of_mem _ hy)]
theorem depthAll_strs : ∀ zs : List Str, PyData.depthAll (zs.map PyData.str) = 0
  | [] => by simp [PyData.depthAll]
  | z :: zs => by
    rw [List.map_cons]
    simp [PyData.depthAll, PyData.depth, depthAll_strs zs]
theorem shaped_strs (zs : List Str) (h : ∀ z ∈ zs, PyData.strOk z = true) : SeqAt.shaped (.list (zs.map PyData.str)) = true := by
  unfold SeqAt.shaped
  simp [PyData.canLay0, PyData.depth, canAll_strs zs h, depthAll_strs]
theorem shaped_lst (zs : List Int) : SeqAt.shaped (.list (zs.map PyData.int)) = true := by
  unfold SeqAt.shaped
  simp [PyData.canLay0, PyData.depth, canAll_ints zs, depthAll_ints]
def dO : Option Int → PyData
  | none => .none
  | some i => .int i
theorem dp_mV {K : PySem.W.Frag} {H : Hp} : ∀ a : Option Int, Dp K H (mV a) (dO a)
  | none => .non
  | some i => .int i
theorem shaped_dO (a b : Option Int) : SeqAt.shaped (.list [dO a, dO b]) = true := by
  cases a <;> cases b <;> simp [SeqAt.shaped, dO, PyData.canLay0, PyData.canLayAll0, PyData.depth, PyData.depthAll]
section
variable {P : Program} {w : World} {K : PySem.W.Frag} {mg : Str → Option Value} {base : Heap}
theorem ok_rdue {f : Addr} {fd : FuncData} (F : Fun K "_law_read_due" "_law_read_due" s_l_read_due f fd) (gIsi : mg "isinstance" = none) (gStr : mg "str" = none) (gLen : mg "len" = none) (gInt : mg "int" = none) (gTup : mg "tuple" = none) :
    FnOk P w K mg base CX0 1 f fd ["_law_v"] (spDueR K) := by
  refine F.ok sc_l_read_due (fun vs H Q E h => ?_) (fun cdv A outer s H vs Q E hr h => ?_)
  · obtain ⟨v, t, rfl, _⟩ := h
    rfl
  · obtain ⟨v, t, rfl, tv, sm, k⟩ := h
    have nd := sc_l_read_due.nd
    have hu : (A.deeper (PyProof.Rows.envOfC "_law_read_due" (defScope s_l_read_due) s.heap.objs.size f cdv)).units + 64 < cLine := hr.units
    refine ⟨_, pss_cons (ps_if (pt_not (pt_val (pe_callB call_isi (by rfl) gIsi (by decide +kernel) (pa_cons (pv 0) (pa_cons (pe_bltn (v := .ty "str") (by rfl) gStr (by decide +kernel) rfl) pa_nil))))) (pss_one (ps_ret (pe_tup (pa_cons pe_str (pa_cons pe_int pa_nil))))) pss_nil) (pss_cut (ps_par (i := 1) (j := 2) rfl nd rfl rfl (by decide) rfl rfl (pa_cons (pe_lst pa_nil) (pa_cons (pe_lst (pa_cons pe_non (pa_cons pe_non pa_nil))) pa_nil)) rfl) (pss_cut (ps_for PassesOwn.never rfl (pi_list (pe_split (pv 0) pe_str)) (pg_name (i := 3) nd rfl (Or.inl rfl)) (pss_cut (ps_set (i := 4) nd rfl (Or.inl rfl) (pe_ifExp (pt_cmpR op_in_seq (pe_slice sl_str (pv 3) po_none (po_some pe_int)) (pe_lst (pa_cons pe_str (pa_cons pe_str pa_nil))) (by rfl)) (pe_slice sl_str (pv 3) (po_some pe_int) po_none) (pv 3))) (pss_cut (ps_if (PW.pt (pw_or (pt_cmpR op_eq (pv 4) pe_str (nomark _)) (pw_or (pt_cmpR op_gt (pe_callB call_len_str (by rfl) gLen PySem.boot_len (pa_cons (pv 4) pa_nil)) pe_int (nomark _)) (pw_or1 (pt_cmpR (op_neD hu) (pe_lc (own := [("_law_c", 5)]) (g := gName 5) (tt := tTest (tOp rNinS (tVar 5) (tC (.str DIG)))) (te := tVar 5) rfl nd (pi_str (pv 4)) (blkOk_by (N := N_l_read_due) (sc := defScope s_l_read_due) (by decide +kernel)) (fun _ _ _ _ _ => pg_name (i := 5) nd rfl (Or.inl rfl)) (fun _ _ _ _ _ => pts_one (pt_cmpR op_notin_str (pv 5) pe_str (by rfl))) (fun _ _ _ _ _ => pv 5)) (pe_lst pa_nil) (nomark _)))))) (pss_one (ps_ret (pe_tup (pa_cons pe_str (pa_cons pe_int pa_nil))))) pss_nil) (pss_cut (ps_if (PW.pt (pw_or (PW.pt (pw_and (pt_cmpR op_eq (pe_ix ix_str (pv 4) pe_int (fun _ _ => rfl)) pe_str (nomark _)) (pw_and1 (pt_cmpR op_ne (pv 4) pe_str (nomark _))))) (pw_or1 (PW.pt (pw_and (pt_cmpR (op_neD hu) (pv 1) (pe_lst pa_nil) (nomark _)) (pw_and1 (pt_cmpR op_le (pe_callTy call_int_str (by rfl) gInt (by decide +kernel) (pa_cons (pv 4) pa_nil)) (pe_ix ix_list (pv 1) (pe_un un_neg pe_int) (fun _ _ => rfl)) (nomark _)))))))) (pss_one (ps_ret (pe_tup (pa_cons pe_str (pa_cons pe_int pa_nil))))) pss_nil) (pss_cut (ps_expr (pe_bm PySem.F.plainAttrs_list PySem.F.slot_list_append PySem.F.type_list_append mt_append (pv 1) (pa_cons (pe_callTy call_int_str (by rfl) gInt (by decide +kernel) (pa_cons (pv 4) pa_nil)) pa_nil))) (pss_one (ps_if (pt_cmpR op_ne (pv 3) (pv 4) (nomark _)) (pss_cut (ps_if (pt_cmpR (op_neD hu) (pv 2) (pe_lst (pa_cons pe_non (pa_cons pe_non pa_nil))) (nomark _)) (pss_one (ps_ret (pe_tup (pa_cons pe_str (pa_cons pe_int pa_nil))))) pss_nil) (pss_one (ps_asg (pe_callTy call_int_str (by rfl) gInt (by decide +kernel) (pa_cons (pv 4) pa_nil)) (pg_sub (pv 2) (pe_ifExp (pt_cmpR op_eq (pe_ix ix_str (pv 3) pe_int (fun _ _ => rfl)) pe_str (nomark _)) pe_int pe_int) set_list)))) pss_nil))))))) (pss_one (ps_ret (pe_tup (pa_cons pe_str (pa_cons (pe_callTy call_tuple_of (by rfl) gTup (by decide +kernel) (pa_cons (pv 1) pa_nil)) (pa_cons (pe_ix ix_list (pv 2) pe_int (fun _ _ => rfl)) (pa_cons (pe_ix ix_list (pv 2) pe_int (fun _ _ => rfl)) pa_nil))))))))), ?_⟩
    cases tv with
    | no t ty h => exact ⟨_, rfl, v, .ty "str", _, _, false, rfl, .ty "str", ty, h, _, rfl, iteT ⟨(by show 2 ≤ sizeLine; decide), fun a ha => k a _ (Same.new (Same.refl H) ha) upd_same⟩⟩
    | str z =>
      have hz := sm z rfl
      have hz0 := hz.1
      refine ⟨_, rfl, _, .ty "str", _, _, true, rfl, .ty "str", .base (.str z), kit_ty (by decide +kernel), _, rfl, iteF ?_⟩
      have k : ∀ a H', Same H H' → DueR H' a (readS z) → Q (.ref a) H' := k
      refine ⟨fun σ H' => ∃ L M, σ = [some (.str z), some (.ref L), some (.ref M), none, none, none] ∧ Same H H' ∧ H L = none ∧ H M = none ∧ L ≠ M ∧ H' L = some (.lst []) ∧ H' M = some (.lst [.non, .non]), ?_, ?_⟩
      · refine ⟨(by decide), fun L hL => ⟨(by show 2 ≤ sizeLine; decide), fun M hM => ⟨_, _, rfl, L, M, rfl, Same.new (Same.new (Same.refl H) hL) hM, hL, ?_, ?_, ?_, upd_same⟩⟩⟩
        · have nn : M ≠ L := fun e => by rw [e, upd_same] at hM; cases hM
          rw [upd_ne nn] at hM
          exact hM
        · exact fun e => by rw [← e, upd_same] at hM; cases hM
        · have nn : L ≠ M := fun e => by rw [← e, upd_same] at hM; cases hM
          rw [upd_ne nn, upd_same]
      rintro σ H1 ⟨L, M, rfl, s1, hL, hM, nLM, hL1, hM1⟩
      have bad : ∀ (i : Nat), ((Txt.split z (Str.ofString " ")).take i).foldlM stepR s0 = none → readS z = none := fun i e => by
        unfold readS parse
        rw [← List.take_append_drop i (Txt.split z (Str.ofString " ")), List.foldlM_append, e]
        rfl
      have tell : readS z = none → ∀ G, Same H G → [V.str "InvalidText", V.int 0].length ≤ sizeLine ∧ ∀ a, G a = none → Q (.ref a) (upd G a (.tup [.str "InvalidText", .int 0])) := fun e G sG =>
        ⟨(by show 2 ≤ sizeLine; decide), fun a ha => k a _ (Same.new sG ha) (by rw [e]; exact upd_same)⟩
      refine ⟨fun σ H' => ∃ st x3 x4 x5, σ = [some (.str z), some (.ref L), some (.ref M), x3, x4, x5] ∧ readS z = some st ∧ Same H H' ∧ H' L = some (.lst (st.ks.map V.int)) ∧ H' M = some (.lst [mV st.a, mV st.b]), ?_, ?_⟩
      · refine ⟨_, rfl, ⟨_, rfl⟩, z, _, rfl, rfl, (by decide), (by rw [sizeLine_eq]; omega), fun W hW => ?_⟩
        have nWL : W ≠ L := fun e => by rw [e, hL1] at hW; cases hW
        have nWM : W ≠ M := fun e => by rw [e, hM1] at hW; cases hW
        refine ⟨W, rfl, ⟨_, SqL.of upd_same⟩, for_list (K := K) (a := W) (xs := (Txt.split z (Str.ofString " ")).map V.str) (fun i σ H' => ∃ st x3 x4 x5, σ = [some (.str z), some (.ref L), some (.ref M), x3, x4, x5] ∧ ((Txt.split z (Str.ofString " ")).take i).foldlM stepR s0 = some st ∧ Same H H' ∧ H' L = some (.lst (st.ks.map V.int)) ∧ H' M = some (.lst [mV st.a, mV st.b]) ∧ H' W = some (.lst ((Txt.split z (Str.ofString " ")).map V.str)))
          ⟨s0, none, none, none, rfl, rfl, Same.new s1 hW, by rw [upd_ne nWL.symm]; exact hL1, by rw [upd_ne nWM.symm]; exact hM1, upd_same⟩ (fun i σ H' _ h => let ⟨_, _, _, _, _, _, _, _, _, h⟩ := h; SqL.of h) ?_ ?_⟩
        · rintro i v σ H2 hv ⟨st, x3, x4, x5, rfl, est, s2, hL2, hM2, hW2⟩
          obtain ⟨w', hw', rfl⟩ : ∃ w', (Txt.split z (Str.ofString " "))[i]? = some w' ∧ v = .str w' := by
            rw [List.getElem?_map] at hv
            cases e : (Txt.split z (Str.ofString " "))[i]? with
            | none => rw [e] at hv; cases hv
            | some w' => rw [e] at hv; cases hv; exact ⟨w', rfl, rfl⟩
          have next : ((Txt.split z (Str.ofString " ")).take (i + 1)).foldlM stepR s0 = stepR st w' := by
            rw [List.take_add_one, hw', List.foldlM_append, est]
            show ([w'].foldlM stepR st) = _
            rw [List.foldlM_cons]
            cases stepR st w' <;> rfl
          have sok := parse_ok _ _ _ s0_ok est
          have kfew := kset_few sok.ks
          have wle : w'.length ≤ 90000 := by have := split_le (List.mem_of_getElem? hw'); omega
          have wch : ∀ c ∈ w'.cps.toList, c < 1114112 := fun c hc => hz.2 c (split_sub (List.mem_of_getElem? hw') c hc)
          have wsz : w'.cps.toList.length = w'.length := Array.length_toList
          refine ⟨fun σ H' => ∃ fz : Str, σ = [some (.str z), some (.ref L), some (.ref M), some (.str w'), some (.str fz), x5] ∧ fz.cps.toList = figL w'.cps.toList ∧ Same H2 H', ?_, ?_⟩
          · refine ⟨_, rfl, 1, rfl, w', rfl, (by rw [sizeLine_eq]; omega), (by show 2 ≤ sizeLine; decide), fun q hq => ⟨q, _, rfl, .inl (SqL.of upd_same), rfl, rfl, _, rfl, ite2 (fun a => ?_) (fun a => ?_)⟩⟩
            · have a' : sgHead w'.cps.toList = true := by rw [← in_sg]; exact a
              exact ⟨_, rfl, 1, rfl, rd_no ⟨w', rfl, (by rw [sizeLine_eq]; omega), _, rfl, by rw [cutS_drop1, fig_yes a'], Same.new (Same.refl H2) hq⟩⟩
            · have a' : sgHead w'.cps.toList = false := by rw [← in_sg]; exact Bool.eq_false_iff.mpr a
              exact ⟨_, rfl, w', rfl, by rw [fig_no a'], Same.new (Same.refl H2) hq⟩
          rintro σ H3 ⟨fz, rfl, hfz, s3⟩
          have fsz : fz.cps.toList.length = fz.length := Array.length_toList
          have fle : fz.length ≤ 90000 := by
            rw [← fsz, hfz]
            cases e : sgHead w'.cps.toList with
            | true => rw [fig_yes e, List.length_drop]; omega
            | false => rw [fig_no e]; omega
          have fch : ∀ c ∈ fz.cps.toList, c < 1114112 := fun c hc => wch c (by
            rw [hfz] at hc
            cases e : sgHead w'.cps.toList with
            | true => rw [fig_yes e] at hc; exact List.mem_of_mem_drop hc
            | false => rw [fig_no e] at hc; exact hc)
          have kf : (splitL w'.cps.toList).2 = keyL fz.cps.toList := by rw [split_fig, hfz]
          have sH3 := s2.trans s3
          have none1 : keyL fz.cps.toList = none → readS z = none := fun e => bad (i + 1) (next.trans (by unfold stepR; rw [kf, e]))
          refine ⟨fun σ H' => ∃ y5, σ = [some (.str z), some (.ref L), some (.ref M), some (.str w'), some (.str fz), y5] ∧ Same H3 H' ∧ 1 ≤ fz.length ∧ fz.length ≤ 3 ∧ fz.cps.toList.all digC = true, ?_, ?_⟩
          · refine ⟨_, rfl, rfl, _, rfl, ite2 (fun a => ?_) (fun a => ?_)⟩
            · have a' : fz = Str.ofString "" := V.str.inj (of_decide_eq_true a)
              exact tell (none1 (keyL_no fun c => by have := c.1; rw [a'] at this; cases this)) H3 sH3
            have p1 : 1 ≤ fz.length := by
              have : fz.length ≠ 0 := fun e => a (decide_eq_true (congrArg V.str (by
                have h0 : fz.cps.toList = [] := List.eq_nil_of_length_eq_zero (by omega)
                rw [str_of h0]; rfl)))
              omega
            refine ⟨_, rfl, fz, rfl, (by rw [sizeLine_eq]; omega), _, _, rfl, rfl, _, rfl, ite2 (fun b => ?_) (fun b => ?_)⟩
            · exact tell (none1 (keyL_no fun c => by have := of_decide_eq_true b; have := c.2.1; omega)) H3 sH3
            have p2 : fz.length ≤ 3 := by
              have : ¬ ((fz.length : Int) > 3) := fun q => b (decide_eq_true q)
              omega
            refine ⟨_, rfl, fz, rfl, fun D hD => lc_walk (J := Its fz) (n := fz.cps.size) (fun i H' => Same H3 H' ∧ H' D = some (.lst (((fz.cps.toList.take i).filter fun c => !digC c).map fun c => V.str (chr1 c)))) ⟨Same.new (Same.refl H3) hD, upd_same⟩ (fun i H' hi _ => hi) (fun H' _ => Nat.le_refl _) (fun i x G1 H' hi p y => ?_) (fun H' p => ?_)⟩
            · obtain ⟨t1, hd⟩ := p
              obtain ⟨rfl, c', hc', rfl⟩ := y
              have hat := cps_at hc'
              refine ⟨rfl, _, rfl, _, _, rfl, rfl, _, rfl, ?_⟩
              rw [dig_in]
              cases e : digC c' with
              | true =>
                refine iteF ⟨t1, ?_⟩
                rw [List.take_add_one, hat, List.filter_append]
                show H' D = some (.lst ((_ ++ [c'].filter _).map _))
                rw [show [c'].filter (fun c => !digC c) = [] by simp [e], List.append_nil]
                exact hd
              | false =>
                refine iteT ⟨_, rfl, _, hd, ?_, (fun a o e => ?_), ?_⟩
                · have := List.length_filter_le (fun c => !digC c) (fz.cps.toList.take i)
                  have h3 : (fz.cps.toList.take i).length ≤ fz.cps.toList.length := by rw [List.length_take]; omega
                  rw [List.length_map, sizeLine_eq]; omega
                · rw [upd_ne (ne_of_none e hD)]; exact t1 _ _ e
                · rw [upd_same, List.take_add_one, hat, List.filter_append, List.map_append]
                  show _ = some (HO.lst (_ ++ ([c'].filter _).map _))
                  rw [show [c'].filter (fun c => !digC c) = [c'] by simp [e]]
                  rfl
            · obtain ⟨t1, hd⟩ := p
              rw [List.take_of_length_le (by rw [Array.length_toList]; exact Nat.le_refl _)] at hd
              refine ⟨(by decide), fun De hDe => ?_⟩
              have hd' := Same.new (Same.refl H') (o := .lst []) hDe _ _ hd
              have t2 := Same.new t1 (o := .lst []) hDe
              have hS : ∀ c ∈ fz.cps.toList.filter (fun c => !digC c), c < 1114112 := fun c hc => fch c (List.mem_filter.mp hc).1
              have hall : (fz.cps.toList.all digC) = (fz.cps.toList.filter fun c => !digC c).isEmpty := by
                generalize fz.cps.toList = l
                induction l with
                | nil => rfl
                | cons a l ih =>
                  rw [List.all_cons, List.filter_cons, ih]
                  cases digC a <;> rfl
              generalize fz.cps.toList.filter (fun c => !digC c) = S at hd' hS hall
              refine ⟨.list ((S.map chr1).map .str), .list [], .lst (xs := (S.map chr1).map V.str) (SqL.of (by rw [List.map_map]; exact hd')) (dpAll_strs (S.map chr1)), .lst (SqL.of upd_same) .nil, ?_, ?_, _, rfl, ?_⟩
              · refine shaped_strs _ fun y hy => ?_
                obtain ⟨c, hc, rfl⟩ := List.mem_map.mp hy
                have := hS c hc
                simp only [PyData.strOk]
                simpa using this
              · exact shaped_strs [] (fun y h => by cases h)
              · cases S with
                | nil => exact iteF ⟨_, rfl, t2, p1, p2, hall⟩
                | cons a S => exact iteT (tell (none1 (keyL_no fun c => by have := c.2.2.1; rw [hall] at this; cases this)) _ (sH3.trans t2))
          rintro σ H4 ⟨y5, rfl, s4, f1, f3, fd'⟩
          have hL4 := s4 _ _ (s3 _ _ hL2)
          have hM4 := s4 _ _ (s3 _ _ hM2)
          have hW4 := s4 _ _ (s3 _ _ hW2)
          have sH4 := sH3.trans s4
          have fne : fz.cps.toList ≠ [] := fun e => by rw [e] at fsz; simp at fsz; omega
          obtain ⟨c, r, hl⟩ : ∃ c r, fz.cps.toList = c :: r := by
            cases e : fz.cps.toList with
            | nil => exact absurd e fne
            | cons c r => exact ⟨c, r, rfl⟩
          have e48 : (Str.ofString "0") = chr1 48 := by decide
          have nl2 : ¬ decide (V.str (chr1 c) = V.str (Str.ofString "0")) = true → lead0 fz.cps.toList = false := fun a => by
            unfold lead0
            rw [hl]
            have : c ≠ 48 := fun q => a (by rw [e48, chr_eq]; exact decide_eq_true q)
            simp [this]
          have nl1 : ¬ (!decide (V.str fz = V.str (Str.ofString "0"))) = true → lead0 fz.cps.toList = false := fun b => by
            have e : fz = Str.ofString "0" := by
              cases q : decide (V.str fz = V.str (Str.ofString "0")) with
              | true => exact V.str.inj (of_decide_eq_true q)
              | false => rw [q] at b; exact absurd rfl b
            rw [e]; decide
          have yl : decide (V.str (chr1 c) = V.str (Str.ofString "0")) = true → (!decide (V.str fz = V.str (Str.ofString "0"))) = true → lead0 fz.cps.toList = true := fun a b => by
            have a' : c = 48 := by rw [e48, chr_eq] at a; exact of_decide_eq_true a
            have b' : r ≠ [] := fun q => by
              rw [q, a'] at hl
              rw [str_of hl] at b
              have : decide (V.str (⟨([48] : List Nat).toArray⟩ : Str) = V.str (Str.ofString "0")) = true := by decide
              rw [this] at b
              cases b
            unfold lead0
            rw [hl, a']
            cases r with
            | nil => exact absurd rfl b'
            | cons x y => simp
          refine ⟨fun σ H' => σ = [some (.str z), some (.ref L), some (.ref M), some (.str w'), some (.str fz), y5] ∧ Same H4 H' ∧ lead0 fz.cps.toList = false ∧ lastLe st.ks ((NumText.digitsVal fz.cps.toList : Nat) : Int) = false, ?_, ?_⟩
          · refine ⟨_, rfl, fz, 0, c, rfl, rfl, (by rw [sizeLine_eq]; omega), (by rw [hl]; exact at_ofN rfl), rfl, _, rfl, ite2 (fun a => ⟨_, rfl, rfl, _, rfl, ite2 (fun b => ?x) (fun b => ?t1)⟩) (fun a => ?t2)⟩
            case x => exact tell (none1 (keyL_no fun q => by have := q.2.2.2; rw [yl a b] at this; cases this)) H4 sH4
            all_goals
              have nl : lead0 fz.cps.toList = false := by first | exact nl1 b | exact nl2 a
              have hk : keyL fz.cps.toList = some ((NumText.digitsVal fz.cps.toList : Nat) : Int) := keyL_yes (by omega) (by omega) fd' nl
              have hint := int_dig fd' fne f3
              refine ⟨_, rfl, (by decide), fun De hDe => ?_⟩
              have hL5 := Same.new (Same.refl H4) (o := .lst []) hDe _ _ hL4
              refine ⟨.list (st.ks.map .int), .list [], .lst (SqL.of hL5) (dpAll_ints st.ks), .lst (SqL.of upd_same) .nil, shaped_lst st.ks, shaped_lst [], _, rfl, ite2 (fun p => ?_) (fun p => ?_)⟩
              · have hn : st.ks ≠ [] := fun q => by rw [q] at p; simp [PyData.eqv, PyData.eqvAll] at p
                obtain ⟨l, el, lw⟩ : ∃ l, st.ks.dropLast ++ [l] = st.ks ∧ ∀ x, lastLe st.ks x = decide (x ≤ l) := ⟨st.ks.getLast hn, List.dropLast_concat_getLast hn, fun x => by unfold lastLe; rw [List.getLast?_eq_some_getLast hn]⟩
                refine ⟨_, rfl, fz, _, rfl, hint, by omega, _, rfl, _, rfl, L, _, -1, .int l, rfl, rfl, SqL.of hL5, ?_, _, _, rfl, rfl, _, rfl, ite2 (fun d => ?_) (fun d => ?_)⟩
                · have := atI_last (st.ks.dropLast.map V.int) (.int l)
                  rw [← el, List.map_append]
                  exact this
                · refine tell (bad (i + 1) (next.trans ?_)) _ (sH4.trans (Same.new (Same.refl H4) hDe))
                  unfold stepR
                  rw [kf, hk]
                  show (if lastLe st.ks _ = true then none else _) = _
                  rw [lw, if_pos d]
                · exact ⟨rfl, Same.new (Same.refl H4) hDe, nl, by rw [lw]; exact Bool.eq_false_iff.mpr d⟩
              · have hn : st.ks = [] := by
                  cases e : st.ks with
                  | nil => rfl
                  | cons x y => rw [e] at p; simp [PyData.eqv, PyData.eqvAll] at p
                exact ⟨rfl, Same.new (Same.refl H4) hDe, nl, by rw [hn]; rfl⟩
          rintro σ H5 ⟨rfl, s5, nl, hlast⟩
          have hk : keyL fz.cps.toList = some ((NumText.digitsVal fz.cps.toList : Nat) : Int) := keyL_yes (by omega) (by omega) fd' nl
          have hint := int_dig fd' fne f3
          generalize ((NumText.digitsVal fz.cps.toList : Nat) : Int) = kk at hk hint hlast
          have hL5 := s5 _ _ hL4
          have hM5 := s5 _ _ hM4
          have hW5 := s5 _ _ hW4
          have sH5 := sH4.trans s5
          have stp : stepR st w' = if (splitL w'.cps.toList).1 = Str.ofString "" then some ⟨st.ks ++ [kk], st.a, st.b⟩
              else if st.a.isSome || st.b.isSome then none
              else if (splitL w'.cps.toList).1 = chr1 43 then some ⟨st.ks ++ [kk], some kk, st.b⟩ else some ⟨st.ks ++ [kk], st.a, some kk⟩ := by
            unfold stepR
            rw [kf, hk]
            show (if lastLe st.ks kk = true then none else _) = _
            rw [hlast]
            rfl
          refine ⟨fun σ H' => σ = [some (.str z), some (.ref L), some (.ref M), some (.str w'), some (.str fz), y5] ∧ Same H H' ∧ H' L = some (.lst ((st.ks ++ [kk]).map V.int)) ∧ H' M = some (.lst [mV st.a, mV st.b]) ∧ H' W = some (.lst ((Txt.split z (Str.ofString " ")).map V.str)), ?_, ?_⟩
          · refine ⟨_, rfl, .inl ⟨rfl, _, SqL.of hL5⟩, _, rfl, fz, _, rfl, hint, by omega, L, _, _, rfl, rfl, hL5, by rw [List.length_map, sizeLine_eq]; omega, rfl, ?_, ?_, ?_, ?_⟩
            · exact fun a o e => by
                rw [upd_ne (ne_of_none e hL)]
                exact sH5 _ _ e
            · rw [upd_same, List.map_append]; rfl
            · rw [upd_ne nLM.symm]; exact hM5
            · rw [upd_ne nWL]; exact hW5
          rintro σ G ⟨rfl, sG, hLG, hMG, hWG⟩
          refine ⟨_, rfl, _, rfl, rfl, _, rfl, ite2 (fun a => ?_) (fun a => ?_)⟩
          · have sg : sgHead w'.cps.toList = true := by
              cases e : sgHead w'.cps.toList with
              | true => rfl
              | false =>
                have : w' = fz := by
                  rw [fig_no e] at hfz
                  rw [str_of hfz]
                rw [this] at a
                simp at a
            obtain ⟨c0, r0, hw0, hs0⟩ : ∃ c0 r0, w'.cps.toList = c0 :: r0 ∧ isSg c0 = true := by
              cases e : w'.cps.toList with
              | nil => rw [e] at sg; cases sg
              | cons x y => rw [e] at sg; exact ⟨x, y, rfl, sg⟩
            have h1 : (splitL w'.cps.toList).1 = chr1 c0 := by rw [hw0, split_yes hs0]
            have hne : (splitL w'.cps.toList).1 ≠ Str.ofString "" := fun q => by
              rw [h1] at q
              have q2 : (chr1 c0).cps.toList = (Str.ofString "").cps.toList := congrArg (fun s : Str => s.cps.toList) q
              have e0 : (Str.ofString "").cps.toList = [] := by decide
              rw [e0] at q2
              cases q2
            rw [if_neg hne] at stp
            refine ⟨fun σ H' => σ = [some (.str z), some (.ref L), some (.ref M), some (.str w'), some (.str fz), y5] ∧ st.a = none ∧ st.b = none ∧ Same G H', ?_, ?_⟩
            · refine ⟨_, rfl, (by show 2 ≤ sizeLine; decide), fun De hDe => ?_⟩
              have hM6 := Same.new (Same.refl G) (o := .lst [.non, .non]) hDe _ _ hMG
              refine ⟨.list [dO st.a, dO st.b], .list [.none, .none], .lst (SqL.of hM6) (.cons (dp_mV _) (.cons (dp_mV _) .nil)), .lst (SqL.of upd_same) (.cons .non (.cons .non .nil)), shaped_dO _ _, shaped_dO none none, _, rfl, ite2 (fun b => ?_) (fun b => ?_)⟩
              · refine tell (bad (i + 1) (next.trans ?_)) _ (sG.trans (Same.new (Same.refl G) hDe))
                rw [stp, if_pos]
                cases ea : st.a with
                | some x => rfl
                | none =>
                  cases eb : st.b with
                  | some x => rfl
                  | none => rw [ea, eb] at b; simp [dO, PyData.eqv, PyData.eqvAll] at b
              · refine ⟨rfl, ?_, ?_, Same.new (Same.refl G) hDe⟩
                · cases ea : st.a with
                  | none => rfl
                  | some x => rw [ea] at b; simp [dO, PyData.eqv, PyData.eqvAll] at b
                · cases eb : st.b with
                  | none => rfl
                  | some x => rw [eb] at b; cases ea : st.a <;> rw [ea] at b <;> simp [dO, PyData.eqv, PyData.eqvAll] at b
            rintro σ G' ⟨rfl, ea, eb, sG'⟩
            rw [ea, eb] at stp
            have hMG' := sG' _ _ hMG
            rw [ea, eb] at hMG'
            have fin : ∀ st' ys, stepR st w' = some st' → st'.ks = st.ks ++ [kk] → ys = [mV st'.a, mV st'.b] → ∃ st3 x3 x4 x5, [some (V.str z), some (.ref L), some (.ref M), some (.str w'), some (.str fz), y5] = [some (.str z), some (.ref L), some (.ref M), x3, x4, x5] ∧
                ((Txt.split z (Str.ofString " ")).take (i + 1)).foldlM stepR s0 = some st3 ∧ Same H (upd G' M (.lst ys)) ∧ upd G' M (.lst ys) L = some (.lst (st3.ks.map V.int)) ∧
                upd G' M (.lst ys) M = some (.lst [mV st3.a, mV st3.b]) ∧ upd G' M (.lst ys) W = some (.lst ((Txt.split z (Str.ofString " ")).map V.str)) := fun st' ys e1 e2 e3 =>
              ⟨st', _, _, _, rfl, next.trans e1, fun a o e => by rw [upd_ne (ne_of_none e hM)]; exact sG' _ _ (sG _ _ e), by rw [upd_ne nLM, e2]; exact sG' _ _ hLG, by rw [upd_same, e3], by rw [upd_ne nWM]; exact sG' _ _ hWG⟩
            have e43 : (Str.ofString "+") = chr1 43 := by decide
            refine ⟨_, rfl, fz, kk, rfl, hint, by omega, _, rfl, _, rfl, w', 0, c0, rfl, rfl, (by rw [sizeLine_eq]; omega), (by rw [hw0]; exact at_ofN rfl), rfl, _, rfl, ite2 (fun p => ?_) (fun p => ?_)⟩
            · have q : c0 = 43 := by rw [e43, chr_eq] at p; exact of_decide_eq_true p
              refine ⟨M, _, 0, 0, rfl, rfl, hMG', rfl, fin ⟨st.ks ++ [kk], some kk, none⟩ _ ?_ rfl rfl⟩
              rw [stp, h1, q]; rfl
            · have q : c0 ≠ 43 := fun e => p (by rw [e43, chr_eq]; exact decide_eq_true e)
              refine ⟨M, _, 1, 1, rfl, rfl, hMG', rfl, fin ⟨st.ks ++ [kk], none, some kk⟩ _ ?_ rfl rfl⟩
              rw [stp, h1]
              have : ¬ chr1 c0 = chr1 43 := fun e => q (by
                have := congrArg (fun s : Str => s.cps.toList) e
                simpa using this)
              rw [if_neg this]
              rfl
          · have sg : sgHead w'.cps.toList = false := by
              cases e : sgHead w'.cps.toList with
              | false => rfl
              | true =>
                have e2 : w' = fz := by
                  cases q : decide (V.str w' = V.str fz) with
                  | true => exact V.str.inj (of_decide_eq_true q)
                  | false => rw [q] at a; exact absurd rfl a
                rw [fig_yes e, ← e2] at hfz
                have := congrArg List.length hfz
                rw [List.length_drop] at this
                have : w'.cps.toList = [] := List.eq_nil_of_length_eq_zero (by omega)
                rw [this] at e
                cases e
            have he : (splitL w'.cps.toList).1 = Str.ofString "" := by
              cases e : w'.cps.toList with
              | nil => rfl
              | cons x y =>
                rw [e] at sg
                rw [split_no (show isSg x = false from sg)]
            rw [if_pos he] at stp
            exact ⟨_, _, _, _, rfl, next.trans stp, sG, hLG, hMG, hWG⟩
        · rintro σ H2 ⟨st, x3, x4, x5, rfl, est, s2, hL2, hM2, hW2⟩
          rw [List.length_map, List.take_length] at est
          exact ⟨st, x3, x4, x5, rfl, est, s2, hL2, hM2⟩
      rintro σ H2 ⟨st, x3, x4, x5, rfl, est, s2, hL2, hM2⟩
      rw [est] at k
      refine ⟨_, rfl, L, _, rfl, .inl ⟨SqL.of hL2, fun t ht => ?_⟩⟩
      have hM3 : upd H2 t (.tup (st.ks.map V.int)) M = some (.lst [mV st.a, mV st.b]) := by rw [upd_ne (ne_of_none hM2 ht)]; exact hM2
      refine ⟨_, rfl, M, _, 0, _, rfl, rfl, SqL.of hM3, rfl, _, rfl, M, _, 1, _, rfl, rfl, SqL.of hM3, rfl, (by show 4 ≤ sizeLine; decide), fun a ha => ?_⟩
      exact k a _ (Same.new (Same.new s2 ht) ha) ⟨t, upd_same, by rw [upd_ne (ne_of_none upd_same ha), upd_same]⟩
end
end K03

end

section
set_option Elab.async false
set_option linter.all false
set_option maxRecDepth 100000
set_option maxHeartbeats 4000000
/-! C.m(..), m a static method that may raise, the wish at the caller's slots. -/
namespace SB
open PySem PySem.Spec PyProof.Rows L2
/-- C.m is a static method: its record at p, its def at g -/
structure SMet (K : PySem.W.Frag) (C : Addr) (mc : Value) (m : Str) (p g : Addr) : Prop where
  rd : PySem.W.readsIn K C mc = true
  ga : PySem.W.specialIn K (.ref C) "__getattribute__" = some (some (.builtin "type.__getattribute__"))
  found : PySem.W.findCls K (.ref C) mc m = some (.get (.builtin "staticmethod.__get__") (.ref p) .none (.ref C))
  rc : ∃ rest, PySem.W.recIn K p "staticmethod" = some (.ref g :: rest)
  kp : PySem.W.keepIn K (.ref g) = true
section
variable {X : Cx} {CX : CXT} {pins : List (Addr × Obj)} {σ : L2.St} {H : Hp} {s : Shared} {k : Nat} {C p g : Addr} {mc : Value} {fd : FuncData} {ps ks : List Str} {sp : Sp} {E : L2.St → XK} {o e : Expr} {es : List Expr} {kws : List Keyword} {m : Str} {pos apos : Pos} {ta : TE} {t tk : TA} {pl : Sem Bool} {gg : List Value → List Value → List Value} {gV : List V → List V → List V}
theorem getsm_ok {A : Around} {E : Value → Shared → Prop} {Q : Value × List Value → Shared → Prop} (I : Inv X pins σ H s) (c : SMet X.K C mc m p g) (h : ∀ s', Inv X pins σ H s' → Q (.ref g, []) s') : wpAny (model X.prog X.w) A (getMethod (.ref C) m pl) Q E s := by
  obtain ⟨rest, hp⟩ := c.rc
  refine PySem.W.method_cls I.kIn c.ga (PySem.W.cls_bind I.kIn c.rd c.found (wpAny_call (PySem.W.sm_get (s := { s with toks := s.toks + 1 }) I.kIn hp (PySem.W.handed_on rfl ?_))))
  exact h _ (I.tok _)
theorem run_at {us bs : List Value} {kw : List (Str × Value)} {vs : List V} {Q : VK} (F : FnOk X.prog X.w X.K X.mg X.base CX k g fd ps sp) (hr : Room k X.A) (hx : PassesAt CX X σ (E σ)) (I : Inv X pins σ H s) (hb : BindsTo s fd ⟨us, kw⟩ (ps.zip bs)) (rr : Vals vs bs) (q : sp vs H Q (E σ)) :
    wpAny (model X.prog X.w) X.A (call (.ref g) us kw) (EP X pins σ Q) X.xe s := by
  refine wpAny_call (codeAny_mono (F.run X.A X.stack s H ⟨us, kw⟩ bs vs Q (E σ) hr I.env0 hb rr q) fun r s' ho => ?_)
  cases r with
  | error x => exact hx pins H s x s' I ho
  | ok fl =>
    cases fl with
    | ret u => exact I.after ho
    | next => cases ho
    | brk => cases ho
    | cont => cases ho
def tSM (C : Addr) (sp : Sp) (E : L2.St → XK) (ta : TE) (t : TA) : TE := fun σ H Q => ta σ H fun x H1 => x = .ref C ∧ t σ H1 fun vs H2 => sp vs H2 Q (E σ)
theorem pe_sm (he : PE X o ta) (c : SMet X.K C mc m p g) (F : FnOk X.prog X.w X.K X.mg X.base CX k g fd ps sp) (hr : Room k X.A) (hb : Binds X.K fd ps []) (hx : ∀ σ, PassesAt CX X σ (E σ)) (ha : PA X (e :: es) t)
    (hst : starEach (e :: es) X.env = (false, eval e X.env) :: starEach es X.env := by rfl) (hpp : (backTo pos (starEach es X.env)).any (·.1) = false := by rfl)
    (ht : eval (.Call (.Attribute o m apos) (e :: es) [] pos) X.env = (do
      let ov ← eval o X.env
      standAt apos.atName
      let (f, first) ← holding [ov] (getMethod ov m pl)
      callWith pos f first (backTo pos (starEach (e :: es) X.env)) (backToKw pos (keywordEach [] X.env))) := by rfl) :
    PE X (.Call (.Attribute o m apos) (e :: es) [] pos) (tSM C sp E ta t) := by
  constructor
  intro pins s σ H Q I h
  refine PySem.W.methodCall_KW (pl := pl) (thn (he.run pins s σ H _ I h) fun u s1 ⟨x, G1, J1, rx, ex, q⟩ => ?_) ht
  subst ex
  obtain rfl : u = Value.ref C := rx
  refine getsm_ok J1 c fun s2 J2 => ?_
  refine PySem.W.callWith_K (h₀ := X.base) J2.ok.mod.kin c.kp (thn (ha.run pos pins s2 σ G1 _ J2 q) fun us z ⟨vs, G, J, rv, w⟩ => ⟨J.kIn, ?_⟩) hst hpp
  have ln : us.length = ps.length := rv.length.symm.trans (F.len _ _ _ _ w)
  exact run_at (bs := us) F hr (hx σ) J (by simpa using hb z us J.kIn (by simpa using ln)) rv w
def tSMK (C : Addr) (sp : Sp) (gV : List V → List V → List V) (E : L2.St → XK) (ta : TE) (tk : TA) : TE := fun σ H Q => ta σ H fun x H1 => x = .ref C ∧ tk σ H1 fun zs H2 => sp (gV [] zs) H2 Q (E σ)
theorem pe_smK (he : PE X o ta) (c : SMet X.K C mc m p g) (F : FnOk X.prog X.w X.K X.mg X.base CX k g fd ps sp) (hr : Room k X.A) (hb : KBinds X.K fd ps ks gg gV) (hx : ∀ σ, PassesAt CX X σ (E σ)) (hkw : PK X kws tk)
    (hal : (backToKw pos (keywordEach kws X.env)).all (·.1.isSome) = true := by rfl) (hks : (backToKw pos (keywordEach kws X.env)).filterMap (·.1) = ks := by rfl)
    (hpp : ((backTo pos (starEach [] X.env)).any (·.1) || (backToKw pos (keywordEach kws X.env)).any (·.1.isNone)) = false := by rfl)
    (ht : eval (.Call (.Attribute o m apos) [] kws pos) X.env = (do
      let ov ← eval o X.env
      standAt apos.atName
      let (f, first) ← holding [ov] (getMethod ov m pl)
      callWith pos f first (backTo pos (starEach [] X.env)) (backToKw pos (keywordEach kws X.env))) := by rfl) :
    PE X (.Call (.Attribute o m apos) [] kws pos) (tSMK C sp gV E ta tk) := by
  constructor
  intro pins s σ H Q I h
  refine PySem.W.methodCall_KW (pl := pl) (thn (he.run pins s σ H _ I h) fun u s1 ⟨x, G1, J1, rx, ex, q⟩ => ?_) ht
  subst ex
  obtain rfl : u = Value.ref C := rx
  refine getsm_ok J1 c fun s2 J2 => ?_
  refine PySem.W.callWith_KW0 (h₀ := X.base) J2.ok.mod.kin c.kp hal ?_ hpp
  refine thn (hkw.run pos pins s2 σ G1 _ J2 q) fun ws z ⟨zs, G, J, rz, w⟩ => ⟨J.kIn, ?_⟩
  rw [hks]
  have rr := hb.rel (vs := []) .nil rz
  have ln : (gg [] ws).length = ps.length := rr.length.symm.trans (F.len _ _ _ _ w)
  exact run_at F hr (hx σ) J (hb.to z [] ws J.kIn ln) rr w
end
end SB

end

section
set_option Elab.async false
set_option linter.all false
set_option maxRecDepth 100000
set_option maxHeartbeats 4000000
/-! reading, and what it gives; a row of a value. -/
namespace K03
open PySem L2 SB
def g1 {α : Type} (us ws : List α) : List α := match us, ws with
  | [], [a] => [a]
  | _, _ => []
def DueT (K : PySem.W.Frag) (H : Hp) (a : Addr) : Option RS → Prop
  | none => H a = some (.tup [.str "InvalidText", .int 0])
  | some st => ∃ q, H a = some (.tup [.str "made", .ref q, mV st.a, mV st.b]) ∧ SqT K H q (st.ks.map V.int)
def spLRead (K : PySem.W.Frag) : Sp := fun vs H Q _ => ∃ v t nm, vs = [v, .bl nm] ∧ TV K H v t ∧ (∀ z, t = some z → z.length ≤ 90000) ∧ ∀ a H', Same H H' → DueT K H' a (readT t) → Q (.ref a) H'
abbrev wRd (K : PySem.W.Frag) (CT : Addr) : Ends → WX := fun D => wAs K (.ref CT) 3 (fun a cls d => tRet (tTup (tCons (tXf a cls d CT "code" (tVar 3)) (tCons (tXf a cls d CT "at" (tVar 3)) tNil)))) (fun _ _ _ _ => False) D
section
variable {P : Program} {w : World} {K : PySem.W.Frag} {mg : Str → Option Value} {base : Heap}
theorem ok_lread {f C CT fI fR p : Addr} {mc : Value} {fd fdR : FuncData} (F : Fun K "_law_read" "_law_read" s_l_read f fd) (T : RowC K C) (gC : mg "Row" = some (.ref C))
    (X : XFacts K mg "InvalidText" CT fI bmVE "ValueError.__new__") (nat : PySem.W.findIn K (.ref CT) "at" = some none)
    (S : SMet K C mc "read" p fR) (FR : FnOk P w K mg base (L2.CX P w) 7 fR fdR ["text"] (spRead K C CT)) (bR : Binds K fdR ["text"] []) (kbR : KBinds K fdR ["text"] ["text"] g1 g1) :
    FnOk P w K mg base CX0 8 f fd ["_law_v", "_law_named"] (spLRead K) := by
  refine F.ok sc_l_read (fun vs H Q E h => ?_) (fun cdv A' outer s H vs Q E hr h => ?_)
  · obtain ⟨v, t, nm, rfl, _⟩ := h
    rfl
  · obtain ⟨v, t, nm, rfl, tv, hz, k⟩ := h
    refine ⟨_, pss_one (ps_try_clauses (Wout := fun _ _ _ _ => False)
      (tb := fun W => tSeq (tAsg (tIf (tTest (tVar 1)) (tSMK C (spRead K C CT) g1 (WE W) (tC (.ref C)) (tCons (tVar 0) tNil)) (tSM C (spRead K C CT) (WE W) (tC (.ref C)) (tCons (tVar 0) tNil))) (gName 2))
        (tRet (tTup (tCons (tC (.str "made")) (tCons (tFld K (tVar 2) "lot") (tCons (tFld K (tVar 2) "coming") (tCons (tFld K (tVar 2) "going") tNil)))))))
      (wW := wRd K CT)
      rfl rfl sc_l_read.nd takes0
      (fun W pn xe tk _ => pss_cons (ps_set (i := 2) sc_l_read.nd rfl (Or.inl rfl) (pe_ifExp (pt_val (pv 1)) (pe_smK (pe_glob (v := .ref C) (by rfl) gC rfl) S FR hr kbR (fun σ => passAt tk σ) (pk_cons (pv 0) pk_nil)) (pe_sm (pe_glob (v := .ref C) (by rfl) gC rfl) S FR hr bR (fun σ => passAt tk σ) (pa_cons (pv 0) pa_nil))))
        (pss_one (ps_ret (pe_tup (pa_cons pe_str (pa_cons (pe_fld (pv 2) rfl) (pa_cons (pe_fld (pv 2) rfl) (pa_cons (pe_fld (pv 2) rfl) pa_nil))))))))
      (fun D => .more (i := 3) rfl rfl ⟨rfl, by decide, .inl X.g⟩ (fun a oe cls d pn hz hf => pss_one (ps_ret (pe_tup (pa_cons (pe_xf X.F X.nC hz hf (pv 3)) (pa_cons (pe_xf X.F nat hz hf (pv 3)) pa_nil))))) .done)), ?_⟩
    have caught : readT t = none → ∀ d H', Same H H' → H' d = none → wRd K CT { nx := fun _ H' => Q .non H', rt := Q } (.ref CT) (some d) (L2.start ["_law_v", "_law_named", "_law_made", "e"] [v, .bl nm]) (upd H' d (.xd (fs1 "InvalidText" "at" [.int 0]))) := fun e d H' s1 hd =>
      ⟨true, X.me, fun _ a ha => ⟨_, rfl, rfl, rfl, d, _, _, rfl, upd_same, rfl, _, rfl, rfl, rfl, d, _, _, rfl, upd_same, rfl, (by show 2 ≤ sizeLine; decide), fun t ht => k t _ (Same.new (Same.new s1 hd) ht) (by rw [e]; exact upd_same)⟩, fun q => nomatch q⟩
    have made : ∀ st, readT t = some st → ∀ r q H', Same H H' → RowAt C H' r q st.a st.b → SqT K H' q (st.ks.map V.int) →
        tRet (tTup (tCons (tC (.str "made")) (tCons (tFld K (tVar 2) "lot") (tCons (tFld K (tVar 2) "coming") (tCons (tFld K (tVar 2) "going") tNil))))) { nx := fun _ H' => Q .non H', rt := Q } [some v, some (.bl nm), some (.ref r), none] H' := fun st e r q H' s1 ⟨dx, ha⟩ hs =>
      ⟨_, rfl, r, C, dx, _, _, rfl, ha, T.cl, T.nL, rfl, _, rfl, r, C, dx, _, _, rfl, ha, T.cl, T.nC, rfl, _, rfl, r, C, dx, _, _, rfl, ha, T.cl, T.nG, rfl, (by show 4 ≤ sizeLine; decide), fun a ha' => k a _ (Same.new s1 ha') (by rw [e]; exact ⟨q, upd_same, sqT_same (Same.new (Same.refl H') ha') hs⟩)⟩
    refine ⟨_, rfl, nm, rfl, ?_⟩
    cases t with
    | none =>
      cases nm with
      | true => exact iteT ⟨rfl, _, rfl, v, none, rfl, tv, caught rfl⟩
      | false => exact iteF ⟨rfl, _, rfl, v, none, rfl, tv, caught rfl⟩
    | some z =>
      have both : z.length ≤ 90000 ∧ (match readS z with
          | none => ∀ d H', Same H H' → H' d = none → wRd K CT { nx := fun _ H' => Q .non H', rt := Q } (.ref CT) (some d) (L2.start ["_law_v", "_law_named", "_law_made", "e"] [v, .bl nm]) (upd H' d (.xd (fs1 "InvalidText" "at" [.int 0])))
          | some st => ∀ r q H', Same H H' → RowAt C H' r q st.a st.b → SqT K H' q (st.ks.map V.int) → Lot st.ks st.a st.b → tRet (tTup (tCons (tC (.str "made")) (tCons (tFld K (tVar 2) "lot") (tCons (tFld K (tVar 2) "coming") (tCons (tFld K (tVar 2) "going") tNil))))) { nx := fun _ H' => Q .non H', rt := Q } [some v, some (.bl nm), some (.ref r), none] H') := by
        refine ⟨hz z rfl, ?_⟩
        cases e : readS z with
        | none => exact caught e
        | some st => exact fun r q H' s1 ra hs _ => made st e r q H' s1 ra hs
      cases nm with
      | true => exact iteT ⟨rfl, _, rfl, v, some z, rfl, tv, both⟩
      | false => exact iteF ⟨rfl, _, rfl, v, some z, rfl, tv, both⟩
end
end K03

end

section
set_option Elab.async false
set_option linter.all false
set_option maxRecDepth 100000
set_option maxHeartbeats 4000000
/-! a row made in all ways, or why not. -/
namespace K03
open PySem L2 SB
theorem LotV.sm {K : PySem.W.Frag} {H H' : Hp} {v : V} {lo : Option (List Int)} (h : LotV K H v lo) (s : Same H H') : LotV K H' v lo := by
  cases lo with
  | none => exact LV.sm s h
  | some ls =>
    obtain ⟨q, e, h1, h2⟩ := h
    exact ⟨q, e, sqT_same s h1, h2⟩
theorem rowX_new {K : PySem.W.Frag} {C CL CM x dx : Addr} {H : Hp} {v p1 p2 : V} {o1 o2 : Option Int} {lo : Option (List Int)} {vs : List V} {R : VK} {E : XK} (hx : H x = none) (hdx : H dx = none) (ne : dx ≠ x) (n1 : NV K H p1 o1) (n2 : NV K H p2 o2) (lv : LotV K H v lo) (hvs : vs = [.ref x, v, p1, p2])
    (kL : lo = none → ∀ d H', Same H H' → H' d = none → E (.ref CL) (some d) (upd H' d (.xd (fs1 "InvalidLot" "value" [v]))))
    (k1 : ∀ ls, lo = some ls → bad1 ls p1 o1 = true → ∀ d H', Same H H' → H' d = none → E (.ref CM) (some d) (upd H' d (.xd (fs1 "InvalidMark" "value" [p1]))))
    (k2 : ∀ ls, lo = some ls → bad1 ls p1 o1 = false → bad2 ls p1 p2 o2 = true → ∀ d H', Same H H' → H' d = none → E (.ref CM) (some d) (upd H' d (.xd (fs1 "InvalidMark" "value" [p2]))))
    (k3 : ∀ ls, lo = some ls → bad1 ls p1 o1 = false → bad2 ls p1 p2 o2 = false → ∀ q up dn, v = .ref q → p1 = mV up → p2 = mV dn → Lot ls up dn → ∀ H', Same H H' → RowAt C H' x q up dn → SqT K H' q (ls.map V.int) → R .non H') :
    spRowX K C CL CM vs (upd (upd H dx (.own x)) x (.ins C dx [])) R E := by
  subst hvs
  have s1 : Same H (upd (upd H dx (.own x)) x (.ins C dx [])) := Same.new (Same.new (Same.refl H) hdx) (by rw [upd_ne (fun e => ne e.symm)]; exact hx)
  refine ⟨x, dx, v, p1, p2, o1, o2, lo, rfl, upd_same, n1.sm s1, n2.sm s1, lv.sm s1, ?_⟩
  cases lo with
  | none => exact fun d H' s hd => kL rfl d H' (s1.trans s) hd
  | some ls =>
    refine ⟨fun b d H' s hd => k1 ls rfl b d H' (s1.trans s) hd, fun b b2 d H' s hd => k2 ls rfl b b2 d H' (s1.trans s) hd, fun b b2 q up dn e1 e2 e3 L hq H' h1 kk => ?_⟩
    obtain ⟨q', eq, hq', _⟩ := lv
    have e : q' = q := by rw [eq] at e1; cases e1; rfl
    subst e
    have s2 : Same H H' := fun c o e => kk c o (s1 c o e) (ne_of_none e hx)
    exact k3 ls rfl b b2 q' up dn e1 e2 e3 L H' s2 ⟨dx, h1⟩ (sqT_same s2 hq')
/-- what is told of the making -/
def MadeT (K : PySem.W.Frag) (C : Addr) (H : Hp) (a : Addr) (v p1 p2 : V) (o1 o2 : Option Int) : Option (List Int) → Prop
  | none => H a = some (.tup [.str "InvalidLot", v])
  | some ls => (bad1 ls p1 o1 = true → H a = some (.tup [.str "InvalidMark", p1])) ∧ (bad1 ls p1 o1 = false → bad2 ls p1 p2 o2 = true → H a = some (.tup [.str "InvalidMark", p2])) ∧
    (bad1 ls p1 o1 = false → bad2 ls p1 p2 o2 = false → ∃ r q up dn, v = .ref q ∧ p1 = mV up ∧ p2 = mV dn ∧ Lot ls up dn ∧ H a = some (.tup [.str "made", .ref r]) ∧ RowAt C H r q up dn ∧ SqT K H q (ls.map V.int))
def spMake (K : PySem.W.Frag) (C : Addr) : Sp := fun vs H Q _ => ∃ v p1 p2 way o1 o2 lo, vs = [v, p1, p2, .int way] ∧ NV K H p1 o1 ∧ NV K H p2 o2 ∧ LotV K H v lo ∧ ∀ a H', Same H H' → MadeT K C H' a v p1 p2 o1 o2 lo → Q (.ref a) H'
abbrev k0V : List V → List V → List V := fun us ws => match us, ws with
  | [s], [g, c, l] => [s, l, c, g]
  | _, _ => []
abbrev kGV : List V → List V → List V := fun us ws => us ++ ([.non] ++ ws)
abbrev kCV : List V → List V → List V := fun us ws => us ++ (ws ++ [.non])
abbrev k2V : List V → List V → List V := fun us ws => match us, ws with
  | [s, l], [g, c] => [s, l, c, g]
  | _, _ => []
abbrev wMk (K : PySem.W.Frag) (CL CM : Addr) : Ends → WX := fun D => wAs K (.ref CL) 4 (fun a cls d => tRet (tTup (tCons (tXf a cls d CL "code" (tVar 4)) (tCons (tXf a cls d CL "value" (tVar 4)) tNil)))) (wAs K (.ref CM) 4 (fun a cls d => tRet (tTup (tCons (tXf a cls d CM "code" (tVar 4)) (tCons (tXf a cls d CM "value" (tVar 4)) tNil)))) (fun _ _ _ _ => False) D) D
section
variable {P : Program} {w : World} {K : PySem.W.Frag} {mg : Str → Option Value} {base : Heap}
theorem ok_make {f C CL CM fL fM fR : Addr} {fd fdR : FuncData} {dsR : List Value} {q1 q2 q3 q4 q5 : List Value → List Value → List Value} (F : Fun K "_law_make" "_law_make" s_l_make f fd) (gC : mg "Row" = some (.ref C))
    (XL : XFacts K mg "InvalidLot" CL fL bmVE "ValueError.__new__") (nL : PySem.W.findIn K (.ref CL) "value" = some none) (XM : XFacts K mg "InvalidMark" CM fM bmVE "ValueError.__new__") (nM : PySem.W.findIn K (.ref CM) "value" = some none)
    (ap : PySem.W.exmOne K (.ref CM) (.ref CL) = some false)
    (M : Mk K C fR) (FR : FnOk P w K mg base (L2.CX P w) 5 fR fdR ["self", "lot", "coming", "going"] (spRowX K C CL CM)) (bR : Binds K fdR ["self", "lot", "coming", "going"] dsR) (rR : Vals [V.non, V.non] dsR)
    (kb1 : KBn K fdR ["self", "lot", "coming", "going"] 2 ["coming", "going"] q1 gR) (kb0 : KBn K fdR ["self", "lot", "coming", "going"] 1 ["going", "coming", "lot"] q2 k0V)
    (kbG : KBn K fdR ["self", "lot", "coming", "going"] 2 ["going"] q3 kGV) (kbC : KBn K fdR ["self", "lot", "coming", "going"] 2 ["coming"] q4 kCV) (kb2 : KBn K fdR ["self", "lot", "coming", "going"] 2 ["going", "coming"] q5 k2V) :
    FnOk P w K mg base CX0 7 f fd ["_law_v", "_law_p", "_law_q", "_law_way"] (spMake K C) := by
  refine F.ok sc_l_make (fun vs H Q E h => ?_) (fun cdv A' outer s H vs Q E hr h => ?_)
  · obtain ⟨v, p1, p2, way, o1, o2, lo, rfl, _⟩ := h
    rfl
  · obtain ⟨v, p1, p2, way, o1, o2, lo, rfl, n1, n2, lv, k⟩ := h
    refine ⟨_, pss_one (ps_try_clauses (Wout := fun _ _ _ _ => False)
      (tb := fun W => tSeq (tIfS (tTest (tOp rEq (tVar 3) (tC (.int 0)))) (tRet (tTup (tCons (tC (.str "made")) (tCons (tMakeKS C 1 2 (spRowX K C CL CM) gR (WE W) (tCons (tVar 0) tNil) (tCons (tVar 1) (tCons (tVar 2) tNil))) tNil)))) tNext)
        (tSeq (tIfS (tTest (tOp rEq (tVar 3) (tC (.int 1)))) (tRet (tTup (tCons (tC (.str "made")) (tCons (tMakeKS C 0 3 (spRowX K C CL CM) k0V (WE W) tNil (tCons (tVar 2) (tCons (tVar 1) (tCons (tVar 0) tNil)))) tNil)))) tNext)
        (tSeq (tIfS (tAnd (tTest (tOp rIsN (tVar 1) (tC .non))) (tTest (tOp rIsN (tVar 2) (tC .non)))) (tRet (tTup (tCons (tC (.str "made")) (tCons (tMakeS C (spRowX K C CL CM) [.non, .non] (WE W) (tCons (tVar 0) tNil)) tNil)))) tNext)
        (tSeq (tIfS (tTest (tOp rIsN (tVar 1) (tC .non))) (tRet (tTup (tCons (tC (.str "made")) (tCons (tMakeKS C 1 1 (spRowX K C CL CM) kGV (WE W) (tCons (tVar 0) tNil) (tCons (tVar 2) tNil)) tNil)))) tNext)
        (tRet (tTup (tCons (tC (.str "made")) (tCons (tIf (tTest (tOp rIsN (tVar 2) (tC .non))) (tMakeKS C 1 1 (spRowX K C CL CM) kCV (WE W) (tCons (tVar 0) tNil) (tCons (tVar 1) tNil)) (tMakeKS C 1 2 (spRowX K C CL CM) k2V (WE W) (tCons (tVar 0) tNil) (tCons (tVar 2) (tCons (tVar 1) tNil)))) tNil))))))))
      (wW := wMk K CL CM)
      rfl rfl sc_l_make.nd takes0
      (fun W pn xe tk _ => pss_cons (ps_if (pt_cmpR op_eq (pv 3) pe_int (nomark _)) (pss_one (ps_ret (pe_tup (pa_cons pe_str (pa_cons (pe_makeKS M FR hr (by rfl) gC kb1 (fun σ => passAt tk σ) (pa_cons (pv 0) pa_nil) (pk_cons (pv 1) (pk_cons (pv 2) pk_nil))) pa_nil))))) pss_nil)
        (pss_cons (ps_if (pt_cmpR op_eq (pv 3) pe_int (nomark _)) (pss_one (ps_ret (pe_tup (pa_cons pe_str (pa_cons (pe_makeK0S M FR hr (by rfl) gC kb0 (fun σ => passAt tk σ) (pk_cons (pv 2) (pk_cons (pv 1) (pk_cons (pv 0) pk_nil)))) pa_nil))))) pss_nil)
        (pss_cons (ps_if (PW.pt (pw_and (pt_cmpR op_isN1 (pv 1) pe_non (nomark _)) (pw_and1 (pt_cmpR op_isN1 (pv 2) pe_non (nomark _))))) (pss_one (ps_ret (pe_tup (pa_cons pe_str (pa_cons (pe_makeS M FR hr (by rfl) gC bR rR (fun σ => passAt tk σ) (pa_cons (pv 0) pa_nil)) pa_nil))))) pss_nil)
        (pss_cons (ps_if (pt_cmpR op_isN1 (pv 1) pe_non (nomark _)) (pss_one (ps_ret (pe_tup (pa_cons pe_str (pa_cons (pe_makeKS M FR hr (by rfl) gC kbG (fun σ => passAt tk σ) (pa_cons (pv 0) pa_nil) (pk_cons (pv 2) pk_nil)) pa_nil))))) pss_nil)
        (pss_one (ps_ret (pe_tup (pa_cons pe_str (pa_cons (pe_ifExp (pt_cmpR op_isN1 (pv 2) pe_non (nomark _)) (pe_makeKS M FR hr (by rfl) gC kbC (fun σ => passAt tk σ) (pa_cons (pv 0) pa_nil) (pk_cons (pv 1) pk_nil)) (pe_makeKS M FR hr (by rfl) gC kb2 (fun σ => passAt tk σ) (pa_cons (pv 0) pa_nil) (pk_cons (pv 2) (pk_cons (pv 1) pk_nil)))) pa_nil)))))))))
      (fun D => .more (i := 4) rfl rfl ⟨rfl, by decide, .inl XL.g⟩ (fun a oe cls d pn hz hf => pss_one (ps_ret (pe_tup (pa_cons (pe_xf XL.F XL.nC hz hf (pv 4)) (pa_cons (pe_xf XL.F nL hz hf (pv 4)) pa_nil)))))
        (.more (i := 4) rfl rfl ⟨rfl, by decide, .inl XM.g⟩ (fun a oe cls d pn hz hf => pss_one (ps_ret (pe_tup (pa_cons (pe_xf XM.F XM.nC hz hf (pv 4)) (pa_cons (pe_xf XM.F nM hz hf (pv 4)) pa_nil))))) .done))), ?_⟩
    have kL : lo = none → ∀ d H', Same H H' → H' d = none → wMk K CL CM { nx := fun _ H' => Q .non H', rt := Q } (.ref CL) (some d) (L2.start ["_law_v", "_law_p", "_law_q", "_law_way", "e"] [v, p1, p2, .int way]) (upd H' d (.xd (fs1 "InvalidLot" "value" [v]))) := fun e d H' s1 hd =>
      ⟨true, XL.me, fun _ a ha => ⟨_, rfl, rfl, rfl, d, _, _, rfl, upd_same, rfl, _, rfl, rfl, rfl, d, _, _, rfl, upd_same, rfl, (by show 2 ≤ sizeLine; decide), fun t ht => k t _ (Same.new (Same.new s1 hd) ht) (by rw [e]; exact upd_same)⟩, fun q => nomatch q⟩
    have kM : ∀ x, (∀ t H', Same H H' → H' t = some (.tup [.str "InvalidMark", x]) → Q (.ref t) H') → ∀ d H', Same H H' → H' d = none → wMk K CL CM { nx := fun _ H' => Q .non H', rt := Q } (.ref CM) (some d) (L2.start ["_law_v", "_law_p", "_law_q", "_law_way", "e"] [v, p1, p2, .int way]) (upd H' d (.xd (fs1 "InvalidMark" "value" [x]))) := fun x kk d H' s1 hd =>
      ⟨false, ap, (fun q => nomatch q), fun _ => ⟨true, XM.me, fun _ a ha => ⟨_, rfl, rfl, rfl, d, _, _, rfl, upd_same, rfl, _, rfl, rfl, rfl, d, _, _, rfl, upd_same, rfl, (by show 2 ≤ sizeLine; decide), fun t ht => kk t _ (Same.new (Same.new s1 hd) ht) upd_same⟩, fun q => nomatch q⟩⟩
    have k1 : ∀ ls, lo = some ls → bad1 ls p1 o1 = true → ∀ d H', Same H H' → H' d = none → wMk K CL CM { nx := fun _ H' => Q .non H', rt := Q } (.ref CM) (some d) (L2.start ["_law_v", "_law_p", "_law_q", "_law_way", "e"] [v, p1, p2, .int way]) (upd H' d (.xd (fs1 "InvalidMark" "value" [p1]))) := fun ls e b =>
      kM p1 fun t H' s1 h => k t H' s1 (by rw [e]; exact ⟨fun _ => h, (fun b' => by rw [b] at b'; cases b'), (fun b' => by rw [b] at b'; cases b')⟩)
    have k2 : ∀ ls, lo = some ls → bad1 ls p1 o1 = false → bad2 ls p1 p2 o2 = true → ∀ d H', Same H H' → H' d = none → wMk K CL CM { nx := fun _ H' => Q .non H', rt := Q } (.ref CM) (some d) (L2.start ["_law_v", "_law_p", "_law_q", "_law_way", "e"] [v, p1, p2, .int way]) (upd H' d (.xd (fs1 "InvalidMark" "value" [p2]))) := fun ls e b b2 =>
      kM p2 fun t H' s1 h => k t H' s1 (by rw [e]; exact ⟨(fun b' => by rw [b] at b'; cases b'), (fun _ _ => h), (fun _ b' => by rw [b2] at b'; cases b')⟩)
    have k3 : ∀ {x : Addr}, ∀ ls, lo = some ls → bad1 ls p1 o1 = false → bad2 ls p1 p2 o2 = false → ∀ q up dn, v = .ref q → p1 = mV up → p2 = mV dn → Lot ls up dn → ∀ H', Same H H' → RowAt C H' x q up dn → SqT K H' q (ls.map V.int) → [V.str "made", V.ref x].length ≤ sizeLine ∧ ∀ a, H' a = none → Q (.ref a) (upd H' a (.tup [.str "made", .ref x])) := fun {x} ls e b b2 q up dn e1 e2 e3 L H' s1 ra hq =>
      ⟨(by show 2 ≤ sizeLine; decide), fun a ha => k a _ (Same.new s1 ha) (by
        rw [e]
        exact ⟨(fun b' => by rw [b] at b'; cases b'), (fun _ b' => by rw [b2] at b'; cases b'), fun _ _ => ⟨x, q, up, dn, e1, e2, e3, L, upd_same, ra.sm (Same.new (Same.refl H') ha), sqT_same (Same.new (Same.refl H') ha) hq⟩⟩)⟩
    refine ⟨_, rfl, rfl, _, rfl, ite2 (fun _ => ⟨_, rfl, _, rfl, _, rfl, rfl, rfl, fun x dx hx hdx ne => rowX_new hx hdx ne n1 n2 lv rfl kL k1 k2 fun ls e b b2 q up dn e1 e2 e3 L H' s1 ra hq => ⟨rfl, k3 ls e b b2 q up dn e1 e2 e3 L H' s1 ra hq⟩⟩) (fun _ => ?_)⟩
    refine ⟨_, rfl, rfl, _, rfl, ite2 (fun _ => ⟨_, rfl, _, rfl, _, rfl, rfl, rfl, fun x dx hx hdx ne => rowX_new hx hdx ne n1 n2 lv rfl kL k1 k2 fun ls e b b2 q up dn e1 e2 e3 L H' s1 ra hq => ⟨rfl, k3 ls e b b2 q up dn e1 e2 e3 L H' s1 ra hq⟩⟩) (fun _ => ?_)⟩
    refine ⟨_, rfl, rfl, _, rfl, ite2 (fun a1 => ⟨_, rfl, rfl, _, rfl, ite2 (fun a2 => ?w1) (fun a2 => ?w2)⟩) (fun a1 => ?w3)⟩
    · have e1 := of_decide_eq_true a1
      have e2 := of_decide_eq_true a2
      exact ⟨_, rfl, fun x dx hx hdx ne => rowX_new hx hdx ne n1 n2 lv (by rw [e1, e2]; rfl) kL k1 k2 fun ls e b b2 q up dn e1 e2 e3 L H' s1 ra hq => ⟨rfl, k3 ls e b b2 q up dn e1 e2 e3 L H' s1 ra hq⟩⟩
    · have e1 := of_decide_eq_true a1
      exact ⟨_, rfl, rfl, _, rfl, ite2 (fun _ => ⟨_, rfl, _, rfl, rfl, rfl, fun x dx hx hdx ne => rowX_new hx hdx ne n1 n2 lv (by rw [e1]; rfl) kL k1 k2 fun ls e b b2 q up dn e1 e2 e3 L H' s1 ra hq => ⟨rfl, k3 ls e b b2 q up dn e1 e2 e3 L H' s1 ra hq⟩⟩) (fun b => absurd a1 b)⟩
    · refine ⟨_, rfl, rfl, _, rfl, ite2 (fun b => absurd b a1) (fun _ => ⟨_, rfl, rfl, _, rfl, ite2 (fun c => ?_) (fun c => ?_)⟩)⟩
      · have e2 := of_decide_eq_true c
        exact ⟨_, rfl, _, rfl, rfl, rfl, fun x dx hx hdx ne => rowX_new hx hdx ne n1 n2 lv (by rw [e2]; rfl) kL k1 k2 fun ls e b b2 q up dn e1 e2 e3 L H' s1 ra hq => ⟨rfl, k3 ls e b b2 q up dn e1 e2 e3 L H' s1 ra hq⟩⟩
      · exact ⟨_, rfl, _, rfl, _, rfl, rfl, rfl, fun x dx hx hdx ne => rowX_new hx hdx ne n1 n2 lv rfl kL k1 k2 fun ls e b b2 q up dn e1 e2 e3 L H' s1 ra hq => ⟨rfl, k3 ls e b b2 q up dn e1 e2 e3 L H' s1 ra hq⟩⟩
end
end K03

end

section
set_option Elab.async false
set_option linter.all false
set_option maxRecDepth 100000
set_option maxHeartbeats 4000000
/-! what making must give; the words of a row. -/
namespace K03
open PySem L2 SB
/-- a value as a key set -/
def SetV (K : PySem.W.Frag) (H : Hp) (v : V) : Option (List Int) → Prop
  | some ls => ∃ q, v = .ref q ∧ SqT K H q (ls.map V.int) ∧ KSet ls
  | none => SV K H v false
def lotOf : Option (List Int) → Option (List Int)
  | some [] => none
  | o => o
theorem SetV.sv {K : PySem.W.Frag} {H : Hp} {v : V} {so : Option (List Int)} (h : SetV K H v so) : SV K H v so.isSome := by
  cases so with
  | none => exact h
  | some ls =>
    obtain ⟨q, rfl, hs, hk⟩ := h
    refine .inr ⟨q, ls.map V.int, ls.map some, rfl, hs, by rw [List.length_map]; have := kset_few hk; omega, ?_, by rw [setB_ks hk]; rfl⟩
    clear hs hk
    induction ls with
    | nil => exact .nil
    | cons a r ih => exact .cons (.int a) ih
theorem SetV.lot {K : PySem.W.Frag} {H : Hp} {v : V} {so : Option (List Int)} (h : SetV K H v so) : LotV K H v (lotOf so) := by
  cases so with
  | none =>
    rcases h with ⟨t, h1, h2, h3⟩ | ⟨a, xs, os, h1, h2, hz, h3, h4⟩
    · exact .inl ⟨t, h1, h2, rfl⟩
    · exact .inr ⟨a, xs, os, h1, h2, hz, h3, by rw [← h4]; rfl⟩
  | some ls =>
    obtain ⟨q, rfl, hs, hk⟩ := h
    cases ls with
    | nil => exact .inr ⟨q, [], [], rfl, hs, by decide, .nil, rfl⟩
    | cons a r => exact ⟨q, rfl, hs, hk, Nat.zero_lt_succ _, kset_few hk⟩
theorem SetV.sm {K : PySem.W.Frag} {H H' : Hp} {v : V} {so : Option (List Int)} (h : SetV K H v so) (s : Same H H') : SetV K H' v so := by
  cases so with
  | none => exact SV.sm s h
  | some ls =>
    obtain ⟨q, e, hs, hk⟩ := h
    exact ⟨q, e, sqT_same s hs, hk⟩
/-- what making must give -/
def DueM (H : Hp) (a : Addr) (v p1 p2 : V) (o1 o2 : Option Int) : Option (List Int) → Prop
  | none => H a = some (.tup [.str "InvalidLot", v])
  | some ls => (bad1 ls p1 o1 = true → H a = some (.tup [.str "InvalidMark", p1])) ∧ (bad1 ls p1 o1 = false → bad2 ls p1 p2 o2 = true → H a = some (.tup [.str "InvalidMark", p2])) ∧
    (bad1 ls p1 o1 = false → bad2 ls p1 p2 o2 = false → H a = some (.tup [.str "made", v, p1, p2]))
def spMDue (K : PySem.W.Frag) : Sp := fun vs H Q _ => ∃ v p1 p2 o1 o2 so, vs = [v, p1, p2] ∧ NV K H p1 o1 ∧ NV K H p2 o2 ∧ SetV K H v so ∧ ∀ a H', Same H H' → DueM H' a v p1 p2 o1 o2 (lotOf so) → Q (.ref a) H'
def spWords (K : PySem.W.Frag) : Sp := fun vs H Q _ => ∃ q ls up dn, vs = [.ref q, mV up, mV dn] ∧ SqT K H q (ls.map V.int) ∧ Lot ls up dn ∧ ∀ H', Same H H' → Q (.str (rowText ls up dn)) H'
theorem all_flat (ls : List Int) : (ls.map V.int).all flatV = true := by
  rw [List.all_eq_true]
  exact fun x hx => flat_mem hx
section
variable {P : Program} {w : World} {K : PySem.W.Frag} {mg : Str → Option Value} {base : Heap}
theorem ok_mdue {f fS fK : Addr} {fd fdS fdK : FuncData} (F : Fun K "_law_make_due" "_law_make_due" s_l_make_due f fd)
    (gS : mg "_law_is_set" = some (.ref fS)) (FS : FnOk P w K mg base CX0 2 fS fdS ["_law_v"] (spSet K)) (kS : PySem.W.keepIn K (.ref fS) = true) (bS : Binds K fdS ["_law_v"] [])
    (gK : mg "_law_is_key" = some (.ref fK)) (FK : FnOk P w K mg base CX0 1 fK fdK ["_law_v"] (spKey K)) (kK : PySem.W.keepIn K (.ref fK) = true) (bK : Binds K fdK ["_law_v"] []) :
    FnOk P w K mg base CX0 3 f fd ["_law_v", "_law_p", "_law_q"] (spMDue K) := by
  refine F.ok sc_l_make_due (fun vs H Q E h => ?_) (fun cdv A outer s H vs Q E hr h => ?_)
  · obtain ⟨v, p1, p2, o1, o2, so, rfl, _⟩ := h
    rfl
  · obtain ⟨v, p1, p2, o1, o2, so, rfl, n1, n2, sv, k⟩ := h
    have hu : (A.deeper (PyProof.Rows.envOfC "_law_make_due" (defScope s_l_make_due) s.heap.objs.size f cdv)).units + 64 < cLine := hr.units
    have hr1 : Room 1 _ := hr.mono (by decide)
    refine ⟨_, (pss_cut (ps_if (PW.pt (pw_or (pt_not (pt_val (pe_call FS hr (by rfl) gS kS bS .nil pass0 (pa_cons (pv 0) pa_nil)))) (pw_or1 (pt_cmpR (op_eqD hu) (pv 0) (pe_tup pa_nil) (nomark _))))) (pss_one (ps_ret (pe_tup (pa_cons pe_str (pa_cons (pv 0) pa_nil))))) pss_nil)
      (pss_cut (ps_if (PW.pt (pw_and (pt_cmpR op_notN (pv 1) pe_non (nomark _)) (pw_and1 (pt_not (PW.pt (pw_and (pt_val (pe_call FK hr1 (by rfl) gK kK bK .nil pass0 (pa_cons (pv 1) pa_nil))) (pw_and1 (pt_cmpR op_in_seq (pv 1) (pv 0) (by rfl))))))))) (pss_one (ps_ret (pe_tup (pa_cons pe_str (pa_cons (pv 1) pa_nil))))) pss_nil)
      (pss_cut (ps_if (PW.pt (pw_and (pt_cmpR op_notN (pv 2) pe_non (nomark _)) (pw_and1 (pt_not (PW.pt (pw_and (pt_cmpR op_isN (pv 1) pe_non (nomark _)) (pw_and (pt_val (pe_call FK hr1 (by rfl) gK kK bK .nil pass0 (pa_cons (pv 2) pa_nil))) (pw_and1 (pt_cmpR op_in_seq (pv 2) (pv 0) (by rfl)))))))))) (pss_one (ps_ret (pe_tup (pa_cons pe_str (pa_cons (pv 2) pa_nil))))) pss_nil)
      (pss_one (ps_ret (pe_tup (pa_cons pe_str (pa_cons (pv 0) (pa_cons (pv 1) (pa_cons (pv 2) pa_nil)))))))))), ?_⟩
    refine ⟨fun σ H' => ∃ ls q, σ = [some v, some p1, some p2] ∧ Same H H' ∧ v = .ref q ∧ SqT K H' q (ls.map V.int) ∧ KSet ls ∧ lotOf so = some ls, ?_, ?_⟩
    · refine ⟨_, rfl, v, so.isSome, rfl, sv.sv, fun H1 s1 => ⟨_, rfl, ?_⟩⟩
      cases so with
      | none => exact iteT ⟨_, rfl, (by show 2 ≤ sizeLine; decide), fun a ha => k a _ (Same.new s1 ha) upd_same⟩
      | some ls =>
        obtain ⟨q, rfl, hs, hk⟩ := sv
        refine iteF ⟨_, rfl, (by decide), fun De hDe => ?_⟩
        have s2 := Same.new s1 (o := .tup []) hDe
        have hs2 := sqT_same s2 hs
        refine ⟨.tuple (ls.map .int), .tuple [], .tup hs2 (dpAll_ints ls), .tup (SqT.of upd_same) .nil, shaped_tup ls, shaped_tup [], _, rfl, ite2 (fun a => ?_) (fun a => ?_)⟩
        · cases ls with
          | cons x y => simp [PyData.eqv, PyData.eqvAll] at a
          | nil => exact ⟨_, rfl, (by show 2 ≤ sizeLine; decide), fun a ha => k a _ (Same.new s2 ha) upd_same⟩
        · cases ls with
          | nil => exact absurd (by simp [PyData.eqv, PyData.eqvAll]) a
          | cons x y => exact ⟨_, q, rfl, s2, rfl, hs2, hk, rfl⟩
    rintro σ H1 ⟨ls, q, rfl, s1, rfl, hs, hk, el⟩
    rw [el] at k
    have live : ∀ {o : Option Int} {p : V}, NV K H1 p o → keyB o = true → ∃ i, p = .int i ∧ liveB ls o = decide (i ∈ ls) := fun {o p} n e => by
      cases n with
      | int i => exact ⟨i, rfl, liveB_key hk i⟩
      | no t b1 b2 ty h1 h2 h3 => cases e
    have dead : ∀ {o : Option Int}, ¬ keyB o = true → liveB ls o = false := fun {o} e => by
      cases o with
      | none => rfl
      | some i =>
        show (keyB (some i) && decide (i ∈ ls)) = false
        rw [Bool.eq_false_iff.mpr e, Bool.false_and]
    refine ⟨fun σ H' => σ = [some (.ref q), some p1, some p2] ∧ H' = H1 ∧ bad1 ls p1 o1 = false, ?_, ?_⟩
    · have tell : bad1 ls p1 o1 = true → [V.str "InvalidMark", p1].length ≤ sizeLine ∧ ∀ a, H1 a = none → Q (.ref a) (upd H1 a (.tup [.str "InvalidMark", p1])) := fun b =>
        ⟨(by show 2 ≤ sizeLine; decide), fun a ha => k a _ (Same.new s1 ha) ⟨fun _ => upd_same, (fun b' => by rw [b] at b'; cases b'), (fun b' => by rw [b] at b'; cases b')⟩⟩
      refine ⟨_, rfl, rfl, _, rfl, ite2 (fun a => ?_) (fun a => ⟨rfl, rfl, by unfold bad1; rw [Bool.eq_false_iff.mpr a, Bool.false_and]⟩)⟩
      refine ⟨_, rfl, p1, o1, rfl, n1.sm s1, _, rfl, ite2 (fun b => ?_) (fun b => ?_)⟩
      · obtain ⟨i, rfl, el⟩ := live (n1.sm s1) b
        refine ⟨_, rfl, _, rfl, q, _, rfl, .inr hs, rfl, all_flat ls, ?_⟩
        show ∃ b, V.bl (inV (.int i) (ls.map V.int)) = .bl b ∧ _
        rw [inV_ints, ← el]
        refine ⟨_, rfl, ?_⟩
        cases e : liveB ls o1 with
        | true => exact iteF ⟨rfl, rfl, by unfold bad1; rw [e]; simp⟩
        | false => exact iteT ⟨_, rfl, tell (by unfold bad1; rw [a, e]; rfl)⟩
      · exact iteT ⟨_, rfl, tell (by unfold bad1; rw [a, dead b]; rfl)⟩
    rintro σ H' ⟨rfl, rfl, g1⟩
    refine ⟨fun σ H2 => σ = [some (.ref q), some p1, some p2] ∧ H2 = H' ∧ bad2 ls p1 p2 o2 = false, ?_, ?_⟩
    · have tell : bad2 ls p1 p2 o2 = true → [V.str "InvalidMark", p2].length ≤ sizeLine ∧ ∀ a, H' a = none → Q (.ref a) (upd H' a (.tup [.str "InvalidMark", p2])) := fun b =>
        ⟨(by show 2 ≤ sizeLine; decide), fun a ha => k a _ (Same.new s1 ha) ⟨(fun b' => by rw [g1] at b'; cases b'), (fun _ _ => upd_same), (fun _ b' => by rw [b] at b'; cases b')⟩⟩
      refine ⟨_, rfl, rfl, _, rfl, ite2 (fun a => ?_) (fun a => ⟨rfl, rfl, by unfold bad2; rw [Bool.eq_false_iff.mpr a, Bool.false_and]⟩)⟩
      refine ⟨_, rfl, rfl, _, rfl, ite2 (fun c => ?_) (fun c => ?_)⟩
      · refine ⟨_, rfl, p2, o2, rfl, n2.sm s1, _, rfl, ite2 (fun b => ?_) (fun b => ?_)⟩
        · obtain ⟨i, rfl, el⟩ := live (n2.sm s1) b
          refine ⟨_, rfl, _, rfl, q, _, rfl, .inr hs, rfl, all_flat ls, ?_⟩
          show ∃ b, V.bl (inV (.int i) (ls.map V.int)) = .bl b ∧ _
          rw [inV_ints, ← el]
          refine ⟨_, rfl, ?_⟩
          cases e : liveB ls o2 with
          | true => exact iteF ⟨rfl, rfl, by unfold bad2; rw [e, c]; simp⟩
          | false => exact iteT ⟨_, rfl, tell (by unfold bad2; rw [a, e, c]; rfl)⟩
        · exact iteT ⟨_, rfl, tell (by unfold bad2; rw [a, dead b, c]; rfl)⟩
      · exact iteT ⟨_, rfl, tell (by unfold bad2; rw [a, Bool.eq_false_iff.mpr c]; rfl)⟩
    rintro σ H2 ⟨rfl, rfl, g2⟩
    exact ⟨_, rfl, _, rfl, _, rfl, (by show 4 ≤ sizeLine; decide), fun a ha => k a _ (Same.new s1 ha) ⟨(fun b' => by rw [g1] at b'; cases b'), (fun _ b' => by rw [g2] at b'; cases b'), fun _ _ => upd_same⟩⟩
theorem ok_words {f : Addr} {fd : FuncData} (F : Fun K "_law_words" "_law_words" s_l_words f fd) (gStr : mg "str" = none) : FnOk P w K mg base CX0 1 f fd ["_law_v", "_law_p", "_law_q"] (spWords K) := by
  refine F.ok sc_l_words (fun vs H Q E h => ?_) (fun cdv A outer s H vs Q E hr h => ?_)
  · obtain ⟨q, ls, up, dn, rfl, _⟩ := h
    rfl
  · obtain ⟨q, ls, up, dn, rfl, hs, L, k⟩ := h
    have nd := sc_l_words.nd
    refine ⟨_, pss_one (ps_ret (pe_join pe_str (pe_lc (own := [("_law_k", 3)]) (g := gName 3) (tt := tYes) (te := tOp (fun x y H Q => ∃ i j, x = .str i ∧ y = .str j ∧ i.length + j.length ≤ sizeLine ∧ Q (.str (i ++ j)) H) (tIf (tTest (tOp rEq (tVar 3) (tVar 1))) (tC (.str "+")) (tIf (tTest (tOp rEq (tVar 3) (tVar 2))) (tC (.str "-")) (tC (.str "")))) (tCB (fun xs H Q => ∃ i, xs = [.int i] ∧ i.natAbs.log2 < 1920 ∧ Q (.str (toString i)) H) (tCons (tVar 3) tNil))) rfl nd
        (pi_tup (pv 0)) (blkOk_by (N := N_l_words) (sc := defScope s_l_words) (by decide +kernel))
        (fun _ _ _ _ _ => pg_name (i := 3) nd rfl (Or.inl rfl)) (fun _ _ _ _ _ => pts_nil) (fun _ _ _ _ _ => pe_op op_add_str (pe_ifExp (pt_cmpR op_eq (pv 3) (pv 1) (nomark _)) pe_str (pe_ifExp (pt_cmpR op_eq (pv 3) (pv 2) (nomark _)) pe_str pe_str)) (pe_callTy call_str_int (by rfl) gStr (by decide +kernel) (pa_cons (pv 3) pa_nil)))))), ?_⟩
    let tx : Int → Str := fun k => sgn up dn k ++ (toString k : Str)
    refine ⟨⟨_, rfl⟩, _, rfl, q, rfl, ⟨_, hs⟩, fun D hD => lc_tup (K := K) (a := q) (xs := ls.map V.int) (fun i H' => Same H H' ∧ H' D = some (.lst (((ls.take i).map tx).map V.str)))
      ⟨Same.new (Same.refl H) hD, upd_same⟩ (fun i H' _ p => sqT_same p.1 hs) (fun i x H' hx p => ?_) (fun H1 p => ?_)⟩
    · obtain ⟨z, rfl, hz⟩ := ints_at hx
      obtain ⟨s1, hd⟩ := p
      have hm := List.mem_of_getElem? hz
      have z0 := L.ks.lo z hm
      have z1 := L.ks.hi z hm
      have few := L.few
      have hil : i < ls.length := (List.getElem?_eq_some_iff.mp hz).1
      have kl := key_len z0 z1
      have gl := sgn_len up dn z
      refine ⟨rfl, _, rfl, _, rfl, by cases up <;> rfl, _, rfl, ite2 (fun a => ?_) (fun a => ⟨_, rfl, _, rfl, by cases dn <;> rfl, _, rfl, ite2 (fun b => ?_) (fun b => ?_)⟩)⟩
      · have ex : (Str.ofString "+") = sgn up dn z := by unfold sgn; rw [if_pos a]
        rw [ex]
        refine ⟨_, rfl, z, rfl, log_lt (by omega), _, _, rfl, rfl, by rw [sizeLine_eq]; omega, _, hd, ?_, (fun c o e => ?_), ?_⟩
        · rw [List.length_map, List.length_map, List.length_take, sizeLine_eq]; omega
        · rw [upd_ne (ne_of_none e hD)]
          exact s1 c o e
        · rw [upd_same, List.take_add_one, hz, List.map_append, List.map_append]; rfl
      · have ex : (Str.ofString "-") = sgn up dn z := by unfold sgn; rw [if_neg a, if_pos b]
        rw [ex]
        refine ⟨_, rfl, z, rfl, log_lt (by omega), _, _, rfl, rfl, by rw [sizeLine_eq]; omega, _, hd, ?_, (fun c o e => ?_), ?_⟩
        · rw [List.length_map, List.length_map, List.length_take, sizeLine_eq]; omega
        · rw [upd_ne (ne_of_none e hD)]
          exact s1 c o e
        · rw [upd_same, List.take_add_one, hz, List.map_append, List.map_append]; rfl
      · have ex : (Str.ofString "") = sgn up dn z := by unfold sgn; rw [if_neg a, if_neg b]
        rw [ex]
        refine ⟨_, rfl, z, rfl, log_lt (by omega), _, _, rfl, rfl, by rw [sizeLine_eq]; omega, _, hd, ?_, (fun c o e => ?_), ?_⟩
        · rw [List.length_map, List.length_map, List.length_take, sizeLine_eq]; omega
        · rw [upd_ne (ne_of_none e hD)]
          exact s1 c o e
        · rw [upd_same, List.take_add_one, hz, List.map_append, List.map_append]; rfl
    · obtain ⟨s1, hd⟩ := p
      rw [List.length_map, List.take_length] at hd
      have few := L.few
      refine ⟨_, D, ls.map tx, rfl, rfl, .inl (SqL.of hd), ?_, k H1 s1⟩
      have hsum : ∀ l : List Int, (∀ k ∈ l, 0 ≤ k ∧ k ≤ 999) → ((l.map tx).map (·.length)).sum ≤ l.length * 5 := fun l => by
        induction l with
        | nil => intro _; simp
        | cons a r ih =>
          intro h
          have h1 := h a List.mem_cons_self
          have h2 := ih fun y hy => h y (List.mem_cons_of_mem _ hy)
          have h3 := sgn_len up dn a
          have h4 := key_len h1.1 h1.2
          have h5 : (tx a).length = (sgn up dn a).length + (toString a : Str).length := Str.length_append _ _
          rw [List.map_cons, List.map_cons, List.sum_cons, List.length_cons]
          omega
      have := hsum ls fun k hk => ⟨L.ks.lo k hk, L.ks.hi k hk⟩
      show ((ls.map tx).map (·.length)).sum + (ls.map tx).length * 1 ≤ 16777216
      rw [List.length_map]
      omega
end
end K03

end

section
set_option Elab.async false
set_option linter.all false
set_option maxRecDepth 100000
set_option maxHeartbeats 4000000
/-! what as_row makes of a value. -/
namespace K03
open PySem L2 SB
/-- the kind of a value for as_row: a row, a lot, or nothing -/
inductive AsV (K : PySem.W.Frag) (C : Addr) (H : Hp) (v : V) : Seen → Bool → Prop
  | row {r q : Addr} {ls : List Int} {up dn : Option Int} (e : v = .ref r) (h : RowAt C H r q up dn) (hs : SqT K H q (ls.map V.int)) (L : Lot ls up dn) : AsV K C H v (some (ls, up, dn)) true
  | lot {q : Addr} {ls : List Int} {t : Value} (e : v = .ref q) (hs : SqT K H q (ls.map V.int)) (L : Lot ls none none) (ty : TyX K H v t) (hk : PySem.W.kitOne K t (.ref C) = some false) (hn : PySem.W.notFirst K C t = true) : AsV K C H v (some (ls, none, none)) false
  | no {t : Value} (ty : TyX K H v t) (hk : PySem.W.kitOne K t (.ref C) = some false) (lv : LV K H v false) : AsV K C H v none false
def DueA (K : PySem.W.Frag) (H : Hp) (a : Addr) : Seen → Bool → Prop
  | none, _ => H a = some (.tup [.str "InvalidRow", .int 0])
  | some (ls, up, dn), b => ∃ q, H a = some (.tup [.str "made", .ref q, mV up, mV dn, .bl b]) ∧ SqT K H q (ls.map V.int)
def spLAs (K : PySem.W.Frag) (C : Addr) : Sp := fun vs H Q _ => ∃ v nm o b, vs = [v, .bl nm] ∧ AsV K C H v o b ∧ ∀ a H', Same H H' → DueA K H' a o b → Q (.ref a) H'
abbrev wAsR (K : PySem.W.Frag) (CI : Addr) : Ends → WX := fun D => wAs K (.ref CI) 3 (fun a cls d => tRet (tTup (tCons (tXf a cls d CI "code" (tVar 3)) (tCons (tXf a cls d CI "at" (tVar 3)) tNil)))) (fun _ _ _ _ => False) D
section
variable {P : Program} {w : World} {K : PySem.W.Frag} {mg : Str → Option Value} {base : Heap}
theorem ok_las {f C CI fI fA fE : Addr} {fd fdA fdE : FuncData} (F : Fun K "_law_as" "_law_as" s_l_as f fd) (T : RowT K C) (hnf : PySem.W.notFirst K C (.ref C) = true)
    (X : XFacts K mg "InvalidRow" CI fI bmVE "ValueError.__new__") (nat : PySem.W.findIn K (.ref CI) "at" = some none)
    (gA : mg "as_row" = some (.ref fA)) (FA : FnOk P w K mg base (L2.CX P w) 7 fA fdA ["value"] (spAs K C CI)) (kA : PySem.W.keepIn K (.ref fA) = true) (bA : Binds K fdA ["value"] []) (kbA : KBinds K fdA ["value"] ["value"] g1 g1)
    (hsE : PySem.W.findIn K (.ref C) "__eq__" = some (some (.ref fE))) (hfE : PySem.W.isFn K (.ref fE) = true) (FE : FnOk P w K mg base CX0 1 fE fdE ["self", "other"] (spEqR K C)) (bE : Binds K fdE ["self", "other"] []) :
    FnOk P w K mg base CX0 8 f fd ["_law_v", "_law_named"] (spLAs K C) := by
  refine F.ok sc_l_as (fun vs H Q E h => ?_) (fun cdv A' outer s H vs Q E hr h => ?_)
  · obtain ⟨v, nm, o, b, rfl, _⟩ := h
    rfl
  · obtain ⟨v, nm, o, b, rfl, av, k⟩ := h
    have hr1 : Room 1 _ := hr.mono (by decide)
    refine ⟨_, pss_one (ps_try_clauses (Wout := fun _ _ _ _ => False)
      (tb := fun W => tSeq (tAsg (tIf (tTest (tVar 1)) (tKW (spAs K C CI) g1 (WE W) (tCons (tVar 0) tNil)) (tCallS (spAs K C CI) (WE W) (tCons (tVar 0) tNil))) (gName 2))
        (tRet (tTup (tCons (tC (.str "made")) (tCons (tFld K (tVar 2) "lot") (tCons (tFld K (tVar 2) "coming") (tCons (tFld K (tVar 2) "going") (tCons (tOp (rEqO K C (spEqR K C) false) (tVar 2) (tVar 0)) tNil))))))))
      (wW := wAsR K CI)
      rfl rfl sc_l_as.nd takes0
      (fun W pn xe tk _ => pss_cons (ps_set (i := 2) sc_l_as.nd rfl (Or.inl rfl) (pe_ifExp (pt_val (pv 1)) (pe_callKW FA hr (by rfl) gA kA kbA (fun σ => passAt tk σ) (pk_cons (pv 0) pk_nil)) (pe_callS FA hr (by rfl) gA kA bA (fun σ => passAt tk σ) (pa_cons (pv 0) pa_nil))))
        (pss_one (ps_ret (pe_tup (pa_cons pe_str (pa_cons (pe_fld (pv 2) rfl) (pa_cons (pe_fld (pv 2) rfl) (pa_cons (pe_fld (pv 2) rfl) (pa_cons (pe_cmpR (op_eqO hsE hfE FE hr1 bE) (pv 2) (pv 0) (nomark _)) pa_nil)))))))))
      (fun D => .more (i := 3) rfl rfl ⟨rfl, by decide, .inl X.g⟩ (fun a oe cls d pn hz hf => pss_one (ps_ret (pe_tup (pa_cons (pe_xf X.F X.nC hz hf (pv 3)) (pa_cons (pe_xf X.F nat hz hf (pv 3)) pa_nil))))) .done)), ?_⟩
    have rv : RVw K C H v o := by
      cases av with
      | row e h hs L => exact .inl ⟨_, _, e, h, hs, L⟩
      | lot e hs L ty hk hn => exact .inr ⟨_, e, rfl, rfl, hs, L, _, ty, hk⟩
      | no ty hk lv => exact ⟨⟨_, ty, hk⟩, lv⟩
    have main : match (generalizing := false) o with
        | some (ls, up, dn) => ∀ r q H', Same H H' → RowAt C H' r q up dn → SqT K H' q (ls.map V.int) → Lot ls up dn → tRet (tTup (tCons (tC (.str "made")) (tCons (tFld K (tVar 2) "lot") (tCons (tFld K (tVar 2) "coming") (tCons (tFld K (tVar 2) "going") (tCons (tOp (rEqO K C (spEqR K C) false) (tVar 2) (tVar 0)) tNil)))))) { nx := fun _ H' => Q .non H', rt := Q } [some v, some (.bl nm), some (.ref r), none] H'
        | none => ∀ d H', Same H H' → H' d = none → wAsR K CI { nx := fun _ H' => Q .non H', rt := Q } (.ref CI) (some d) (L2.start ["_law_v", "_law_named", "_law_made", "e"] [v, .bl nm]) (upd H' d (.xd (fs1 "InvalidRow" "at" [.int 0]))) := by
      cases av with
      | no ty hk lv => exact fun d H' s1 hd => ⟨true, X.me, fun _ a ha => ⟨_, rfl, rfl, rfl, d, _, _, rfl, upd_same, rfl, _, rfl, rfl, rfl, d, _, _, rfl, upd_same, rfl, (by show 2 ≤ sizeLine; decide), fun t ht => k t _ (Same.new (Same.new s1 hd) ht) upd_same⟩, fun q => nomatch q⟩
      | @row r0 q0 ls up dn e h hs L =>
        subst e
        intro r q H' s1 ra hq _
        obtain ⟨dx, ha⟩ := id ra
        refine ⟨_, rfl, r, C, dx, _, _, rfl, ha, T.c.cl, T.c.nL, rfl, _, rfl, r, C, dx, _, _, rfl, ha, T.c.cl, T.c.nC, rfl, _, rfl, r, C, dx, _, _, rfl, ha, T.c.cl, T.c.nG, rfl, _, rfl, _, rfl, r, dx, _, .ref C, rfl, ha, T.ty (h.sm s1), hnf, r, q, ls, up, dn, .ref r0, some (ls, up, dn), rfl, ra, hq, L.few, ⟨r0, q0, rfl, h.sm s1, sqT_same s1 hs, L.few⟩, true, by simp [eqRow], (by show 5 ≤ sizeLine; decide), fun a ha' => k a _ (Same.new s1 ha') ⟨q, upd_same, sqT_same (Same.new (Same.refl H') ha') hq⟩⟩
      | @lot q0 ls t e hs L ty hk hn =>
        subst e
        intro r q H' s1 ra hq _
        obtain ⟨dx, ha⟩ := id ra
        refine ⟨_, rfl, r, C, dx, _, _, rfl, ha, T.c.cl, T.c.nL, rfl, _, rfl, r, C, dx, _, _, rfl, ha, T.c.cl, T.c.nC, rfl, _, rfl, r, C, dx, _, _, rfl, ha, T.c.cl, T.c.nG, rfl, _, rfl, _, rfl, r, dx, _, t, rfl, ha, tyX_sm s1 ty, hn, r, q, ls, none, none, .ref q0, none, rfl, ra, hq, L.few, ⟨t, tyX_sm s1 ty, hk⟩, false, rfl, (by show 5 ≤ sizeLine; decide), fun a ha' => k a _ (Same.new s1 ha') ⟨q, upd_same, sqT_same (Same.new (Same.refl H') ha') hq⟩⟩
    refine ⟨_, rfl, nm, rfl, ?_⟩
    cases nm with
    | true => exact iteT ⟨_, rfl, v, o, rfl, rv, main⟩
    | false => exact iteF ⟨_, rfl, v, o, rfl, rv, main⟩
end
end K03

end

section
set_option Elab.async false
set_option linter.all false
set_option maxRecDepth 100000
set_option maxHeartbeats 4000000
/-! a text bent. -/
namespace K03
open PySem L2 SB
theorem cut_sm {n : Nat} {z : Str} {lo hi : Option Int} (h : Sm n z) : Sm n (cutS z lo hi) := by
  have hl : z.cps.toList.length = z.length := Array.length_toList
  have e : (cutS z lo hi).cps.toList = (z.cps.toList.drop (HT.sIx z.length 0 lo)).take (HT.sIx z.length z.length hi - HT.sIx z.length 0 lo) := rfl
  refine ⟨?_, fun c hc => h.2 c ?_⟩
  · have : (cutS z lo hi).cps.toList.length = (cutS z lo hi).length := Array.length_toList
    rw [e, List.length_take, List.length_drop] at this
    have := h.1
    omega
  · rw [e] at hc
    exact List.mem_of_mem_drop (List.mem_of_mem_take hc)
theorem app_sm {n m : Nat} {x y : Str} (h : Sm n x) (g : Sm m y) : Sm (n + m) (x ++ y) := by
  refine ⟨by rw [Str.length_append]; have := h.1; have := g.1; omega, fun c hc => ?_⟩
  have : c ∈ x.cps.toList ++ y.cps.toList := by
    have e : (x ++ y).cps = x.cps ++ y.cps := rfl
    rw [e, Array.toList_append] at hc
    exact hc
  exact (List.mem_append.mp this).elim (h.2 c) (g.2 c)
theorem cut_two (z : Str) (d e : Nat) : (cutS z none (some (d : Int))).length + (cutS z (some ((d : Int) + (e : Int))) none).length ≤ z.length := by
  have hl : z.cps.toList.length = z.length := Array.length_toList
  have a1 : HT.sIx z.length z.length (some (d : Int)) = min d z.length := HT.sIx_nat _ _ d
  have a2 : HT.sIx z.length 0 (some ((d : Int) + (e : Int))) = min (d + e) z.length := HT.sIx_nat _ _ (d + e)
  have e1 : (cutS z none (some (d : Int))).cps.toList.length = (cutS z none (some (d : Int))).length := Array.length_toList
  have e2 : (cutS z (some ((d : Int) + (e : Int))) none).cps.toList.length = (cutS z (some ((d : Int) + (e : Int))) none).length := Array.length_toList
  have f1 : (cutS z none (some (d : Int))).cps.toList = (z.cps.toList.drop (HT.sIx z.length 0 none)).take (HT.sIx z.length z.length (some (d : Int)) - HT.sIx z.length 0 none) := rfl
  have f2 : (cutS z (some ((d : Int) + (e : Int))) none).cps.toList = (z.cps.toList.drop (HT.sIx z.length 0 (some ((d : Int) + (e : Int))))).take (HT.sIx z.length z.length none - HT.sIx z.length 0 (some ((d : Int) + (e : Int)))) := rfl
  rw [f1, List.length_take, List.length_drop, HT.sIx_none, a1] at e1
  rw [f2, List.length_take, List.length_drop, HT.sIx_none, a2] at e2
  omega
def spBent (K : PySem.W.Frag) : Sp := fun vs H Q _ => ∃ (b l : Addr) (z : Str) (n : Nat), vs = [.ref b, .str z] ∧ BagL H b l ∧ Sm n z ∧ n ≤ 80000 ∧ ∀ z' H', Sm (n + 10) z' → BagL H' b l → Keep b H H' → Q (.str z') H'
section
variable {P : Program} {w : World} {K : PySem.W.Frag} {mg : Str → Option Value} {base : Heap}
theorem ok_bent {f fD fO : Addr} {fd fdD fdO : FuncData} (F : Fun K "_law_bent" "_law_bent" s_l_bent f fd) (gLen : mg "len" = none)
    (gD : mg "_law_draw" = some (.ref fD)) (FD : FnOk P w K mg base CX0 1 fD fdD ["_law_bag_here", "_law_top"] spDrawL) (kD : PySem.W.keepIn K (.ref fD) = true) (bD : Binds K fdD ["_law_bag_here", "_law_top"] [])
    (gO : mg "_law_of" = some (.ref fO)) (FO : FnOk P w K mg base CX0 2 fO fdO ["_law_bag_here", "_law_some"] (spOfL K)) (kO : PySem.W.keepIn K (.ref fO) = true) (bO : Binds K fdO ["_law_bag_here", "_law_some"] []) :
    FnOk P w K mg base CX0 3 f fd ["_law_bag_here", "_law_v"] (spBent K) := by
  refine F.ok sc_l_bent (fun vs H Q E h => ?_) (fun cdv A outer s H vs Q E hr h => ?_)
  · obtain ⟨b, l, z, n, rfl, _⟩ := h
    rfl
  · obtain ⟨b, l, z, n, rfl, B, hz, hn, k⟩ := h
    have nd := sc_l_bent.nd
    have hr1 : Room 1 _ := hr.mono (by decide)
    refine ⟨_, (pss_cut (ps_set (i := 2) nd rfl (Or.inl rfl) (pe_call FD hr1 (by rfl) gD kD bD .nil pass0 (pa_cons (pv 0) (pa_cons (pe_op op_add (pe_callB call_len_str (by rfl) gLen PySem.boot_len (pa_cons (pv 1) pa_nil)) pe_int) pa_nil)))) (pss_cut (ps_set (i := 3) nd rfl (Or.inl rfl) (pe_call FO hr (by rfl) gO kO bO .nil pass0 (pa_cons (pv 0) (pa_cons (pe_lst (pa_cons pe_str (pa_cons pe_str (pa_cons pe_str (pa_cons pe_str (pa_cons pe_str (pa_cons pe_str (pa_cons pe_str (pa_cons pe_str (pa_cons pe_str (pa_cons pe_str (pa_cons pe_str (pa_cons pe_str (pa_cons pe_str (pa_cons pe_str (pa_cons pe_str (pa_cons pe_str (pa_cons pe_str pa_nil)))))))))))))))))) pa_nil)))) (pss_one (ps_ret (pe_op op_add_str (pe_op op_add_str (pe_slice sl_str (pv 1) po_none (po_some (pv 2))) (pv 3)) (pe_slice sl_str (pv 1) (po_some (pe_op op_add (pv 2) (pe_call FD hr1 (by rfl) gD kD bD .nil pass0 (pa_cons (pv 0) (pa_cons pe_int pa_nil))))) po_none)))))), ?_⟩
    refine ⟨fun σ H' => ∃ d : Nat, σ = [some (.ref b), some (.str z), some (.int (d : Int)), none] ∧ BagL H' b l ∧ Keep b H H', ?_, ?_⟩
    · refine ⟨_, rfl, _, rfl, z, rfl, (by rw [sizeLine_eq]; have := hz.1; omega), _, _, rfl, rfl, b, l, _, rfl, B, (by omega), ?_, fun d H1 d0 d1 B1 k1 _ => ⟨d.toNat, by rw [Int.toNat_of_nonneg d0]; rfl, B1, k1⟩⟩
      exact Nat.lt_of_lt_of_le (log_lt (by have := hz.1; omega)) (by decide)
    rintro σ H1 ⟨d, rfl, B1, K1⟩
    refine ⟨fun σ H' => ∃ c : Str, σ = [some (.ref b), some (.str z), some (.int (d : Int)), some (.str c)] ∧ Sm 5 c ∧ BagL H' b l ∧ Keep b H H', ?_, ?_⟩
    · refine ⟨_, rfl, (by show 17 ≤ sizeLine; decide), fun q hq => ?_⟩
      refine of_seqL (E := E0) (B1.new hq) (B1.ne hq) (.inl (SqL.of upd_same)) (by show 0 < 17; decide) (by show 17 < 2 ^ 62; decide) fun v H2 hv B2 k2 _ => ?_
      obtain ⟨c, rfl, hc⟩ : ∃ c : Str, v = .str c ∧ Sm 5 c := by
        simp only [List.mem_cons, List.not_mem_nil, or_false] at hv
        rcases hv with rfl | rfl | rfl | rfl | rfl | rfl | rfl | rfl | rfl | rfl | rfl | rfl | rfl | rfl | rfl | rfl | rfl <;> exact ⟨_, rfl, by decide, by decide⟩
      exact ⟨c, rfl, hc, B2, (K1.new hq).trans k2⟩
    rintro σ H2 ⟨c, rfl, hc, B2, K2⟩
    have h1 : Sm n (cutS z none (some d)) := cut_sm hz
    have h2 := app_sm h1 hc
    refine ⟨_, rfl, _, rfl, (d : Int), rfl, z, rfl, (by rw [sizeLine_eq]; have := hz.1; omega), _, rfl, _, _, rfl, rfl, by have := h1.1; have := hc.1; rw [sizeLine_eq]; omega, ?_⟩
    refine ⟨_, rfl, _, rfl, _, rfl, b, l, _, rfl, B2, by decide, by decide, fun e H3 e0 e1 B3 k3 _ => ⟨_, _, rfl, rfl, ?_⟩⟩
    have h3 : Sm n (cutS z (some (d + e)) none) := cut_sm hz
    refine ⟨_, rfl, rd_no ⟨z, rfl, (by rw [sizeLine_eq]; have := hz.1; omega), _, _, rfl, rfl, by have := h2.1; have := h3.1; rw [sizeLine_eq]; omega, k _ _ ?_ B3 (K2.trans k3)⟩⟩
    obtain ⟨e', rfl⟩ : ∃ e' : Nat, e = (e' : Int) := ⟨e.toNat, (Int.toNat_of_nonneg e0).symm⟩
    have two := cut_two z d e'
    have h4 := app_sm h2 h3
    refine ⟨?_, h4.2⟩
    rw [Str.length_append, Str.length_append]
    have := hz.1
    have := hc.1
    omega
end
end K03

end

section
set_option Elab.async false
set_option linter.all false
set_option maxRecDepth 100000
set_option maxHeartbeats 8000000
/-! a value that is no key set. -/
namespace K03
open PySem L2 SB
theorem ov_nvk' {b : Addr} {K : PySem.W.Frag} {H : Hp} {v : V} (h : Ov b K H v) : NVk b K H v := let ⟨o, h⟩ := h; ⟨o, fun H' k => (h H' k).1⟩
def tyN : List String := ["NoneType", "bool", "int", "str", "list", "dict", "tuple"]
def NotRow (K : PySem.W.Frag) (C : Addr) : Prop := ∀ T ∈ tyN, PySem.W.kitOne K (.type T) (.ref C) = some false
/-- what is known of a value: its built-in type, whether it is a key set, a number, a text, and, if A, that it is equal to itself -/
def Facts (A : Bool) (K : PySem.W.Frag) (y : V) (T : String) (r : Bool) (o : Option Int) (t : Option Str) (H : Hp) : Prop := TyX K H y (.type T) ∧ SV K H y r ∧ NV K H y o ∧ TV K H y t ∧ (A = true → Alike K H 3 y y)
def Item (A : Bool) (b : Addr) (K : PySem.W.Frag) (H : Hp) (y : V) : Prop := ∃ T r o t, T ∈ tyN ∧ (∀ z, t = some z → Sm 80000 z) ∧ ∀ H', Keep b H H' → Facts A K y T r o t H'
theorem Item.keep {A : Bool} {b : Addr} {K : PySem.W.Frag} {H H' : Hp} {y : V} (x : Item A b K H y) (k : Keep b H H') : Item A b K H' y := let ⟨T, r, o, t, h1, h2, h⟩ := x; ⟨T, r, o, t, h1, h2, fun H2 k2 => h H2 (k.trans k2)⟩
section
variable {A : Bool} {b : Addr} {K : PySem.W.Frag} {H : Hp}
theorem it_ty {y : V} {T : String} {b1 b2 : Bool} (hT : T ∈ tyN) (ty : ∀ H', Keep b H H' → TyX K H' y (.type T)) (h0 : kitB T "tuple" = some false) (hs : kitB T "str" = some false) (h1 : kitB T "int" = some b1) (h2 : kitB T "bool" = some b2) (h : (b1 && !b2) = false) (al : ∀ H', Keep b H H' → Alike K H' 3 y y) : Item A b K H y :=
  ⟨T, false, none, none, hT, (fun z e => nomatch e), fun H' k => ⟨ty H' k, .inl ⟨_, ty H' k, kit_ty h0, rfl⟩, .no _ b1 b2 (ty H' k) (kit_ty h1) (kit_ty h2) h, .no _ (ty H' k) (kit_ty hs), fun _ => al H' k⟩⟩
theorem it_non : Item A b K H .non := it_ty (T := "NoneType") (b1 := false) (b2 := false) (by simp [tyN]) (fun _ _ => .base .non) (by decide +kernel) (by decide +kernel) (by decide +kernel) (by decide +kernel) rfl fun _ _ => al_flat rfl
theorem it_bl (x : Bool) : Item A b K H (.bl x) := it_ty (T := "bool") (b1 := true) (b2 := true) (by simp [tyN]) (fun _ _ => .base (.bl x)) (by decide +kernel) (by decide +kernel) (by decide +kernel) (by decide +kernel) rfl fun _ _ => al_flat rfl
theorem it_str (x : Str) (hx : Sm 80000 x) : Item A b K H (.str x) :=
  ⟨"str", false, none, some x, by simp [tyN], (fun z e => by cases e; exact hx), fun H' k => ⟨.base (.str x), .inl ⟨_, .base (.str x), kit_ty (by decide +kernel), rfl⟩, .no _ false false (.base (.str x)) (kit_ty (by decide +kernel)) (kit_ty (by decide +kernel)) rfl, .str x, fun _ => al_flat rfl⟩⟩
theorem it_int (x : Int) : Item A b K H (.int x) :=
  ⟨"int", false, some x, none, by simp [tyN], (fun z e => nomatch e), fun H' k => ⟨.base (.int x), .inl ⟨_, .base (.int x), kit_ty (by decide +kernel), rfl⟩, .int x, .no _ (.base (.int x)) (kit_ty (by decide +kernel)), fun _ => al_flat rfl⟩⟩
theorem it_lst {p : Addr} {xs : List V} (h : H p = some (.lst xs)) (n : p ≠ b) (hz : xs.length ≤ 2000) (hx : ∀ x ∈ xs, Ov b K H x) : Item A b K H (.ref p) :=
  it_ty (T := "list") (b1 := false) (b2 := false) (by simp [tyN]) (fun _ k => .base (.lst (k _ _ h n))) (by decide +kernel) (by decide +kernel) (by decide +kernel) (by decide +kernel) rfl fun H' k => al_lst (SqL.of (k _ _ h n)) hz fun x m => by
    obtain ⟨o, ho⟩ := hx x m
    exact (ho H' k).2
theorem it_dK {p : Addr} {xs : List (Key × V)} (h : H p = some (.dK xs)) (n : p ≠ b) (hf : ∀ q ∈ xs, valV xs q.1 = some q.2 ∧ flatB q.2 = true) : Item A b K H (.ref p) :=
  it_ty (T := "dict") (b1 := false) (b2 := false) (by simp [tyN]) (fun _ k => .base (.dK (k _ _ h n))) (by decide +kernel) (by decide +kernel) (by decide +kernel) (by decide +kernel) rfl fun H' k => by
    obtain ⟨o, ho⟩ := ov_dct (b := b) (K := K) h n hf
    exact (ho H' k).2.succ
theorem it_seq {p : Addr} {xs : List V} (h : SqT K H p xs) (n : p ≠ b) (hz : xs.length ≤ 2000) (hx : ∀ x ∈ xs, Ov b K H x) : Item A b K H (.ref p) := by
  obtain ⟨os, hos⟩ := pair_nvk fun x m => ov_nvk' (hx x m)
  exact ⟨"tuple", setB os, none, none, by simp [tyN], (fun z e => nomatch e), fun H' k => ⟨ty_tup (seqT_keep k n h), .inr ⟨p, xs, os, rfl, seqT_keep k n h, hz, hos H' k, rfl⟩, .no _ false false (ty_tup (seqT_keep k n h)) (kit_ty (by decide +kernel)) (kit_ty (by decide +kernel)) rfl, .no _ (ty_tup (seqT_keep k n h)) (kit_ty (by decide +kernel)),
    fun _ => al_tup (seqT_keep k n h) hz fun x m => by
      obtain ⟨o, ho⟩ := hx x m
      exact (ho H' k).2⟩⟩
end
/-- what has been gathered so far -/
structure Got (A : Bool) (b l : Addr) (K : PySem.W.Frag) (H0 H : Hp) (vs : List V) : Prop where
  B : BagL H b l
  k : Keep b H0 H
  all : ∀ v ∈ vs, Item A b K H v
section
variable {A : Bool} {b l : Addr} {K : PySem.W.Frag} {H0 H H' : Hp} {vs : List V}
theorem Got.val (g : Got A b l K H0 H vs) {w : V} (i : Item A b K H w) : Got A b l K H0 H (vs ++ [w]) := ⟨g.B, g.k, fun v h => (List.mem_append.mp h).elim (g.all v) fun h => by
  have : v = w := by simpa using h
  rw [this]; exact i⟩
theorem Got.skip (g : Got A b l K H0 H vs) {p : Addr} (hp : H p = none) (o : HO) : Got A b l K H0 (upd H p o) vs := ⟨g.B.new hp, g.k.new hp, fun v h => (g.all v h).keep (Keep.new (Keep.refl b H) hp)⟩
theorem Got.put (g : Got A b l K H0 H vs) {p : Addr} (hp : H p = none) {o : HO} (i : Item A b K (upd H p o) (.ref p)) : Got A b l K H0 (upd H p o) (vs ++ [.ref p]) := (g.skip hp o).val i
theorem Got.lst (g : Got A b l K H0 H vs) {p : Addr} (hp : H p = none) (xs : List V) (hz : xs.length ≤ 2000) (hx : ∀ x ∈ xs, Ov b K H x) : Got A b l K H0 (upd H p (.lst xs)) (vs ++ [.ref p]) := g.put hp (it_lst upd_same (g.B.ne hp) hz fun x h => ok_ (hx x h) (Keep.new (Keep.refl b H) hp))
theorem Got.dK (g : Got A b l K H0 H vs) {p : Addr} (hp : H p = none) (xs : List (Key × V)) (hf : ∀ q ∈ xs, valV xs q.1 = some q.2 ∧ flatB q.2 = true) : Got A b l K H0 (upd H p (.dK xs)) (vs ++ [.ref p]) := g.put hp (it_dK upd_same (g.B.ne hp) hf)
theorem Got.tup (g : Got A b l K H0 H vs) {p : Addr} (hp : H p = none) {xs : List V} (hz : xs.length ≤ 2000) (hx : ∀ x ∈ xs, Ov b K H x) : Got A b l K H0 (upd H p (.tup xs)) (vs ++ [.ref p]) :=
  g.put hp (it_seq (SqT.of upd_same) (g.B.ne hp) hz fun x h => ok_ (hx x h) (Keep.new (Keep.refl b H) hp))
theorem Got.app {H1 : Hp} {ws : List V} (g : Got A b l K H0 H1 vs) (g' : Got A b l K H1 H' ws) : Got A b l K H0 H' (vs ++ ws) := ⟨g'.B, g.k.trans g'.k, fun v h => (List.mem_append.mp h).elim (fun h => (g.all v h).keep g'.k) (g'.all v)⟩
theorem Got.go (g : Got A b l K H0 H vs) (B : BagL H' b l) (k : Keep b H H') : Got A b l K H0 H' vs := ⟨B, g.k.trans k, fun v h => (g.all v h).keep k⟩
end
theorem allA {b : Addr} {K : PySem.W.Frag} {H : Hp} {xs ys : List V} (h : ∀ y ∈ xs, Ov b K H y) (g : ∀ y ∈ ys, Ov b K H y) : ∀ y ∈ xs ++ ys, Ov b K H y := fun y hy => (List.mem_append.mp hy).elim (h y) (g y)
theorem all1 {b : Addr} {K : PySem.W.Frag} {H : Hp} {x : V} (h : Ov b K H x) : ∀ y ∈ [x], Ov b K H y := fun y hy => by
  have : y = x := by simpa using hy
  rw [this]; exact h
theorem all2 {b : Addr} {K : PySem.W.Frag} {H : Hp} {x z : V} (h : Ov b K H x) (g : Ov b K H z) : ∀ y ∈ [x, z], Ov b K H y := fun y hy => by
  simp only [List.mem_cons, List.not_mem_nil, or_false] at hy
  rcases hy with rfl | rfl
  · exact h
  · exact g
/-- a value that is no key set, whatever is drawn later -/
def OddS (A : Bool) (b : Addr) (K : PySem.W.Frag) (H : Hp) (v : V) : Prop := ∃ T o t, T ∈ tyN ∧ (∀ z, t = some z → Sm 80000 z) ∧ ∀ H', Keep b H H' → Facts A K v T false o t H'
theorem key_of_pair {K : PySem.W.Frag} {H : Hp} : ∀ {xs : List V} {os : List (Option Int)}, Paired (NV K H) xs os → (∀ o ∈ os, keyB o = true) → ∀ x ∈ xs, ∃ i, x = .int i
  | [], _, _, _, x, m => by cases m
  | y :: ys, _, .cons n p, h, x, m => by
    rcases List.mem_cons.mp m with rfl | m
    · cases n with
      | int i => exact ⟨i, rfl⟩
      | no t b1 b2 ty h1 h2 h3 => exact absurd (h none List.mem_cons_self) (by decide)
    · exact key_of_pair p (fun o ho => h o (List.mem_cons_of_mem _ ho)) x m
theorem set_keys {os : List (Option Int)} (h : setB os = true) : ∀ o ∈ os, keyB o = true := by
  unfold setB at h
  rw [Bool.and_eq_true] at h
  exact fun o m => List.all_eq_true.mp h.1 o m
theorem odd_lst {A : Bool} {b : Addr} {K : PySem.W.Frag} {H : Hp} {p : Addr} {xs : List V} (h : H p = some (.lst xs)) (n : p ≠ b) (hz : xs.length ≤ 2000) (hx : ∀ x ∈ xs, Ov b K H x) : OddS A b K H (.ref p) :=
  ⟨"list", none, none, by simp [tyN], (fun z e => nomatch e), fun H' k => ⟨.base (.lst (k _ _ h n)), .inl ⟨_, .base (.lst (k _ _ h n)), kit_ty (by decide +kernel), rfl⟩, .no _ false false (.base (.lst (k _ _ h n))) (kit_ty (by decide +kernel)) (kit_ty (by decide +kernel)) rfl, .no _ (.base (.lst (k _ _ h n))) (kit_ty (by decide +kernel)),
    fun _ => al_lst (SqL.of (k _ _ h n)) hz fun x m => by
      obtain ⟨o, ho⟩ := hx x m
      exact (ho H' k).2⟩⟩
theorem cut_tail (z : V) (B : List V) : cutV (z :: B) (some 1) none = B := by
  unfold cutV
  rw [HT.sIx_none, show HT.sIx (z :: B).length 0 (some 1) = min 1 (z :: B).length from HT.sIx_nat _ _ 1, List.length_cons, show min 1 (B.length + 1) = 1 by omega, List.drop_one, List.tail_cons, List.take_of_length_le (by omega)]
def spOddS (A : Bool) (K : PySem.W.Frag) : Sp := fun vs H Q _ => ∃ (b l p m : Addr) (ls : List Int) (ms : List V), vs = [.ref b, .ref p, .ref m] ∧ BagL H b l ∧ p ≠ b ∧ SqT K H p (ls.map V.int) ∧ 0 < ls.length ∧ ls.length ≤ 1000 ∧ H m = some (.lst ms) ∧ m ≠ b ∧ ms.length ≤ 10 ∧ (∀ v ∈ ms, Item A b K H v) ∧
  ∀ v H', OddS A b K H' v → BagL H' b l → Keep b H H' → Q v H'
section
variable {P : Program} {w : World} {K : PySem.W.Frag} {mg : Str → Option Value} {base : Heap}
theorem ok_oddset {A0 : Bool} {f fO fS : Addr} {fd fdO fdS : FuncData} (F : Fun K "_law_odd_set" "_law_odd_set" s_l_odd_set f fd) (gLen : mg "len" = none) (gLst : mg "list" = none)
    (gO : mg "_law_of" = some (.ref fO)) (FO : FnOk P w K mg base CX0 2 fO fdO ["_law_bag_here", "_law_some"] (spOfL K)) (kO : PySem.W.keepIn K (.ref fO) = true) (bO : Binds K fdO ["_law_bag_here", "_law_some"] [])
    (gS : mg "_law_is_set" = some (.ref fS)) (FS : FnOk P w K mg base CX0 2 fS fdS ["_law_v"] (spSet K)) (kS : PySem.W.keepIn K (.ref fS) = true) (bS : Binds K fdS ["_law_v"] []) :
    FnOk P w K mg base CX0 3 f fd ["_law_bag_here", "_law_ks", "_law_more"] (spOddS A0 K) := by
  refine F.ok sc_l_odd_set (fun vs H Q E h => ?_) (fun cdv A outer s H vs Q E hr h => ?_)
  · obtain ⟨b, l, p, m, ls, ms, rfl, _⟩ := h
    rfl
  · obtain ⟨b, l, p, m, ls, ms, rfl, B, npb, hs, h0, hz, hm, nmb, hml, hms, k⟩ := h
    have nd := sc_l_odd_set.nd
    refine ⟨_, pss_cut (ps_set (i := 3) nd rfl (Or.inl rfl) (pe_call FO hr (by rfl) gO kO bO .nil pass0 (pa_cons (pv 0) (pa_cons (pe_op op_cat (pe_callTy call_list_of (by rfl) gLst (by decide +kernel) (pa_cons (pv 1) pa_nil)) (pe_lst (pa_cons pe_int pa_nil))) pa_nil))))
      (pss_cut (ps_set (i := 4) nd rfl (Or.inl rfl) (pe_lst (pa_cons pe_non (pa_cons pe_bl (pa_cons pe_bl (pa_cons pe_int (pa_cons pe_int (pa_cons (pe_un un_neg pe_int) (pa_cons pe_str (pa_cons pe_str (pa_cons pe_str (pa_cons (pe_lst pa_nil) (pa_cons (pe_lst (pa_cons (pv 3) pa_nil)) (pa_cons (pe_callTy call_list_of (by rfl) gLst (by decide +kernel) (pa_cons (pv 1) pa_nil)) (pa_cons pe_dnewK (pa_cons (pe_disp (pps_cons (pv 3) pe_int pps_nil) (by rfl) (by rfl) (fun z => by cases z) (by decide)) (pa_cons (pe_tup (pa_cons pe_bl pa_nil)) (pa_cons (pe_tup (pa_cons (pv 3) (pa_cons (pv 3) pa_nil))) (pa_cons (pe_tup (pa_cons pe_int (pa_cons pe_int pa_nil))) (pa_cons (pe_tup (pa_cons (pe_un un_neg pe_int) pa_nil)) pa_nil))))))))))))))))))))
      (pss_cut (ps_set (i := 4) nd rfl (Or.inl rfl) (pe_op op_cat (pv 4) (pe_lst (pa_cons (pe_tup (pa_cons pe_int (pa_cons pe_int pa_nil))) (pa_cons (pe_tup (pa_cons pe_non pa_nil)) (pa_cons (pe_tup (pa_cons pe_str pa_nil)) (pa_cons (pe_tup (pa_cons (pe_tup (pa_cons (pv 3) pa_nil)) pa_nil)) (pa_cons (pe_tup (pa_cons (pe_lst (pa_cons (pv 3) pa_nil)) pa_nil)) (pa_cons (pe_op op_catT (pv 1) (pe_tup (pa_cons pe_bl pa_nil))) (pa_cons (pe_op op_catT (pe_tup (pa_cons pe_bl pa_nil)) (pv 1)) (pa_cons (pe_op op_catT (pv 1) (pe_tup (pa_cons pe_int pa_nil))) (pa_cons (pe_op op_catT (pe_tup (pa_cons (pe_un un_neg pe_int) pa_nil)) (pv 1)) (pa_cons (pe_op op_catT (pv 1) (pe_tup (pa_cons pe_int (pa_cons pe_int pa_nil)))) pa_nil)))))))))))))
      (pss_cut (ps_if (pt_cmpR op_gt (pe_callB call_len_seq (by rfl) gLen PySem.boot_len (pa_cons (pv 1) pa_nil)) pe_int (nomark _)) (pss_one (ps_set (i := 4) nd rfl (Or.inl rfl) (pe_op op_cat (pv 4) (pe_lst (pa_cons (pe_revT (pv 1)) (pa_cons (pe_op op_catT (pv 1) (pe_slice sl_tup (pv 1) (po_some (pe_un un_neg pe_int)) po_none)) (pa_cons (pe_op op_catT (pe_slice sl_tup (pv 1) po_none (po_some pe_int)) (pv 1)) (pa_cons (pe_op op_catT (pe_slice sl_tup (pv 1) (po_some pe_int) po_none) (pe_slice sl_tup (pv 1) po_none (po_some pe_int))) (pa_cons (pv 1) pa_nil))))))))) pss_nil)
      (pss_cons (ps_set (i := 5) nd rfl (Or.inl rfl) (pe_call FO hr (by rfl) gO kO bO .nil pass0 (pa_cons (pv 0) (pa_cons (pe_op op_cat (pv 4) (pv 2)) pa_nil))))
      (pss_one (ps_ret (pe_ifExp (pt_not (pt_val (pe_call FS hr (by rfl) gS kS bS .nil pass0 (pa_cons (pv 5) pa_nil)))) (pv 5) (pe_callTy call_list_of (by rfl) gLst (by decide +kernel) (pa_cons (pv 5) pa_nil))))))))), ?_⟩
    have G0 : Got A0 b l K H H [] := ⟨B, Keep.refl b H, fun v h => by cases h⟩
    have iI : ∀ {G : Hp} (x : Int), Ov b K G (.int x) := fun x => ov_int x
    have iB : ∀ {G : Hp} (x : Bool), Ov b K G (.bl x) := fun x => ov_bl x
    have iL : ∀ {G : Hp} {x : V}, x ∈ ls.map V.int → Ov b K G x := fun h => by
      obtain ⟨z, rfl, _⟩ := mem_ints h
      exact iI z
    refine ⟨fun σ H' => ∃ z : Int, σ = [some (.ref b), some (.ref p), some (.ref m), some (.int z), none, none] ∧ Got A0 b l K H H' [], ?_, ?_⟩
    · refine ⟨_, rfl, _, rfl, p, _, rfl, .inr hs, fun a1 h1 => ⟨(by show 1 ≤ sizeLine; decide), fun a2 h2 => ?_⟩⟩
      refine ⟨a1, a2, _, _, rfl, rfl, by rw [upd_ne (ne_of_none upd_same h2), upd_same], upd_same, by rw [List.length_map, sizeLine_eq]; show ls.length + 1 ≤ _; omega, fun a3 h3 => ?_⟩
      have g3 := ((G0.skip h1 (.lst (ls.map V.int))).skip h2 (.lst [.int 7])).skip h3 (.lst (ls.map V.int ++ [.int 7]))
      refine of_seqL (E := E0) g3.B (((B.new h1).new h2).ne h3) (.inl (SqL.of upd_same)) (by rw [List.length_append]; show 0 < _ + 1; omega) (by rw [List.length_append, List.length_map]; show _ + 1 < _; omega) fun v H4 hv B4 k4 _ => ?_
      obtain ⟨z, rfl⟩ : ∃ z : Int, v = .int z := by
        rcases List.mem_append.mp hv with hv | hv
        · obtain ⟨z, e, _⟩ := mem_ints hv
          exact ⟨z, e⟩
        · exact ⟨7, by simpa using hv⟩
      exact ⟨z, rfl, g3.go B4 k4⟩
    rintro σ H1 ⟨z, rfl, G1⟩
    have hs1 := seqT_keep G1.k npb hs
    refine ⟨fun σ H' => ∃ q vs, σ = [some (.ref b), some (.ref p), some (.ref m), some (.int z), some (.ref q), none] ∧ H' q = some (.lst vs) ∧ vs.length = 18 ∧ Got A0 b l K H H' vs, ?_, ?_⟩
    · refine ⟨_, rfl, (by decide), fun a1 h1 => ?_⟩
      refine ⟨_, rfl, (by show 1 ≤ sizeLine; decide), fun a2 h2 => ?_⟩
      have hsA := sqT_same (Same.new (Same.new (Same.refl H1) (o := .lst []) h1) (o := .lst [.int z]) h2) hs1
      refine ⟨_, rfl, p, _, rfl, .inr hsA, fun a3 h3 => ?_⟩
      refine fun a4 h4 => fun a5 h5 => ⟨_, rfl, upd_same, [(.inl z, .int 1)], rfl, (by show 1 ≤ 15; decide), ?_⟩
      rw [upd_upd]
      refine ⟨(by show 1 ≤ sizeLine; decide), fun a6 h6 => ?_⟩
      refine ⟨_, rfl, _, rfl, (by show 2 ≤ sizeLine; decide), fun a7 h7 => ?_⟩
      refine ⟨(by show 2 ≤ sizeLine; decide), fun a8 h8 => ?_⟩
      refine ⟨_, rfl, (by show 1 ≤ sizeLine; decide), fun a9 h9 => ?_⟩
      refine ⟨(by show 18 ≤ sizeLine; decide), fun q hq => ?_⟩
      have g1 := ((((((((G1.val (it_non)).val (it_bl true)).val (it_bl false)).val (it_int 0)).val (it_int 5)).val (it_int (-1))).val (it_str "" ⟨by decide, by decide⟩)).val (it_str "1" ⟨by decide, by decide⟩)).val (it_str "1 2" ⟨by decide, by decide⟩)
      have g5 := (((g1.lst h1 [] (by decide) (fun y hy => by cases hy)).lst h2 [.int z] (by show 1 ≤ 2000; decide) (all1 (iI z))).lst h3 (ls.map V.int) (by rw [List.length_map]; omega) (fun y hy => iL hy)).dK h4 [] (fun q h => by cases h)
      have g6 := g5.dK h5 (mergeK [] [(.inl z, .int 1)]) (fun q h => by
        have : q = (.inl z, .int 1) := by simpa [mergeK, putK] using h
        rw [this]
        exact ⟨by simp [mergeK, putK, valV], rfl⟩)
      have g7 := g6.tup h6 (xs := [.bl true]) (by decide) (all1 (iB true))
      have g8 := g7.tup h7 (xs := [.int z, .int z]) (by show 2 ≤ 2000; decide) (all2 (iI z) (iI z))
      have g9 := g8.tup h8 (xs := [.int 5, .int 3]) (by decide) (all2 (iI 5) (iI 3))
      have g10 := (g9.tup h9 (xs := [.int (-1)]) (by decide) (all1 (iI (-1)))).skip hq (.lst [.non, .bl true, .bl false, .int 0, .int 5, .int (-1), .str "", .str "1", .str "1 2", .ref a1, .ref a2, .ref a3, .ref a4, .ref a5, .ref a6, .ref a7, .ref a8, .ref a9])
      exact ⟨q, _, rfl, upd_same, rfl, g10⟩
    rintro σ H2 ⟨q, vs, rfl, hq, hv, G2⟩
    refine ⟨fun σ H' => ∃ q vs, σ = [some (.ref b), some (.ref p), some (.ref m), some (.int z), some (.ref q), none] ∧ H' q = some (.lst vs) ∧ vs.length = 28 ∧ Got A0 b l K H H' vs, ?_, ?_⟩
    · have N0 : Got A0 b l K H2 H2 [] := ⟨G2.B, Keep.refl b H2, fun v h => by cases h⟩
      have hs2 := seqT_keep G2.k npb hs
      have sP : ∀ {G : Hp} {ws : List V}, Got A0 b l K H2 G ws → SqT K G p (ls.map V.int) := fun g => seqT_keep g.k npb hs2
      have hne : ls.map V.int ≠ [] := fun e => by
        have := congrArg List.length e
        rw [List.length_map] at this
        simp only [List.length_nil] at this
        omega
      refine ⟨_, rfl, (by show 2 ≤ sizeLine; decide), fun a1 h1 => ?_⟩
      have g1 := N0.tup h1 (xs := [.int 0, .int 1000]) (by show 2 ≤ 2000; decide) (all2 (iI 0) (iI 1000))
      refine ⟨(by show 1 ≤ sizeLine; decide), fun a2 h2 => ?_⟩
      have g2 := g1.tup h2 (xs := [.non]) (by decide) (all1 ov_non)
      refine ⟨(by show 1 ≤ sizeLine; decide), fun a3 h3 => ?_⟩
      have g3 := g2.tup h3 (xs := [.str "1"]) (by decide) (all1 (ov_str "1"))
      refine ⟨_, rfl, (by show 1 ≤ sizeLine; decide), fun i4 e4 => ⟨(by show 1 ≤ sizeLine; decide), fun a4 h4 => ?_⟩⟩
      skip
      have g4 := (g3.skip e4 (.tup [.int z])).tup h4 (xs := [.ref i4]) (by show 1 ≤ 2000; decide) (all1 (ov_tup (ks := [z]) ⟨SqT.of upd_same, g3.B.ne e4⟩ (by show 1 ≤ 2000; decide)))
      refine ⟨_, rfl, (by show 1 ≤ sizeLine; decide), fun i5 e5 => ⟨(by show 1 ≤ sizeLine; decide), fun a5 h5 => ?_⟩⟩
      skip
      have g5 := (g4.skip e5 (.lst [.int z])).tup h5 (xs := [.ref i5]) (by show 1 ≤ 2000; decide) (all1 (ov_lst (ks := [z]) upd_same (g4.B.ne e5) (by show 1 ≤ 2000; decide)))
      refine ⟨_, rfl, (by show 1 ≤ sizeLine; decide), fun i6 e6 => ?_⟩
      have f6 := g5.skip e6 (.tup [.bl true])
      refine ⟨p, i6, _, _, rfl, rfl, sP f6, SqT.of upd_same, hne, (by rw [List.length_map, sizeLine_eq]; show ls.length + 1 ≤ _; omega), (fun e => nomatch e), fun _ a6 h6 => ?_⟩
      have g6 := f6.tup h6 (xs := ls.map V.int ++ [.bl true]) (by rw [List.length_append, List.length_map]; show ls.length + 1 ≤ 2000; omega) (allA (fun y hy => iL hy) (all1 (iB true)))
      refine ⟨(by show 1 ≤ sizeLine; decide), fun i7 e7 => ?_⟩
      have f7 := g6.skip e7 (.tup [.bl false])
      refine ⟨_, rfl, i7, p, _, _, rfl, rfl, SqT.of upd_same, sP f7, (fun e => nomatch e), (by rw [List.length_map, sizeLine_eq]; show 1 + ls.length ≤ _; omega), (fun e => absurd e hne), fun _ a7 h7 => ?_⟩
      have g7 := f7.tup h7 (xs := [.bl false] ++ ls.map V.int) (by rw [List.length_append, List.length_map]; show 1 + ls.length ≤ 2000; omega) (allA (all1 (iB false)) (fun y hy => iL hy))
      refine ⟨_, rfl, (by show 1 ≤ sizeLine; decide), fun i8 e8 => ?_⟩
      have f8 := g7.skip e8 (.tup [.int 1000])
      refine ⟨p, i8, _, _, rfl, rfl, sP f8, SqT.of upd_same, hne, (by rw [List.length_map, sizeLine_eq]; show ls.length + 1 ≤ _; omega), (fun e => nomatch e), fun _ a8 h8 => ?_⟩
      have g8 := f8.tup h8 (xs := ls.map V.int ++ [.int 1000]) (by rw [List.length_append, List.length_map]; show ls.length + 1 ≤ 2000; omega) (allA (fun y hy => iL hy) (all1 (iI 1000)))
      refine ⟨_, rfl, (by show 1 ≤ sizeLine; decide), fun i9 e9 => ?_⟩
      have f9 := g8.skip e9 (.tup [.int (-1)])
      refine ⟨_, rfl, i9, p, _, _, rfl, rfl, SqT.of upd_same, sP f9, (fun e => nomatch e), (by rw [List.length_map, sizeLine_eq]; show 1 + ls.length ≤ _; omega), (fun e => absurd e hne), fun _ a9 h9 => ?_⟩
      have g9 := f9.tup h9 (xs := [.int (-1)] ++ ls.map V.int) (by rw [List.length_append, List.length_map]; show 1 + ls.length ≤ 2000; omega) (allA (all1 (iI (-1))) (fun y hy => iL hy))
      refine ⟨_, rfl, (by show 2 ≤ sizeLine; decide), fun i10 e10 => ?_⟩
      have f10 := g9.skip e10 (.tup [.int 0, .int 0])
      refine ⟨p, i10, _, _, rfl, rfl, sP f10, SqT.of upd_same, hne, (by rw [List.length_map, sizeLine_eq]; show ls.length + 2 ≤ _; omega), (fun e => nomatch e), fun _ a10 h10 => ?_⟩
      have g10 := f10.tup h10 (xs := ls.map V.int ++ [.int 0, .int 0]) (by rw [List.length_append, List.length_map]; show ls.length + 2 ≤ 2000; omega) (allA (fun y hy => iL hy) (all2 (iI 0) (iI 0)))
      refine ⟨(by show 10 ≤ sizeLine; decide), fun m2 hm2 => ?_⟩
      have gA := g10.skip hm2 (.lst [.ref a1, .ref a2, .ref a3, .ref a4, .ref a5, .ref a6, .ref a7, .ref a8, .ref a9, .ref a10])
      have qb : q ≠ b := fun e => by
        obtain ⟨ns, i, g, m, c, hb, _⟩ := G2.B
        rw [e, hb] at hq
        cases hq
        simp at hv
      refine ⟨q, m2, _, _, rfl, rfl, gA.k _ _ hq qb, upd_same, (by rw [hv]; show 18 + 10 ≤ sizeLine; decide), fun q2 hq2 => ?_⟩
      exact ⟨q2, _, rfl, upd_same, (by rw [List.length_append, hv]; rfl), G2.app (gA.skip hq2 _)⟩
    rintro σ H3 ⟨q3, vs3, rfl, hq3, hv3, G3⟩
    refine ⟨fun σ H' => ∃ q vs, σ = [some (.ref b), some (.ref p), some (.ref m), some (.int z), some (.ref q), none] ∧ H' q = some (.lst vs) ∧ 28 ≤ vs.length ∧ vs.length ≤ 40 ∧ Got A0 b l K H H' vs, ?_, ?_⟩
    · have hs3 := seqT_keep G3.k npb hs
      refine ⟨_, rfl, p, _, rfl, .inr hs3, _, _, rfl, rfl, _, rfl, ite2 (fun h => ?_) (fun h => ⟨q3, vs3, rfl, hq3, by omega, by omega, G3⟩)⟩
      rw [List.length_map] at h
      have h2 : 2 ≤ ls.length := by have := of_decide_eq_true h; omega
      obtain ⟨y0, y1, r, rfl⟩ : ∃ y0 y1 r, ls = y0 :: y1 :: r := by
        match ls, h2 with
        | y0 :: y1 :: r, _ => exact ⟨y0, y1, r, rfl⟩
        | [y0], h2 => exact absurd h2 (by simp)
        | [], h2 => exact absurd h2 (by simp)
      obtain ⟨Bx, x, ex⟩ : ∃ Bx x, (y0 :: y1 :: r) = Bx ++ [x] := by
        rcases List.eq_nil_or_concat (y0 :: y1 :: r) with e | ⟨Bx, x, e⟩
        · cases e
        · exact ⟨Bx, x, by simpa using e⟩
      have c1 : cutV ((y0 :: y1 :: r).map V.int) (some (-1)) none = [V.int x] := by
        rw [ex, List.map_append, show [x].map V.int = [V.int x] from rfl, cut_last]
      have c2 : cutV ((y0 :: y1 :: r).map V.int) none (some 1) = [V.int y0] := by
        rw [List.map_cons, cut_first]
      have c3 : cutV ((y0 :: y1 :: r).map V.int) (some 1) none = (y1 :: r).map V.int := by
        rw [List.map_cons, cut_tail]
      have N0 : Got A0 b l K H3 H3 [] := ⟨G3.B, Keep.refl b H3, fun v h => by cases h⟩
      have sP : ∀ {G : Hp} {ws : List V}, Got A0 b l K H3 G ws → SqT K G p ((y0 :: y1 :: r).map V.int) := fun g => seqT_keep g.k npb hs3
      have hne : (y0 :: y1 :: r).map V.int ≠ [] := fun e => by cases e
      have len3 : (y0 :: y1 :: r).length = r.length + 2 := rfl
      have w1 : ¬ (HT.sIx ((y0 :: y1 :: r).map V.int).length 0 (some (-1)) = 0 ∧ HT.sIx ((y0 :: y1 :: r).map V.int).length ((y0 :: y1 :: r).map V.int).length none = ((y0 :: y1 :: r).map V.int).length) := fun ⟨e, _⟩ => by
        rw [List.length_map, len3] at e
        have : HT.sIx (r.length + 2) 0 (some (-1)) = r.length + 1 := by
          show (if (-1 : Int) < 0 then ((-1 : Int) + ((r.length + 2 : Nat) : Int)).toNat else min (-1 : Int).toNat (r.length + 2)) = _
          rw [if_pos (by decide)]
          omega
        omega
      have w2 : ¬ (HT.sIx ((y0 :: y1 :: r).map V.int).length 0 none = 0 ∧ HT.sIx ((y0 :: y1 :: r).map V.int).length ((y0 :: y1 :: r).map V.int).length (some 1) = ((y0 :: y1 :: r).map V.int).length) := fun ⟨_, e⟩ => by
        rw [List.length_map, len3, show HT.sIx (r.length + 2) (r.length + 2) (some 1) = min 1 (r.length + 2) from HT.sIx_nat _ _ 1] at e
        omega
      have w3 : ¬ (HT.sIx ((y0 :: y1 :: r).map V.int).length 0 (some 1) = 0 ∧ HT.sIx ((y0 :: y1 :: r).map V.int).length ((y0 :: y1 :: r).map V.int).length none = ((y0 :: y1 :: r).map V.int).length) := fun ⟨e, _⟩ => by
        rw [List.length_map, len3, show HT.sIx (r.length + 2) 0 (some 1) = min 1 (r.length + 2) from HT.sIx_nat _ _ 1] at e
        omega
      refine ⟨_, rfl, _, rfl, p, _, rfl, sP N0, fun a1 h1 => ?_⟩
      have g1 := N0.tup h1 (xs := ((y0 :: y1 :: r).map V.int).reverse) (by rw [List.length_reverse, List.length_map]; omega) (fun y hy => iL (List.mem_reverse.mp hy))
      refine ⟨_, rfl, _, rfl, _, rfl, _, rfl, p, _, rfl, sP g1, w1, fun i2 e2 => ?_⟩
      rw [c1]
      have f2 := g1.skip e2 (.tup [.int x])
      refine ⟨p, i2, _, _, rfl, rfl, sP f2, SqT.of upd_same, hne, (by rw [List.length_map, sizeLine_eq]; show (y0 :: y1 :: r).length + 1 ≤ _; omega), (fun e => nomatch e), fun _ a2 h2 => ?_⟩
      have g2 := f2.tup h2 (xs := (y0 :: y1 :: r).map V.int ++ [.int x]) (by rw [List.length_append, List.length_map]; show (y0 :: y1 :: r).length + 1 ≤ 2000; omega) (allA (fun y hy => iL hy) (all1 (iI x)))
      refine ⟨_, rfl, _, rfl, p, _, rfl, sP g2, w2, fun i3 e3 => ?_⟩
      rw [c2]
      have f3 := g2.skip e3 (.tup [.int y0])
      refine ⟨_, rfl, i3, p, _, _, rfl, rfl, SqT.of upd_same, sP f3, (fun e => nomatch e), (by rw [List.length_map, sizeLine_eq]; show 1 + (y0 :: y1 :: r).length ≤ _; omega), (fun e => absurd e hne), fun _ a3 h3 => ?_⟩
      have g3 := f3.tup h3 (xs := [.int y0] ++ (y0 :: y1 :: r).map V.int) (by rw [List.length_append, List.length_map]; show 1 + (y0 :: y1 :: r).length ≤ 2000; omega) (allA (all1 (iI y0)) (fun y hy => iL hy))
      refine ⟨_, rfl, _, rfl, p, _, rfl, sP g3, w3, fun i4 e4 => ?_⟩
      rw [c3]
      have f4 := g3.skip e4 (.tup ((y1 :: r).map V.int))
      refine ⟨_, rfl, _, rfl, p, _, rfl, sP f4, w2, fun j4 d4 => ?_⟩
      rw [c2]
      have k4 := f4.skip d4 (.tup [.int y0])
      refine ⟨i4, j4, (y1 :: r).map V.int, [V.int y0], rfl, rfl, SqT.of (by rw [upd_ne (ne_of_none upd_same d4), upd_same]), SqT.of upd_same, (fun e => nomatch e), (by rw [List.length_map, sizeLine_eq]; show r.length + 1 + 1 ≤ _; omega), (fun e => nomatch e), fun _ a4 h4 => ?_⟩
      have g4 := k4.tup h4 (xs := (y1 :: r).map V.int ++ [.int y0]) (by rw [List.length_append, List.length_map]; show r.length + 1 + 1 ≤ 2000; omega) (allA (fun y hy => iL (List.mem_cons_of_mem _ hy)) (all1 (iI y0)))
      have g5 := g4.val (it_seq (sP g4) npb (by rw [List.length_map]; omega) (fun y hy => iL hy))
      refine ⟨_, rfl, (by show 5 ≤ sizeLine; decide), fun m2 hm2 => ?_⟩
      have gA := g5.skip hm2 (.lst [.ref a1, .ref a2, .ref a3, .ref a4, .ref p])
      have qb : q3 ≠ b := fun e => by
        obtain ⟨ns, i, g, m, c, hb, _⟩ := G3.B
        rw [e, hb] at hq3
        cases hq3
        simp at hv3
      refine ⟨q3, m2, _, _, rfl, rfl, gA.k _ _ hq3 qb, upd_same, (by rw [hv3]; show 28 + 5 ≤ sizeLine; decide), fun q2 hq2 => ?_⟩
      exact ⟨q2, _, rfl, upd_same, (by rw [List.length_append, hv3]; show 28 ≤ 28 + 5; decide), (by rw [List.length_append, hv3]; show 28 + 5 ≤ 40; decide), G3.app (gA.skip hq2 _)⟩
    rintro σ H4 ⟨q4, vs4, rfl, hq4, hv4, hv4', G4⟩
    have hm4 := G4.k _ _ hm nmb
    have Gm : Got A0 b l K H H4 (vs4 ++ ms) := ⟨G4.B, G4.k, fun v h => (List.mem_append.mp h).elim (G4.all v) fun h => (hms v h).keep G4.k⟩
    refine ⟨_, rfl, _, rfl, _, rfl, q4, m, vs4, ms, rfl, rfl, hq4, hm4, (by rw [sizeLine_eq]; omega), fun c hc => ?_⟩
    refine of_seqL (E := E0) (G4.B.new hc) (G4.B.ne hc) (.inl (SqL.of upd_same)) (by rw [List.length_append]; omega) (by rw [List.length_append]; omega) fun v H5 hv B5 k5 _ => ?_
    have G5 := (Gm.skip hc (.lst (vs4 ++ ms))).go B5 k5
    obtain ⟨T, r, o, t, hT, ht, hi⟩ := G5.all v hv
    have h2 := (hi H5 (Keep.refl b H5)).2.1
    refine ⟨_, rfl, v, r, rfl, h2, fun H6 s6 => ⟨_, rfl, ?_⟩⟩
    have K6 := G5.k.same s6
    cases r with
    | false => exact iteT ⟨_, rfl, k v H6 ⟨T, o, t, hT, ht, fun H' kk => hi H' ((Keep.ofSame s6).trans kk)⟩ (B5.same s6) K6⟩
    | true =>
      refine iteF ?_
      rcases h2 with ⟨t, _, _, e⟩ | ⟨a, xs, os, rfl, hx, hxz, hxn, hxo⟩
      · cases e
      · refine ⟨_, rfl, a, xs, rfl, .inr (sqT_same s6 hx), fun l' hl' => ?_⟩
        have B6 := B5.same s6
        have li : OddS A0 b K (upd H6 l' (.lst xs)) (.ref l') := odd_lst upd_same (B6.ne hl') hxz fun x m => by
          obtain ⟨i, rfl⟩ := key_of_pair hxn (set_keys hxo.symm) x m
          exact ov_int i
        exact k _ _ li (B6.new hl') (K6.new hl')
end
end K03

end

section
set_option Elab.async false
set_option linter.all false
set_option maxRecDepth 100000
set_option maxHeartbeats 4000000
/-! the text of a row, read, is the row. -/
namespace K03
open PySem L2 SB
def sgs : Fin 3 → Str
  | 0 => Str.ofString ""
  | 1 => Str.ofString "+"
  | 2 => Str.ofString "-"
theorem words_split : ∀ (n : Fin 1000) (g : Fin 3), decide (splitL ((sgs g ++ (toString ((n.val : Nat) : Int) : Str)).cps.toList) = (sgs g, some ((n.val : Nat) : Int))) = true := by decide +kernel
theorem words_free : ∀ (n : Fin 1000) (g : Fin 3), decide (32 ∉ (sgs g ++ (toString ((n.val : Nat) : Int) : Str)).cps.toList) = true := by decide +kernel
theorem sgn_cases (up dn : Option Int) (k : Int) : ∃ g, sgn up dn k = sgs g := by
  unfold sgn
  split
  · exact ⟨1, rfl⟩
  · split
    · exact ⟨2, rfl⟩
    · exact ⟨0, rfl⟩
theorem word_split {up dn : Option Int} {k : Int} (h0 : 0 ≤ k) (h1 : k ≤ 999) : splitL ((sgn up dn k ++ (toString k : Str)).cps.toList) = (sgn up dn k, some k) := by
  obtain ⟨g, e⟩ := sgn_cases up dn k
  have := of_decide_eq_true (words_split ⟨k.toNat, by omega⟩ g)
  have ek : ((k.toNat : Nat) : Int) = k := by omega
  simp only [ek] at this
  rw [e]
  exact this
theorem word_free {up dn : Option Int} {k : Int} (h0 : 0 ≤ k) (h1 : k ≤ 999) : 32 ∉ (sgn up dn k ++ (toString k : Str)).cps.toList := by
  obtain ⟨g, e⟩ := sgn_cases up dn k
  have := of_decide_eq_true (words_free ⟨k.toNat, by omega⟩ g)
  have ek : ((k.toNat : Nat) : Int) = k := by omega
  simp only [ek] at this
  rw [e]
  exact this
def cutO (ls : List Int) (o : Option Int) : Option Int := match o with
  | none => none
  | some k => if k ∈ ls then some k else none
theorem cutO_snoc {ls : List Int} {k : Int} {o : Option Int} (h : o ≠ some k) : cutO (ls ++ [k]) o = cutO ls o := by
  cases o with
  | none => rfl
  | some j =>
    have : j ≠ k := fun e => h (by rw [e])
    simp [cutO, this]
theorem parse_text {ls : List Int} {up dn : Option Int} (L : Lot ls up dn) : ∀ n, n ≤ ls.length → ((ls.map fun k => sgn up dn k ++ (toString k : Str)).take n).foldlM stepR s0 = some ⟨ls.take n, cutO (ls.take n) up, cutO (ls.take n) dn⟩
  | 0, _ => by
    rw [List.take_zero, List.take_zero]
    cases up <;> cases dn <;> rfl
  | n + 1, hn => by
    have hg : ls[n]? = some ls[n] := List.getElem?_eq_getElem (by omega)
    have hm : ls[n] ∈ ls := List.getElem_mem _
    generalize hk : ls[n] = k at hg hm
    have k0 := L.ks.lo k hm
    have k1 := L.ks.hi k hm
    rw [List.take_add_one, List.getElem?_map, hg, List.foldlM_append, parse_text L n (by omega)]
    rw [List.take_add_one, hg]
    show ([sgn up dn k ++ (toString k : Str)].foldlM stepR (⟨ls.take n, cutO (ls.take n) up, cutO (ls.take n) dn⟩ : RS)) = some ⟨ls.take n ++ [k], cutO (ls.take n ++ [k]) up, cutO (ls.take n ++ [k]) dn⟩
    have lt : ∀ x ∈ ls.take n, x < k := fun x hx => by
      have up := L.ks.up
      rw [← List.take_append_drop n ls] at up
      refine (List.pairwise_append.mp up).2.2 x hx k ?_
      rw [List.drop_eq_getElem_cons (by omega), hk]
      exact List.mem_cons_self
    have nin : k ∉ ls.take n := fun m => by have := lt k m; omega
    have ll : lastLe (ls.take n) k = false := by
      unfold lastLe
      cases e : (ls.take n).getLast? with
      | none => rfl
      | some l =>
        have := lt l (List.mem_of_getLast? e)
        exact decide_eq_false (by omega)
    have st : stepR (⟨ls.take n, cutO (ls.take n) up, cutO (ls.take n) dn⟩ : RS) (sgn up dn k ++ (toString k : Str)) = some ⟨ls.take n ++ [k], cutO (ls.take n ++ [k]) up, cutO (ls.take n ++ [k]) dn⟩ := by
      unfold stepR
      rw [word_split k0 k1]
      show (if lastLe (ls.take n) k = true then none else _) = _
      rw [ll]
      show (if sgn up dn k = Str.ofString "" then _ else _) = _
      by_cases hu : up = some k
      · have dnN : dn = none := by
          cases dn with
          | none => rfl
          | some d => have := (L.d d rfl).1; rw [hu] at this; cases this
        have sg : sgn up dn k = Str.ofString "+" := by unfold sgn; rw [hu, if_pos (by simp [mV])]
        rw [sg, if_neg (by decide), hu, dnN]
        have c1 : cutO (ls.take n) (some k) = none := by simp [cutO, nin]
        have c2 : cutO (ls.take n ++ [k]) (some k) = some k := by simp [cutO]
        rw [c1, c2]
        rfl
      · have sgu : decide (V.int k = mV up) = false := decide_eq_false fun e => hu (by
          cases up with
          | none => cases e
          | some u => cases e; rfl)
        by_cases hd : dn = some k
        · have upN : up = none := (L.d k hd).1
          have sg : sgn up dn k = Str.ofString "-" := by unfold sgn; rw [sgu, hd, if_neg (by simp), if_pos (by simp [mV])]
          rw [sg, if_neg (by decide), upN, hd]
          have c1 : cutO (ls.take n) (some k) = none := by simp [cutO, nin]
          have c2 : cutO (ls.take n ++ [k]) (some k) = some k := by simp [cutO]
          rw [c1, c2]
          rfl
        · have sgd : decide (V.int k = mV dn) = false := decide_eq_false fun e => hd (by
            cases dn with
            | none => cases e
            | some u => cases e; rfl)
          have sg : sgn up dn k = Str.ofString "" := by unfold sgn; rw [sgu, sgd, if_neg (by simp), if_neg (by simp)]
          rw [sg, if_pos rfl, cutO_snoc hu, cutO_snoc hd]
    rw [List.foldlM_cons, st]
    rfl
theorem read_text {ls : List Int} {up dn : Option Int} (L : Lot ls up dn) : readS (rowText ls up dn) = some ⟨ls, up, dn⟩ := by
  unfold readS rowText
  have e : Txt.split (Txt.join (Str.ofString " ") (ls.map fun k => sgn up dn k ++ (toString k : Str))) (Str.ofString " ") = ls.map fun k => sgn up dn k ++ (toString k : Str) := by
    refine TL.split_join (s := 32) (S := []) (by decide) (by decide +kernel) (fun e => ?_) fun p hp => ?_
    · have := congrArg List.length e
      rw [List.length_map] at this
      have h0 := L.ne
      rw [show ([] : List Str).length = 0 from rfl] at this
      omega
    · obtain ⟨k, hk, rfl⟩ := List.mem_map.mp hp
      exact word_free (L.ks.lo k hk) (L.ks.hi k hk)
  rw [e]
  have := parse_text L ls.length (Nat.le_refl _)
  rw [show ls.length = (ls.map fun k => sgn up dn k ++ (toString k : Str)).length from (List.length_map _).symm, List.take_length, List.length_map, List.take_length] at this
  unfold parse
  rw [this]
  have cu : cutO ls up = up := by
    cases up with
    | none => rfl
    | some k => simp [cutO, L.u k rfl]
  have cd : cutO ls dn = dn := by
    cases dn with
    | none => rfl
    | some k => simp [cutO, (L.d k rfl).2]
  rw [cu, cd]
end K03

end

section
set_option Elab.async false
set_option linter.all false
set_option maxRecDepth 100000
set_option maxHeartbeats 8000000
/-! what a row tells. -/
namespace K03
open PySem L2 SB
section
variable {K : PySem.W.Frag} {H : Hp}
theorem al_flatT {t u : Addr} {us : List V} {n : Nat} (h1 : SqT K H t us) (h2 : SqT K H u us) (hf : ∀ x ∈ us, flatV x = true) (hz : us.length ≤ 2000) : Alike K H (n + 1) (.ref t) (.ref u) :=
  .inr (.inr ⟨t, u, us, us, rfl, rfl, h1, h2, by rw [sizeLine_eq]; omega, al_self fun x hx => al_flat (hf x hx)⟩)
theorem al_flatL {t u : Addr} {us : List V} {n : Nat} (h1 : SqL K H t us) (h2 : SqL K H u us) (hf : ∀ x ∈ us, flatV x = true) (hz : us.length ≤ 2000) : Alike K H (n + 1) (.ref t) (.ref u) :=
  .inr (.inl ⟨t, u, us, us, rfl, rfl, h1, h2, by rw [sizeLine_eq]; omega, al_self fun x hx => al_flat (hf x hx)⟩)
end
theorem row_new2 {K : PySem.W.Frag} {C x dx q : Addr} {H : Hp} {ls : List Int} {up dn : Option Int} {R : VK} {E : XK} (hx : H x = none) (hdx : H dx = none) (ne : dx ≠ x) (hs : SqT K H q (ls.map V.int)) (L : Lot ls up dn)
    (k : ∀ H', Same H H' → RowAt C H' x q up dn → R .non H') : spRow K C [.ref x, .ref q, mV up, mV dn] (upd (upd H dx (.own x)) x (.ins C dx [])) R E := by
  have s1 : Same H (upd (upd H dx (.own x)) x (.ins C dx [])) := Same.new (Same.new (Same.refl H) hdx) (by rw [upd_ne (fun e => ne e.symm)]; exact hx)
  exact ⟨x, dx, q, ls, up, dn, rfl, upd_same, sqT_same s1 hs, L, fun H' h1 kk => k H' (fun c o e => kk c o (s1 c o e) (ne_of_none e hx)) ⟨dx, h1⟩⟩
structure Tells (P : Program) (w : World) (K : PySem.W.Frag) (mg : Str → Option Value) (base : Heap) (C : Addr) : Prop where
  wo : ∃ f fd, mg "_law_words" = some (.ref f) ∧ PySem.W.keepIn K (.ref f) = true ∧ Binds K fd ["_law_v", "_law_p", "_law_q"] [] ∧ FnOk P w K mg base CX0 1 f fd ["_law_v", "_law_p", "_law_q"] (spWords K)
  sm : ∃ f fd, mg "_law_same" = some (.ref f) ∧ PySem.W.keepIn K (.ref f) = true ∧ Binds K fd ["_law_found", "_law_due"] [] ∧ FnOk P w K mg base CX0 4 f fd ["_law_found", "_law_due"] (spSame K 4)
  st : ∃ f fd, mg "_law_stranger" = some (.ref f) ∧ PySem.W.keepIn K (.ref f) = true ∧ Binds K fd ["_law_bag_here", "_law_ks"] [] ∧ FnOk P w K mg base CX0 3 f fd ["_law_bag_here", "_law_ks"] (spStr K)
  lk : ∃ f fd, mg "_law_is_key" = some (.ref f) ∧ PySem.W.keepIn K (.ref f) = true ∧ Binds K fd ["_law_v"] [] ∧ FnOk P w K mg base CX0 1 f fd ["_law_v"] (spKey K)
  lr : ∃ f fd, mg "_law_read" = some (.ref f) ∧ PySem.W.keepIn K (.ref f) = true ∧ Binds K fd ["_law_v", "_law_named"] [] ∧ FnOk P w K mg base CX0 8 f fd ["_law_v", "_law_named"] (spLRead K)
  bf : ∃ f fd, Meth K C "lot_before" f ∧ Binds K fd ["self"] [] ∧ FnOk P w K mg base CX0 1 f fd ["self"] (spBefore K C)
  af : ∃ f fd, Meth K C "lot_after" f ∧ Binds K fd ["self"] [] ∧ FnOk P w K mg base CX0 1 f fd ["self"] (spAfter K C)
  tx : ∃ f fd, Meth K C "text" f ∧ Binds K fd ["self"] [] ∧ FnOk P w K mg base CX0 2 f fd ["self"] (spTextD K C)
  bk : ∃ f fd, Meth K C "backward" f ∧ Binds K fd ["self"] [] ∧ FnOk P w K mg base CX0 7 f fd ["self"] (spBack K C)
  sr : ∃ f fd, PySem.W.findIn K (.ref C) "__str__" = some (some (.ref f)) ∧ PySem.W.isFn K (.ref f) = true ∧ Binds K fd ["self"] [] ∧ FnOk P w K mg base CX0 3 f fd ["self"] (spTextD K C)
  rp : ∃ f fd, PySem.W.findIn K (.ref C) "__repr__" = some (some (.ref f)) ∧ PySem.W.isFn K (.ref f) = true ∧ Binds K fd ["self"] [] ∧ FnOk P w K mg base CX0 3 f fd ["self"] (spRepr K C)
  ln : ∃ f fd, PySem.W.findIn K (.ref C) "__len__" = some (some (.ref f)) ∧ PySem.W.isFn K (.ref f) = true ∧ Binds K fd ["self"] [] ∧ FnOk P w K mg base CX0 1 f fd ["self"] (spLen K C)
  ct : ∃ f fd, PySem.W.findIn K (.ref C) "__contains__" = some (some (.ref f)) ∧ PySem.W.isFn K (.ref f) = true ∧ Binds K fd ["self", "key"] [] ∧ FnOk P w K mg base CX0 4 f fd ["self", "key"] (spIn K C)
  eq : ∃ f fd, PySem.W.findIn K (.ref C) "__eq__" = some (some (.ref f)) ∧ PySem.W.isFn K (.ref f) = true ∧ Binds K fd ["self", "other"] [] ∧ FnOk P w K mg base CX0 1 f fd ["self", "other"] (spEqR K C)
  ne : PySem.W.findIn K (.ref C) "__ne__" = some (some (.builtin "object.__ne__"))
  nt : PySem.W.mroIn K C (.type "tuple") = some false
  T : RowT K C
  O : NotRow K C
  nf : PySem.W.notFirst K C (.ref C) = true
  nb : ∀ t ∈ tyN, PySem.W.notFirst K C (.type t) = true
  cint : PySem.W.kitOne K (.ref C) (.type "int") = some false
  cbool : PySem.W.kitOne K (.ref C) (.type "bool") = some false
  gC : mg "Row" = some (.ref C)
  row : ∃ f fd ds, Mk K C f ∧ FnOk P w K mg base CX0 5 f fd ["self", "lot", "coming", "going"] (spRow K C) ∧ Binds K fd ["self", "lot", "coming", "going"] ds ∧ Vals [V.non, V.non] ds
  lst : mg "list" = none
  len : mg "len" = none
  tup : mg "tuple" = none
  str : mg "str" = none
  rpr : mg "repr" = none
def spSo (K : PySem.W.Frag) (C : Addr) : Sp := fun vs H Q _ => ∃ (b l r p : Addr) (ls : List Int) (up dn : Option Int), vs = [.ref b, .ref r, .ref p, mV up, mV dn] ∧ BagL H b l ∧ Tp b K H p (ls.map V.int) ∧ RowAt C H r p up dn ∧ r ≠ b ∧ Lot ls up dn ∧ ls.length ≤ 60 ∧ ∀ H', BagL H' b l → Keep b H H' → Q (.bl true) H'
def so (b r p : Addr) (up dn : Option Int) (x5 x6 x7 x8 x9 x10 x11 : Option V) : L2.St := [some (.ref b), some (.ref r), some (.ref p), some (mV up), some (mV dn), x5, x6, x7, x8, x9, x10, x11]
section
variable {P : Program} {w : World} {K : PySem.W.Frag} {mg : Str → Option Value} {base : Heap}
theorem ok_so {f C : Addr} {fd : FuncData} (F : Fun K "_law_row_so" "_law_row_so" s_l_row_so f fd) (M0 : Tells P w K mg base C) : FnOk P w K mg base CX0 9 f fd ["_law_bag_here", "_law_made", "_law_v", "_law_p", "_law_q"] (spSo K C) := by
  obtain ⟨fWo, dWo, gWo, kWo, bWo, Dwo⟩ := M0.wo
  obtain ⟨fSm, dSm, gSm, kSm, bSm, Dsm⟩ := M0.sm
  obtain ⟨fSt, dSt, gSt, kSt, bSt, Dst⟩ := M0.st
  obtain ⟨fLk, dLk, gLk, kLk, bLk, Dlk⟩ := M0.lk
  obtain ⟨fLr, dLr, gLr, kLr, bLr, Dlr⟩ := M0.lr
  obtain ⟨fBf, dBf, mBf, bBf, Dbf⟩ := M0.bf
  obtain ⟨fAf, dAf, mAf, bAf, Daf⟩ := M0.af
  obtain ⟨fTx, dTx, mTx, bTx, Dtx⟩ := M0.tx
  obtain ⟨fBk, dBk, mBk, bBk, Dbk⟩ := M0.bk
  obtain ⟨fSr, dSr, iSr, nSr, bSr, Dsr⟩ := M0.sr
  obtain ⟨fRp, dRp, iRp, nRp, bRp, Drp⟩ := M0.rp
  obtain ⟨fLn, dLn, iLn, nLn, bLn, Dln⟩ := M0.ln
  obtain ⟨fCt, dCt, iCt, nCt, bCt, Dct⟩ := M0.ct
  obtain ⟨fEq, dEq, iEq, nEq, bEq, Deq⟩ := M0.eq
  obtain ⟨fR, dR, dsR, mkR, DR, bR, rR⟩ := M0.row
  have T := M0.T
  refine F.ok sc_l_row_so (fun vs H Q E h => ?_) (fun cdv A outer s H vs Q E hr h => ?_)
  · obtain ⟨b, l, r, p, ls, up, dn, rfl, _⟩ := h
    rfl
  · obtain ⟨b, l, r, p, ls, up, dn, rfl, B, Tv, hra, nrb, L, hz, k⟩ := h
    have nd := sc_l_row_so.nd
    have hr1 : Room 1 _ := hr.mono (by decide)
    have hr2 : Room 2 _ := hr.mono (by decide)
    have hr3 : Room 3 _ := hr.mono (by decide)
    have hr4 : Room 4 _ := hr.mono (by decide)
    have hr5 : Room 5 _ := hr.mono (by decide)
    have hr6 : Room 6 _ := hr.mono (by decide)
    have hr7 : Room 7 _ := hr.mono (by decide)
    refine ⟨_, (pss_cut (ps_set (i := 5) nd rfl (Or.inl rfl) (pe_call Dwo hr1 (by rfl) gWo kWo bWo .nil pass0 (pa_cons (pv 2) (pa_cons (pv 3) (pa_cons (pv 4) pa_nil))))) (pss_cut (ps_set (i := 6) nd rfl (Or.inl rfl) (pe_lst (pa_cons (pe_fld (pv 1) rfl) (pa_cons (pe_fld (pv 1) rfl) (pa_cons (pe_fld (pv 1) rfl) (pa_cons (pe_meth0 (pv 1) T.c.cl mBf Dbf hr1 bBf .nil pass0) (pa_cons (pe_meth0 (pv 1) T.c.cl mAf Daf hr1 bAf .nil pass0) (pa_cons (pe_meth0 (pv 1) T.c.cl mTx Dtx hr2 bTx .nil pass0) (pa_cons (pe_callTy (cr_strO iSr nSr Dsr hr5 bSr) (by rfl) M0.str (by decide +kernel) (pa_cons (pv 1) pa_nil)) (pa_cons (pe_callB (cr_reprO iRp nRp Drp hr4 bRp) (by rfl) M0.rpr (by decide +kernel) (pa_cons (pv 1) pa_nil)) (pa_cons (pe_callB (cr_lenO iLn nLn Dln hr2 bLn) (by rfl) M0.len PySem.boot_len (pa_cons (pv 1) pa_nil)) pa_nil))))))))))) (pss_cut (ps_set (i := 7) nd rfl (Or.inl rfl) (pe_lst (pa_cons (pv 2) (pa_cons (pv 3) (pa_cons (pv 4) (pa_cons (pe_callTy call_tuple_of (by rfl) M0.tup (by decide +kernel) (pa_cons (pe_lc (own := [("_law_k", 11)]) (g := gName 11) (tt := tTest (tOp rNe (tVar 11) (tVar 3))) (te := tVar 11) rfl nd (pi_tup (pv 2)) (blkOk_by (N := N_l_row_so) (sc := defScope s_l_row_so) (by decide +kernel)) (fun _ _ _ _ _ => pg_name (i := 11) nd rfl (Or.inl rfl)) (fun _ _ _ _ _ => pts_one (pt_cmpR op_ne (pv 11) (pv 3) (nomark _))) (fun _ _ _ _ _ => pv 11)) pa_nil)) (pa_cons (pe_callTy call_tuple_of (by rfl) M0.tup (by decide +kernel) (pa_cons (pe_lc (own := [("_law_k", 11)]) (g := gName 11) (tt := tTest (tOp rNe (tVar 11) (tVar 4))) (te := tVar 11) rfl nd (pi_tup (pv 2)) (blkOk_by (N := N_l_row_so) (sc := defScope s_l_row_so) (by decide +kernel)) (fun _ _ _ _ _ => pg_name (i := 11) nd rfl (Or.inl rfl)) (fun _ _ _ _ _ => pts_one (pt_cmpR op_ne (pv 11) (pv 4) (nomark _))) (fun _ _ _ _ _ => pv 11)) pa_nil)) (pa_cons (pv 5) (pa_cons (pv 5) (pa_cons (pe_op op_add_str (pe_op op_add_str pe_str (pv 5)) pe_str) (pa_cons (pe_callB call_len_seq (by rfl) M0.len PySem.boot_len (pa_cons (pv 2) pa_nil)) pa_nil))))))))))) (pss_cut (ps_if (pt_not (pt_val (pe_call Dsm hr4 (by rfl) gSm kSm bSm .nil pass0 (pa_cons (pv 6) (pa_cons (pv 7) pa_nil))))) (pss_one (ps_ret pe_bl)) pss_nil) (pss_cut (ps_par (i := 8) (j := 9) rfl nd rfl rfl (by decide) rfl rfl (pa_cons (pe_meth0 (pv 1) T.c.cl mBk Dbk hr7 bBk .nil pass0) (pa_cons (pe_meth0 (pe_meth0 (pv 1) T.c.cl mBk Dbk hr7 bBk .nil pass0) T.c.cl mBk Dbk hr7 bBk .nil pass0) pa_nil)) rfl) (pss_cut (ps_if (pt_not (pt_val (pe_call Dsm hr4 (by rfl) gSm kSm bSm .nil pass0 (pa_cons (pe_lst (pa_cons (pe_fld (pv 8) rfl) (pa_cons (pe_fld (pv 8) rfl) (pa_cons (pe_fld (pv 8) rfl) (pa_cons (pe_fld (pv 9) rfl) (pa_cons (pe_fld (pv 9) rfl) (pa_cons (pe_fld (pv 9) rfl) pa_nil))))))) (pa_cons (pe_lst (pa_cons (pv 2) (pa_cons (pv 4) (pa_cons (pv 3) (pa_cons (pv 2) (pa_cons (pv 3) (pa_cons (pv 4) pa_nil))))))) pa_nil))))) (pss_one (ps_ret pe_bl)) pss_nil) (pss_cut (ps_set (i := 10) nd rfl (Or.inl rfl) (pe_ifExp (pt_cmpR op_eq (pe_callB call_len_seq (by rfl) M0.len PySem.boot_len (pa_cons (pv 2) pa_nil)) pe_int (nomark _)) (pe_make mkR DR hr6 (by rfl) M0.gC bR rR pass0 (pa_cons (pv 2) pa_nil)) (pe_make mkR DR hr6 (by rfl) M0.gC bR rR pass0 (pa_cons (pe_slice sl_tupA (pv 2) (po_some pe_int) po_none) pa_nil)))) (pss_cut (ps_set (i := 6) nd rfl (Or.inl rfl) (pe_lst (pa_cons (pe_cmpR (op_eqO iEq nEq Deq hr1 bEq) (pv 1) (pv 9) (nomark _)) (pa_cons (pe_cmpR (op_eqO iEq nEq Deq hr1 bEq) (pv 1) (pv 8) (nomark _)) (pa_cons (pe_cmpR (op_eqO iEq nEq Deq hr1 bEq) (pv 1) (pe_make mkR DR hr6 (by rfl) M0.gC bR rR pass0 (pa_cons (pv 2) pa_nil)) (nomark _)) (pa_cons (pe_cmpR (op_eqO iEq nEq Deq hr1 bEq) (pv 1) (pv 10) (nomark _)) (pa_cons (pe_cmpR (op_eqO iEq nEq Deq hr1 bEq) (pv 1) (pv 2) (nomark _)) (pa_cons (pe_cmpR (op_eqO iEq nEq Deq hr1 bEq) (pv 1) (pv 5) (nomark _)) (pa_cons (pe_cmpR (op_eqT M0.nt iEq nEq Deq hr1 bEq) (pv 2) (pv 1) (nomark _)) (pa_cons (pe_cmpR (op_neO M0.ne T.hm iEq nEq Deq hr2 bEq) (pv 1) (pv 9) (nomark _)) (pa_cons (pe_cmpR (op_neO M0.ne T.hm iEq nEq Deq hr2 bEq) (pv 1) (pv 2) (nomark _)) pa_nil))))))))))) (pss_cut (ps_if (pt_not (pt_val (pe_call Dsm hr4 (by rfl) gSm kSm bSm .nil pass0 (pa_cons (pv 6) (pa_cons (pe_lst (pa_cons pe_bl (pa_cons (pe_cmpR op_eq (pv 3) (pv 4) (nomark _)) (pa_cons (pe_and (pe_cmpR op_isN (pv 3) pe_non (nomark _)) (pe_one (pe_cmpR op_isN (pv 4) pe_non (nomark _)))) (pa_cons (pe_and (pe_cmpR op_eq (pe_callB call_len_seq (by rfl) M0.len PySem.boot_len (pa_cons (pv 2) pa_nil)) pe_int (nomark _)) (pe_and (pe_cmpR op_isN (pv 3) pe_non (nomark _)) (pe_one (pe_cmpR op_isN (pv 4) pe_non (nomark _))))) (pa_cons pe_bl (pa_cons pe_bl (pa_cons pe_bl (pa_cons pe_bl (pa_cons pe_bl pa_nil)))))))))) pa_nil))))) (pss_one (ps_ret pe_bl)) pss_nil) (pss_cut (ps_for PassesOwn.never rfl (pi_list (pe_op op_cat (pe_callTy call_list_of (by rfl) M0.lst (by decide +kernel) (pa_cons (pe_slice sl_tupA (pv 2) po_none (po_some pe_int)) pa_nil)) (pe_lst (pa_cons (pe_call Dst hr3 (by rfl) gSt kSt bSt .nil pass0 (pa_cons (pv 0) (pa_cons (pv 2) pa_nil))) (pa_cons pe_bl (pa_cons pe_bl (pa_cons pe_non (pa_cons (pe_callTy call_str_int (by rfl) M0.str (by decide +kernel) (pa_cons (pe_ix ix_tup (pv 2) pe_int (fun _ _ => rfl)) pa_nil)) (pa_cons (pe_tup (pa_cons (pe_ix ix_tup (pv 2) pe_int (fun _ _ => rfl)) pa_nil)) (pa_cons (pe_lst (pa_cons (pe_ix ix_tup (pv 2) pe_int (fun _ _ => rfl)) pa_nil)) (pa_cons (pe_un un_neg pe_int) (pa_cons pe_dnewK (pa_cons (pv 1) (pa_cons (pe_op op_pow pe_int pe_int) pa_nil)))))))))))))) (pg_name (i := 11) nd rfl (Or.inl rfl)) (pss_one (ps_if (pt_not (pt_val (pe_call Dsm hr4 (by rfl) gSm kSm bSm .nil pass0 (pa_cons (pe_cmpR (op_inO iCt nCt Dct hr4 bCt) (pv 11) (pv 1) (by rfl)) (pa_cons (pe_and (pe_call Dlk hr1 (by rfl) gLk kLk bLk .nil pass0 (pa_cons (pv 11) pa_nil)) (pe_one (pe_cmpR op_in_seq (pv 11) (pv 2) (by rfl)))) pa_nil))))) (pss_one (ps_ret pe_bl)) pss_nil))) (pss_one (ps_ret (pe_call Dsm hr4 (by rfl) gSm kSm bSm .nil pass0 (pa_cons (pe_lst (pa_cons (pe_call Dlr hr (by rfl) gLr kLr bLr .nil pass0 (pa_cons (pv 5) (pa_cons pe_bl pa_nil))) (pa_cons (pe_call Dlr hr (by rfl) gLr kLr bLr .nil pass0 (pa_cons (pv 5) (pa_cons pe_bl pa_nil))) pa_nil))) (pa_cons (pe_lst (pa_cons (pe_tup (pa_cons pe_str (pa_cons (pv 2) (pa_cons (pv 3) (pa_cons (pv 4) pa_nil))))) (pa_cons (pe_tup (pa_cons pe_str (pa_cons (pv 2) (pa_cons (pv 3) (pa_cons (pv 4) pa_nil))))) pa_nil))) pa_nil))))))))))))))), ?_⟩
    obtain ⟨dx, ha⟩ := hra
    refine ⟨fun σ H' => σ = so b r p up dn (some (.str (rowText ls up dn))) none none none none none none ∧ Same H H', ?_, ?_⟩
    · exact ⟨_, rfl, _, rfl, _, rfl, p, ls, up, dn, rfl, Tv.1, L, fun H1 s1 => ⟨rfl, s1⟩⟩
    rintro σ H1 ⟨rfl, s1⟩
    have Tv1 := Tv.sm s1
    have ha1 := s1 _ _ ha
    have B1 := B.same s1
    have few := L.few
    refine ⟨fun σ H' => ∃ D t1 t2, σ = so b r p up dn (some (.str (rowText ls up dn))) (some (.ref D)) none none none none none ∧ Same H H' ∧ H' D = some (.lst [.ref p, mV up, mV dn, .ref t1, .ref t2, .str (rowText ls up dn), .str (rowText ls up dn), .str (rowRepr ls up dn), .int ls.length]) ∧ H' t1 = some (.tup ((bef ls up).map V.int)) ∧ H' t2 = some (.tup ((bef ls dn).map V.int)), ?_, ?_⟩
    · refine ⟨_, rfl, r, C, dx, _, _, rfl, ha1, T.c.cl, T.c.nL, rfl, _, rfl, r, C, dx, _, _, rfl, ha1, T.c.cl, T.c.nC, rfl, _, rfl, r, C, dx, _, _, rfl, ha1, T.c.cl, T.c.nG, rfl, ?_⟩
      refine ⟨_, rfl, r, dx, _, rfl, ha1, rfl, r, p, ls, up, dn, rfl, ⟨dx, ha1⟩, Tv1.1, few, fun t1 H2 _ s2 h2 => ?_⟩
      have ha2 := s2 _ _ ha1
      have Tv2 := Tv1.sm s2
      refine ⟨_, rfl, r, dx, _, rfl, ha2, rfl, r, p, ls, up, dn, rfl, ⟨dx, ha2⟩, Tv2.1, few, fun t2 H3 _ s3 h3 => ?_⟩
      have ha3 := s3 _ _ ha2
      have Tv3 := Tv2.sm s3
      refine ⟨_, rfl, r, dx, _, rfl, ha3, rfl, r, p, ls, up, dn, rfl, ⟨dx, ha3⟩, Tv3.1, L, fun H4 s4 => ?_⟩
      have ha4 := s4 _ _ ha3
      have Tv4 := Tv3.sm s4
      refine ⟨_, rfl, r, dx, _, rfl, ha4, r, p, ls, up, dn, rfl, ⟨dx, ha4⟩, Tv4.1, L, fun H5 s5 => ⟨_, rfl, ?_⟩⟩
      have ha5 := s5 _ _ ha4
      have Tv5 := Tv4.sm s5
      refine ⟨_, rfl, r, dx, _, rfl, ha5, r, p, ls, up, dn, rfl, ⟨dx, ha5⟩, Tv5.1, L, fun H6 s6 => ⟨_, rfl, ?_⟩⟩
      have ha6 := s6 _ _ ha5
      have Tv6 := Tv5.sm s6
      refine ⟨_, rfl, r, dx, _, rfl, ha6, r, p, ls, up, dn, rfl, ⟨dx, ha6⟩, Tv6.1, (ls.length : Int), rfl, by omega, by omega, (by show 9 ≤ sizeLine; decide), fun D hD => ?_⟩
      have s36 := (s4.trans s5).trans s6
      exact ⟨D, t1, t2, rfl, ((((((s1.trans s2).trans s3).trans s36).trans (Same.new (Same.refl H6) hD)))), upd_same, Same.new (Same.refl H6) hD _ _ (s36 _ _ (s3 _ _ h2)), Same.new (Same.refl H6) hD _ _ (s36 _ _ h3)⟩
    rintro σ H2 ⟨D, t1, t2, rfl, s2, hD, ht1, ht2⟩
    have Tv2 := Tv.sm s2
    have ha2 := s2 _ _ ha
    have fm : ∀ o : Option Int, flatV (mV o) = true := fun o => by cases o <;> rfl
    have tl := row_len L
    have rep : rowRepr ls up dn = (Str.ofString "Row(" ++ rowText ls up dn) ++ Str.ofString ")" := by
      unfold rowRepr
      have : Str.empty ++ Str.ofString "Row(" = Str.ofString "Row(" := by decide
      rw [this]
    refine ⟨fun σ H' => ∃ D' u1 u2, σ = so b r p up dn (some (.str (rowText ls up dn))) (some (.ref D)) (some (.ref D')) none none none none ∧ Same H2 H' ∧ H' D' = some (.lst [.ref p, mV up, mV dn, .ref u1, .ref u2, .str (rowText ls up dn), .str (rowText ls up dn), .str (rowRepr ls up dn), .int ls.length]) ∧ H' u1 = some (.tup ((bef ls up).map V.int)) ∧ H' u2 = some (.tup ((bef ls dn).map V.int)), ?_, ?_⟩
    · refine ⟨_, rfl, _, rfl, _, rfl, _, rfl, p, rfl, ⟨_, Tv2.1⟩, fun A1 hA1 => filt_tup (fun z => !decide (V.int z = mV up)) Tv2.1 hA1 (by omega) (fun z H' R S hz s1 r1 r2 => ?_) (fun H3 s3 h3 => ?_)⟩
      · exact ⟨rfl, _, rfl, _, rfl, by cases up <;> rfl, _, rfl, ite2 (fun e => ⟨_, rfl, r1 e⟩) (fun e => r2 (Bool.eq_false_iff.mpr e))⟩
      refine ⟨A1, _, rfl, .inl ⟨SqL.of h3, fun u1 hu1 => ?_⟩⟩
      have s3' := Same.new s3 (o := .tup ((bef ls up).map V.int)) hu1
      have Tv3 := Tv2.sm s3'
      have hu1v : upd H3 u1 (.tup ((bef ls up).map V.int)) u1 = some (.tup ((bef ls up).map V.int)) := upd_same
      generalize hG : upd H3 u1 (.tup ((bef ls up).map V.int)) = G3 at s3' Tv3 hu1v
      have hG' : upd H3 u1 (.tup ((ls.filter fun z => !decide (V.int z = mV up)).map V.int)) = G3 := hG
      rw [hG']
      refine ⟨_, rfl, p, rfl, ⟨_, Tv3.1⟩, fun A2 hA2 => filt_tup (fun z => !decide (V.int z = mV dn)) Tv3.1 hA2 (by omega) (fun z H' R S hz s1 r1 r2 => ?_) (fun H4 s4 h4 => ?_)⟩
      · exact ⟨rfl, _, rfl, _, rfl, by cases dn <;> rfl, _, rfl, ite2 (fun e => ⟨_, rfl, r1 e⟩) (fun e => r2 (Bool.eq_false_iff.mpr e))⟩
      refine ⟨A2, _, rfl, .inl ⟨SqL.of h4, fun u2 hu2 => ?_⟩⟩
      have s4' := Same.new s4 (o := .tup ((ls.filter fun z => !decide (V.int z = mV dn)).map V.int)) hu2
      have Tv4 := Tv3.sm s4'
      have e1 : (Str.ofString "Row(" ++ rowText ls up dn).length ≤ 6004 := by rw [Str.length_append]; show 4 + _ ≤ _; omega
      refine ⟨_, rfl, _, rfl, _, rfl, _, _, rfl, rfl, by show 4 + _ ≤ _; rw [sizeLine_eq]; omega, _, _, rfl, rfl, by show _ + 1 ≤ _; rw [sizeLine_eq]; omega, _, rfl, p, _, rfl, .inr Tv4.1, (by show 9 ≤ sizeLine; decide), fun D' hD' => ?_⟩
      have s5 := Same.new (Same.refl (upd H4 u2 (.tup ((ls.filter fun z => !decide (V.int z = mV dn)).map V.int)))) hD' (o := .lst [.ref p, mV up, mV dn, .ref u1, .ref u2, .str (rowText ls up dn), .str (rowText ls up dn), .str (rowRepr ls up dn), .int ls.length])
      rw [List.length_map, ← rep]
      exact ⟨D', u1, u2, rfl, (s3'.trans s4').trans s5, upd_same, s5 _ _ (s4' _ _ hu1v), s5 _ _ upd_same⟩
    rintro σ H3 ⟨D', u1, u2, rfl, s3, hD', hu1, hu2⟩
    have Tv3 := Tv2.sm s3
    have ha3 := s3 _ _ ha2
    have befl : ∀ o, (bef ls o).length ≤ 60 := fun o => Nat.le_trans (List.length_filter_le _ _) hz
    refine ⟨fun σ H' => σ = so b r p up dn (some (.str (rowText ls up dn))) (some (.ref D)) (some (.ref D')) none none none none ∧ Same H3 H', ?_, ?_⟩
    · refine ⟨_, rfl, _, rfl, .ref D, .ref D', rfl, .inr (.inl ⟨D, D', _, _, rfl, rfl, SqL.of (s3 _ _ hD), SqL.of hD', (by show 9 < sizeLine; decide), ?_⟩), fun H4 s4 => ⟨_, rfl, iteF ⟨rfl, s4⟩⟩⟩
      exact .cons (al_flatT Tv3.1 Tv3.1 (fun x hx => flat_mem hx) (by rw [List.length_map]; omega)) (.cons (al_flat (fm up)) (.cons (al_flat (fm dn)) (.cons (al_flatT (SqT.of (s3 _ _ ht1)) (SqT.of hu1) (fun x hx => flat_mem hx) (by rw [List.length_map]; have := befl up; omega)) (.cons (al_flatT (SqT.of (s3 _ _ ht2)) (SqT.of hu2) (fun x hx => flat_mem hx) (by rw [List.length_map]; have := befl dn; omega))
        (.cons (al_flat rfl) (.cons (al_flat rfl) (.cons (al_flat rfl) (.cons (al_flat rfl) .nil))))))))
    rintro σ H4 ⟨rfl, s4⟩
    have Tv4 := Tv3.sm s4
    have ha4 := s4 _ _ ha3
    refine ⟨fun σ H' => ∃ k1 k2, σ = so b r p up dn (some (.str (rowText ls up dn))) (some (.ref D)) (some (.ref D')) (some (.ref k1)) (some (.ref k2)) none none ∧ Same H4 H' ∧ RowAt C H' k1 p dn up ∧ RowAt C H' k2 p up dn, ?_, ?_⟩
    · refine ⟨_, rfl, r, dx, _, rfl, ha4, rfl, r, p, ls, up, dn, rfl, ⟨dx, ha4⟩, Tv4.1, L, fun k1 H5 _ s5 ra1 => ?_⟩
      have ha5 := s5 _ _ ha4
      have Tv5 := Tv4.sm s5
      refine ⟨_, rfl, r, dx, _, rfl, ha5, rfl, r, p, ls, up, dn, rfl, ⟨dx, ha5⟩, Tv5.1, L, fun k3 H6 _ s6 ra3 => ?_⟩
      obtain ⟨d3, h3⟩ := id ra3
      refine ⟨k3, d3, _, rfl, h3, rfl, k3, p, ls, dn, up, rfl, ra3, (Tv5.sm s6).1, back_lot L, fun k2 H7 _ s7 ra2 => ?_⟩
      exact ⟨_, _, rfl, k1, k2, rfl, (s5.trans s6).trans s7, ra1.sm (s6.trans s7), ra2⟩
    rintro σ H5 ⟨k1, k2, rfl, s5, ra1, ra2⟩
    have Tv5 := Tv4.sm s5
    have ha5 := s5 _ _ ha4
    refine ⟨fun σ H' => σ = so b r p up dn (some (.str (rowText ls up dn))) (some (.ref D)) (some (.ref D')) (some (.ref k1)) (some (.ref k2)) none none ∧ Same H5 H', ?_, ?_⟩
    · obtain ⟨d1, h1⟩ := id ra1
      obtain ⟨d2, h2⟩ := id ra2
      refine ⟨_, rfl, k1, C, d1, _, _, rfl, h1, T.c.cl, T.c.nL, rfl, _, rfl, k1, C, d1, _, _, rfl, h1, T.c.cl, T.c.nC, rfl, _, rfl, k1, C, d1, _, _, rfl, h1, T.c.cl, T.c.nG, rfl, ?_⟩
      refine ⟨_, rfl, k2, C, d2, _, _, rfl, h2, T.c.cl, T.c.nL, rfl, _, rfl, k2, C, d2, _, _, rfl, h2, T.c.cl, T.c.nC, rfl, _, rfl, k2, C, d2, _, _, rfl, h2, T.c.cl, T.c.nG, rfl, (by show 6 ≤ sizeLine; decide), fun E1 hE1 => ?_⟩
      refine ⟨_, rfl, _, rfl, _, rfl, _, rfl, _, rfl, _, rfl, (by show 6 ≤ sizeLine; decide), fun E2 hE2 => ?_⟩
      have q1 := Same.new (Same.refl H5) hE1 (o := .lst [.ref p, mV dn, mV up, .ref p, mV up, mV dn])
      have q2 := Same.new (Same.refl (upd H5 E1 (.lst [.ref p, mV dn, mV up, .ref p, mV up, mV dn]))) hE2 (o := .lst [.ref p, mV dn, mV up, .ref p, mV up, mV dn])
      have tp := al_flatT (n := 1) ((Tv5.sm q1).sm q2).1 ((Tv5.sm q1).sm q2).1 (fun x hx => flat_mem hx) (by rw [List.length_map]; omega)
      exact ⟨.ref E1, .ref E2, rfl, .inr (.inl ⟨E1, E2, _, _, rfl, rfl, SqL.of (q2 _ _ upd_same), SqL.of upd_same, (by show 6 < sizeLine; decide), .cons tp (.cons (al_flat (fm dn)) (.cons (al_flat (fm up)) (.cons tp (.cons (al_flat (fm up)) (.cons (al_flat (fm dn)) .nil)))))⟩), fun H6 s6 => ⟨_, rfl, iteF ⟨rfl, (q1.trans q2).trans s6⟩⟩⟩
    rintro σ H6 ⟨rfl, s6⟩
    have Tv6 := Tv5.sm s6
    have ha6 := s6 _ _ ha5
    have ra1' := ra1.sm s6
    have ra2' := ra2.sm s6
    have B6 := B.same (((((s2.trans s3).trans s4).trans s5).trans s6))
    have plain : ∀ {xs : List Int}, KSet xs → 0 < xs.length → Lot xs none none := fun h h0 => ⟨h, h0, kset_few h, (fun k e => by cases e), (fun k e => by cases e)⟩
    refine ⟨fun σ H' => ∃ k3 p3 ls3, σ = so b r p up dn (some (.str (rowText ls up dn))) (some (.ref D)) (some (.ref D')) (some (.ref k1)) (some (.ref k2)) (some (.ref k3)) none ∧ Same H6 H' ∧ RowAt C H' k3 p3 none none ∧ SqT K H' p3 (ls3.map V.int) ∧ ls3.length ≤ 1000 ∧ decide (ls = ls3) = decide (ls.length = 1), ?_, ?_⟩
    · refine ⟨_, rfl, p, _, rfl, .inr Tv6.1, rfl, _, rfl, ite2 (fun a => ?_) (fun a => ?_)⟩
      · have a1 : ls.length = 1 := by
          have := of_decide_eq_true a
          rw [List.length_map] at this
          injection this with this
          omega
        refine ⟨_, rfl, fun x dx' hx hdx ne => ?_⟩
        exact row_new2 (up := none) (dn := none) hx hdx ne Tv6.1 (plain L.ks L.ne) fun H' s' ra => ⟨rfl, x, p, ls, rfl, s', ra, (Tv6.sm s').1, few, by rw [decide_eq_true rfl, decide_eq_true a1]⟩
      · have a1 : ls.length ≠ 1 := fun e => a (decide_eq_true (by rw [List.length_map, e]; rfl))
        refine ⟨_, rfl, 1, rfl, rd_no (rd_slA B6 Tv6 fun p3 H7 s7 T7 => fun x dx' hx hdx ne => ?_)⟩
        rw [show (some (1 : Int)) = some ((1 : Nat) : Int) from rfl, cut_drop, ← List.map_drop] at T7
        have kd : KSet (ls.drop 1) := ⟨L.ks.up.sublist (List.drop_sublist 1 ls), fun k m => L.ks.lo k (List.mem_of_mem_drop m), fun k m => L.ks.hi k (List.mem_of_mem_drop m)⟩
        have h0 := L.ne
        refine row_new2 (up := none) (dn := none) hx hdx ne T7.1 (plain kd (by rw [List.length_drop]; omega)) fun H' s' ra => ⟨rfl, x, p3, ls.drop 1, rfl, s7.trans s', ra, (T7.sm s').1, by rw [List.length_drop]; omega, ?_⟩
        rw [decide_eq_false a1]
        exact decide_eq_false fun e => by
          have := congrArg List.length e
          rw [List.length_drop] at this
          omega
    rintro σ H7 ⟨k3, p3, ls3, rfl, s7, ra3, hs3, few3, e3⟩
    have Tv7 := Tv6.sm s7
    have ha7 := s7 _ _ ha6
    have ra1'' := ra1'.sm s7
    have ra2'' := ra2'.sm s7
    have tyT : ∀ {G : Hp}, SqT K G p (ls.map V.int) → TyX K G (.ref p) (.type "tuple") := fun h => ty_tup h
    have tin : "tuple" ∈ tyN := by simp [tyN]
    have sin : "str" ∈ tyN := by simp [tyN]
    have nT : ∀ o : Option Int, decide (o = none) = decide (mV o = .non) := fun o => by cases o <;> simp [mV]
    have v2 : eqRow ls up dn (some (ls, dn, up)) = decide (mV up = mV dn) := by
      rw [mV_eq]
      cases up <;> cases dn <;> simp [eqRow, eq_comm]
    have v3 : eqRow ls up dn (some (ls, none, none)) = (decide (mV up = .non) && decide (mV dn = .non)) := by
      rw [← nT, ← nT]; simp [eqRow]
    have v4 : eqRow ls up dn (some (ls3, none, none)) = (decide (ls.length = 1) && (decide (mV up = .non) && decide (mV dn = .non))) := by
      rw [← nT, ← nT, ← e3]; rfl
    refine ⟨fun σ H' => ∃ D2, σ = so b r p up dn (some (.str (rowText ls up dn))) (some (.ref D2)) (some (.ref D')) (some (.ref k1)) (some (.ref k2)) (some (.ref k3)) none ∧ Same H7 H' ∧ H' D2 = some (.lst [.bl true, .bl (decide (mV up = mV dn)), .bl (decide (mV up = .non) && decide (mV dn = .non)), .bl (decide (ls.length = 1) && (decide (mV up = .non) && decide (mV dn = .non))), .bl false, .bl false, .bl false, .bl false, .bl true]), ?_, ?_⟩
    · refine ⟨_, rfl, _, rfl, r, dx, _, .ref C, rfl, ha7, T.ty ra2'', M0.nf, r, p, ls, up, dn, .ref k2, some (ls, up, dn), rfl, ⟨dx, ha7⟩, Tv7.1, few, ⟨k2, p, rfl, ra2'', Tv7.1, few⟩, true, by simp [eqRow], ?_⟩
      refine ⟨_, rfl, _, rfl, r, dx, _, .ref C, rfl, ha7, T.ty ra1'', M0.nf, r, p, ls, up, dn, .ref k1, some (ls, dn, up), rfl, ⟨dx, ha7⟩, Tv7.1, few, ⟨k1, p, rfl, ra1'', Tv7.1, few⟩, decide (mV up = mV dn), by rw [v2], ?_⟩
      refine ⟨_, rfl, _, rfl, fun x dx' hx hdx ne => row_new2 (up := none) (dn := none) hx hdx ne Tv7.1 (plain L.ks L.ne) fun H8 s8 ra8 => ⟨rfl, ?_⟩⟩
      have ha8 := s8 _ _ ha7
      have Tv8 := Tv7.sm s8
      refine ⟨r, dx, _, .ref C, rfl, ha8, T.ty ra8, M0.nf, r, p, ls, up, dn, .ref x, some (ls, none, none), rfl, ⟨dx, ha8⟩, Tv8.1, few, ⟨x, p, rfl, ra8, Tv8.1, few⟩, (decide (mV up = .non) && decide (mV dn = .non)), by rw [v3], ?_⟩
      refine ⟨_, rfl, _, rfl, r, dx, _, .ref C, rfl, ha8, T.ty (ra3.sm s8), M0.nf, r, p, ls, up, dn, .ref k3, some (ls3, none, none), rfl, ⟨dx, ha8⟩, Tv8.1, few, ⟨k3, p3, rfl, ra3.sm s8, sqT_same s8 hs3, few3⟩, (decide (ls.length = 1) && (decide (mV up = .non) && decide (mV dn = .non))), by rw [v4], ?_⟩
      refine ⟨_, rfl, _, rfl, r, dx, _, _, rfl, ha8, tyT Tv8.1, M0.nb _ tin, r, p, ls, up, dn, .ref p, none, rfl, ⟨dx, ha8⟩, Tv8.1, few, ⟨_, tyT Tv8.1, M0.O _ tin⟩, false, rfl, ?_⟩
      refine ⟨_, rfl, _, rfl, r, dx, _, _, rfl, ha8, .base (.str _), M0.nb _ sin, r, p, ls, up, dn, .str (rowText ls up dn), none, rfl, ⟨dx, ha8⟩, Tv8.1, few, ⟨_, .base (.str _), M0.O _ sin⟩, false, rfl, ?_⟩
      refine ⟨_, rfl, _, rfl, p, r, dx, _, _, rfl, rfl, Tv8.1, ha8, r, p, ls, up, dn, .ref p, none, rfl, ⟨dx, ha8⟩, Tv8.1, few, ⟨_, tyT Tv8.1, M0.O _ tin⟩, false, rfl, ?_⟩
      refine ⟨_, rfl, _, rfl, r, dx, _, .ref C, rfl, ha8, T.ty (ra2''.sm s8), M0.nf, r, p, ls, up, dn, .ref k2, some (ls, up, dn), rfl, ⟨dx, ha8⟩, Tv8.1, few, ⟨k2, p, rfl, ra2''.sm s8, Tv8.1, few⟩, true, by simp [eqRow], ?_⟩
      refine ⟨_, rfl, _, rfl, r, dx, _, _, rfl, ha8, tyT Tv8.1, M0.nb _ tin, r, p, ls, up, dn, .ref p, none, rfl, ⟨dx, ha8⟩, Tv8.1, few, ⟨_, tyT Tv8.1, M0.O _ tin⟩, false, rfl, (by show 9 ≤ sizeLine; decide), fun D2 hD2 => ?_⟩
      refine ⟨D2, rfl, s8.trans (Same.new (Same.refl H8) hD2), ?_⟩
      rw [upd_same]
      simp only [Bool.bne_false, Bool.bne_true, Bool.not_true, Bool.not_false]
    rintro σ H8 ⟨D2, rfl, s8, hD2⟩
    have Tv8 := Tv7.sm s8
    refine ⟨fun σ H' => σ = so b r p up dn (some (.str (rowText ls up dn))) (some (.ref D2)) (some (.ref D')) (some (.ref k1)) (some (.ref k2)) (some (.ref k3)) none ∧ Same H8 H', ?_, ?_⟩
    · have lv : decide (V.int ((ls.map V.int).length : Int) = V.int 1) = decide (ls.length = 1) := by
        rw [List.length_map]
        by_cases e : ls.length = 1
        · rw [e]; rfl
        · rw [decide_eq_false e]
          exact decide_eq_false fun q => e (by injection q with q; omega)
      have bp : ∀ {G : Hp} {n : Nat} {x y : Bool}, x = y → Alike K G n (.bl x) (.bl y) := fun h => h ▸ al_flat rfl
      refine ⟨_, rfl, _, rfl, _, rfl, by cases up <;> cases dn <;> rfl, _, rfl, rfl, _, rfl, ite2 (fun a => ⟨_, rfl, rfl, _, rfl, p, _, rfl, .inr Tv8.1, rfl, _, rfl, ?c1⟩) (fun a => ⟨_, rfl, p, _, rfl, .inr Tv8.1, rfl, _, rfl, ?c2⟩)⟩
      all_goals
        rw [lv]
        refine ite2 (fun c => ⟨_, rfl, rfl, _, rfl, ite2 (fun d => ⟨_, rfl, rfl, ?_⟩) (fun d => ?_)⟩) (fun c => ?_)
      all_goals
        refine ⟨(by show 9 ≤ sizeLine; decide), fun E hE => ⟨.ref D2, .ref E, rfl, .inr (.inl ⟨D2, E, _, _, rfl, rfl, SqL.of (Same.new (Same.refl H8) hE _ _ hD2), SqL.of upd_same, (by show 9 < sizeLine; decide), ?_⟩), fun H' s' => ⟨_, rfl, iteF ⟨rfl, (Same.new (Same.refl H8) hE).trans s'⟩⟩⟩⟩
        exact .cons (bp rfl) (.cons (bp rfl) (.cons (bp (by simp_all)) (.cons (bp (by simp_all)) (.cons (bp rfl) (.cons (bp rfl) (.cons (bp rfl) (.cons (bp rfl) (.cons (bp rfl) .nil))))))))
    rintro σ H9 ⟨rfl, s9⟩
    have Tv9 := Tv8.sm s9
    have sAll := (((((((s2.trans s3).trans s4).trans s5).trans s6).trans s7).trans s8).trans s9)
    have B9 := B.same sAll
    have ha9 := sAll _ _ ha
    obtain ⟨y0, hy0⟩ : ∃ y0, (ls.map V.int)[0]? = some (.int y0) := by
      cases e : ls with
      | nil => have := L.ne; rw [e] at this; cases this
      | cons x y => exact ⟨x, rfl⟩
    have hat : atI (ls.map V.int) 0 = some (.int y0) := atI_nat hy0
    have hy : 0 ≤ y0 ∧ y0 ≤ 999 := by
      obtain ⟨z, e, hz⟩ := mem_ints (List.mem_of_getElem? hy0)
      cases e
      exact ⟨L.ks.lo _ hz, L.ks.hi _ hz⟩
    have rNV : ∀ {G : Hp}, Keep b H9 G → RowAt C G r p up dn := fun k9 => ⟨dx, k9 _ _ ha9 nrb⟩
    refine ⟨fun σ H' => (∃ x11, σ = so b r p up dn (some (.str (rowText ls up dn))) (some (.ref D2)) (some (.ref D')) (some (.ref k1)) (some (.ref k2)) (some (.ref k3)) x11) ∧ BagL H' b l ∧ Keep b H9 H', ?_, ?_⟩
    · refine ⟨_, rfl, 4, rfl, rd_slA B9 Tv9 fun p4 G1 g1 T4 => ?_⟩
      rw [show (some (4 : Int)) = some ((4 : Nat) : Int) from rfl, cut_take, ← List.map_take] at T4
      refine ⟨p4, _, rfl, .inr T4.1, fun q1 hq1 => ?_⟩
      have B1' := (B9.same g1).new hq1 (o := .lst ((ls.take 4).map V.int))
      have K1' := (Keep.ofSame (b := b) g1).new hq1 (o := .lst ((ls.take 4).map V.int))
      have nq1 : q1 ≠ b := (B9.same g1).ne hq1
      have hq1v := upd_same (H := G1) (a := q1) (o := .lst ((ls.take 4).map V.int))
      have Tv1' := Tv9.keep K1'
      refine ⟨_, rfl, _, rfl, b, l, p, ls, rfl, B1', Tv1'.2, Tv1'.1, by omega, fun x hx => ⟨L.ks.lo x hx, L.ks.hi x hx⟩, fun k0 G2 _ _ B2' k2' => ?_⟩
      have K2' := K1'.trans k2'
      have Tv2' := Tv9.keep K2'
      refine ⟨_, rfl, p, _, 0, _, rfl, rfl, Tv2'.1, hat, y0, rfl, log_lt (by omega), ?_⟩
      refine ⟨_, rfl, p, _, 0, _, rfl, rfl, Tv2'.1, hat, (by show 1 ≤ sizeLine; decide), fun a1 h1 => ?_⟩
      have K3' := K2'.new h1 (o := .tup [.int y0])
      refine ⟨_, rfl, p, _, 0, _, rfl, rfl, (Tv9.keep K3').1, hat, (by show 1 ≤ sizeLine; decide), fun a2 h2 => ?_⟩
      have K4' := K3'.new h2 (o := .lst [.int y0])
      refine ⟨_, rfl, fun a3 h3 => ⟨_, rfl, _, _, rfl, rfl, ⟨by decide, by decide, by decide⟩, (by show 11 ≤ sizeLine; decide), fun q2 hq2 => ?_⟩⟩
      have K4a := K4'.new h3 (o := .dK [])
      have K5' := K4a.new hq2 (o := .lst [.int k0, .bl true, .bl false, .non, .str (toString y0), .ref a1, .ref a2, .int (-1), .ref a3, .ref r, .int (10 ^ (39 : Int).toNat)])
      have B3' := B2'.new h1 (o := .tup [.int y0])
      have B4' := B3'.new h2 (o := .lst [.int y0])
      have B4a := B4'.new h3 (o := .dK [])
      have B5' := B4a.new hq2 (o := .lst [.int k0, .bl true, .bl false, .non, .str (toString y0), .ref a1, .ref a2, .int (-1), .ref a3, .ref r, .int (10 ^ (39 : Int).toNat)])
      have n1 : NVk b K (upd G2 a1 (.tup [.int y0])) (.ref a1) := ov_nvk' (ov_tup (ks := [y0]) ⟨SqT.of upd_same, B2'.ne h1⟩ (by show 1 ≤ 2000; decide))
      have n2 : NVk b K (upd (upd G2 a1 (.tup [.int y0])) a2 (.lst [.int y0])) (.ref a2) := ov_nvk' (ov_lst (ks := [y0]) upd_same (B3'.ne h2) (by show 1 ≤ 2000; decide))
      have n3 : NVk b K (upd (upd (upd G2 a1 (.tup [.int y0])) a2 (.lst [.int y0])) a3 (.dK [])) (.ref a3) := ov_nvk' (ov_dct upd_same (B4'.ne h3) (fun q h => by cases h))
      have hq1w := (((((k2'.new h1 (o := .tup [.int y0])).new h2 (o := .lst [.int y0])).new h3 (o := .dK [])).new hq2 (o := .lst [.int k0, .bl true, .bl false, .non, .str (toString y0), .ref a1, .ref a2, .int (-1), .ref a3, .ref r, .int (10 ^ (39 : Int).toNat)]))) _ _ hq1v nq1
      refine ⟨q1, q2, _, _, rfl, rfl, hq1w, upd_same, (by rw [List.length_map, List.length_take, sizeLine_eq]; show min 4 ls.length + 11 ≤ _; omega), fun q3 hq3 => ?_⟩
      have K6' := K5'.new hq3 (o := .lst ((ls.take 4).map V.int ++ [.int k0, .bl true, .bl false, .non, .str (toString y0), .ref a1, .ref a2, .int (-1), .ref a3, .ref r, .int (10 ^ (39 : Int).toNat)]))
      have B6' := B5'.new hq3 (o := .lst ((ls.take 4).map V.int ++ [.int k0, .bl true, .bl false, .non, .str (toString y0), .ref a1, .ref a2, .int (-1), .ref a3, .ref r, .int (10 ^ (39 : Int).toNat)]))
      have m1 := n1.keep (((((Keep.refl b _).new h2 (o := .lst [.int y0])).new h3 (o := .dK [])).new hq2 (o := .lst [.int k0, .bl true, .bl false, .non, .str (toString y0), .ref a1, .ref a2, .int (-1), .ref a3, .ref r, .int (10 ^ (39 : Int).toNat)])).new hq3 (o := .lst ((ls.take 4).map V.int ++ [.int k0, .bl true, .bl false, .non, .str (toString y0), .ref a1, .ref a2, .int (-1), .ref a3, .ref r, .int (10 ^ (39 : Int).toNat)])))
      have m2 := n2.keep ((((Keep.refl b _).new h3 (o := .dK [])).new hq2 (o := .lst [.int k0, .bl true, .bl false, .non, .str (toString y0), .ref a1, .ref a2, .int (-1), .ref a3, .ref r, .int (10 ^ (39 : Int).toNat)])).new hq3 (o := .lst ((ls.take 4).map V.int ++ [.int k0, .bl true, .bl false, .non, .str (toString y0), .ref a1, .ref a2, .int (-1), .ref a3, .ref r, .int (10 ^ (39 : Int).toNat)])))
      have m3 := n3.keep (((Keep.refl b _).new hq2 (o := .lst [.int k0, .bl true, .bl false, .non, .str (toString y0), .ref a1, .ref a2, .int (-1), .ref a3, .ref r, .int (10 ^ (39 : Int).toNat)])).new hq3 (o := .lst ((ls.take 4).map V.int ++ [.int k0, .bl true, .bl false, .non, .str (toString y0), .ref a1, .ref a2, .int (-1), .ref a3, .ref r, .int (10 ^ (39 : Int).toNat)])))
      refine ⟨q3, rfl, ⟨_, SqL.of upd_same⟩, ?_⟩
      have hq3v := upd_same (H := upd (upd (upd (upd G2 a1 (.tup [.int y0])) a2 (.lst [.int y0])) a3 (.dK [])) q2 (.lst [.int k0, .bl true, .bl false, .non, .str (toString y0), .ref a1, .ref a2, .int (-1), .ref a3, .ref r, .int (10 ^ (39 : Int).toNat)])) (a := q3) (o := .lst ((ls.take 4).map V.int ++ [.int k0, .bl true, .bl false, .non, .str (toString y0), .ref a1, .ref a2, .int (-1), .ref a3, .ref r, .int (10 ^ (39 : Int).toNat)]))
      generalize (upd (upd (upd (upd (upd G2 a1 (.tup [.int y0])) a2 (.lst [.int y0])) a3 (.dK [])) q2 (.lst [.int k0, .bl true, .bl false, .non, .str (toString y0), .ref a1, .ref a2, .int (-1), .ref a3, .ref r, .int (10 ^ (39 : Int).toNat)])) q3 (.lst ((ls.take 4).map V.int ++ [.int k0, .bl true, .bl false, .non, .str (toString y0), .ref a1, .ref a2, .int (-1), .ref a3, .ref r, .int (10 ^ (39 : Int).toNat)]))) = G at K6' B6' m1 m2 m3 hq3v ⊢
      have TG := Tv9.keep K6'
      have raG : RowAt C G r p up dn := rNV K6'
      have mr : NVk b K G (.ref r) := ⟨none, fun H' k' => .no (.ref C) false false (T.ty (rNV (K6'.trans k'))) M0.cint M0.cbool rfl⟩
      have all : ∀ x ∈ (ls.take 4).map V.int ++ [.int k0, .bl true, .bl false, .non, .str (toString y0), .ref a1, .ref a2, .int (-1), .ref a3, .ref r, .int (10 ^ (39 : Int).toNat)], NVk b K G x := fun x hx => by
        rcases List.mem_append.mp hx with hx | hx
        · obtain ⟨z, rfl, _⟩ := mem_ints hx
          exact nvk_int z
        · simp only [List.mem_cons, List.not_mem_nil, or_false] at hx
          rcases hx with rfl | rfl | rfl | rfl | rfl | rfl | rfl | rfl | rfl | rfl | rfl
          · exact nvk_int _
          · exact ov_nvk' (ov_bl _)
          · exact ov_nvk' (ov_bl _)
          · exact ov_nvk' ov_non
          · exact ov_nvk' (ov_str _)
          · exact m1
          · exact m2
          · exact nvk_int _
          · exact m3
          · exact mr
          · exact nvk_int _
      refine for_list (K := K) (a := q3) (xs := (ls.take 4).map V.int ++ [.int k0, .bl true, .bl false, .non, .str (toString y0), .ref a1, .ref a2, .int (-1), .ref a3, .ref r, .int (10 ^ (39 : Int).toNat)]) (fun i σ H => (∃ x11, σ = so b r p up dn (some (.str (rowText ls up dn))) (some (.ref D2)) (some (.ref D')) (some (.ref k1)) (some (.ref k2)) (some (.ref k3)) x11) ∧ Same G H)
        ⟨⟨_, rfl⟩, Same.refl _⟩ (fun i σ H' _ h => SqL.of (h.2 _ _ hq3v)) ?_ (fun σ H' h => ⟨h.1, B6'.same h.2, K6'.same h.2⟩)
      rintro i v σ H' hv ⟨⟨x11, rfl⟩, s'⟩
      obtain ⟨o, ho⟩ := all v (List.mem_of_getElem? hv)
      have nv := ho H' (Keep.ofSame s')
      have TG' := TG.sm s'
      obtain ⟨dg, hg⟩ := raG.sm s'
      have bp : ∀ {G : Hp} {n : Nat} {x y : Bool}, x = y → Alike K G n (.bl x) (.bl y) := fun h => h ▸ al_flat rfl
      refine ⟨_, rfl, _, rfl, r, dg, _, rfl, hg, r, p, ls, up, dn, v, o, rfl, ⟨dg, hg⟩, TG'.1, nv, liveB ls o, rfl, ?_⟩
      refine ⟨_, rfl, v, o, rfl, nv, _, rfl, ite2 (fun a => ?_) (fun a => ?_)⟩
      · cases nv with
        | no t b1 b2 ty h1 h2 h3 => cases a
        | int x =>
          refine ⟨_, rfl, _, rfl, p, _, rfl, .inr TG'.1, rfl, all_flat ls, .bl (liveB ls (some x)), .bl (inV (.int x) (ls.map V.int)), rfl, bp (by rw [inV_ints, liveB_key L.ks]), fun H7 s7 => ⟨_, rfl, iteF ⟨⟨_, rfl⟩, s'.trans s7⟩⟩⟩
      · have dead : liveB ls o = false := by
          cases o with
          | none => rfl
          | some x =>
            show (keyB (some x) && decide (x ∈ ls)) = false
            rw [Bool.eq_false_iff.mpr a, Bool.false_and]
        exact ⟨.bl (liveB ls o), .bl false, rfl, bp dead, fun H7 s7 => ⟨_, rfl, iteF ⟨⟨_, rfl⟩, s'.trans s7⟩⟩⟩
    rintro σ HA ⟨⟨x11, rfl⟩, BA, KA⟩
    have TvA := Tv9.keep KA
    have rd := read_text L
    have tsz : (rowText ls up dn).length ≤ 90000 := by have := row_len L; omega
    refine ⟨_, rfl, .str (rowText ls up dn), some (rowText ls up dn), false, rfl, .str _, (fun z e => by cases e; exact tsz), fun c1 HB sB d1 => ?_⟩
    refine ⟨_, rfl, .str (rowText ls up dn), some (rowText ls up dn), true, rfl, .str _, (fun z e => by cases e; exact tsz), fun c2 HC sC d2 => ?_⟩
    have d1 : DueT K HB c1 (readS (rowText ls up dn)) := d1
    have d2 : DueT K HC c2 (readS (rowText ls up dn)) := d2
    rw [rd] at d1 d2
    obtain ⟨w1, e1, f1⟩ := d1
    obtain ⟨w2, e2, f2⟩ := d2
    refine ⟨(by show 2 ≤ sizeLine; decide), fun E1 hE1 => ?_⟩
    refine ⟨_, rfl, _, rfl, _, rfl, (by show 4 ≤ sizeLine; decide), fun u1 hu1 => ⟨_, rfl, _, rfl, _, rfl, (by show 4 ≤ sizeLine; decide), fun u2 hu2 => ⟨(by show 2 ≤ sizeLine; decide), fun E2 hE2 => ?_⟩⟩⟩
    have z1 := Same.new (Same.refl HC) hE1 (o := .lst [.ref c1, .ref c2])
    have z2 := Same.new (Same.refl (upd HC E1 (.lst [.ref c1, .ref c2]))) hu1 (o := .tup [.str "made", .ref p, mV up, mV dn])
    have z3 := Same.new (Same.refl (upd (upd HC E1 (.lst [.ref c1, .ref c2])) u1 (.tup [.str "made", .ref p, mV up, mV dn]))) hu2 (o := .tup [.str "made", .ref p, mV up, mV dn])
    have z4 := Same.new (Same.refl (upd (upd (upd HC E1 (.lst [.ref c1, .ref c2])) u1 (.tup [.str "made", .ref p, mV up, mV dn])) u2 (.tup [.str "made", .ref p, mV up, mV dn]))) hE2 (o := .lst [.ref u1, .ref u2])
    have zz := ((z1.trans z2).trans z3).trans z4
    have vE1 := ((z2.trans z3).trans z4) _ _ (upd_same (H := HC) (a := E1) (o := .lst [.ref c1, .ref c2]))
    have vu1 := (z3.trans z4) _ _ (upd_same (H := upd HC E1 (.lst [.ref c1, .ref c2])) (a := u1) (o := .tup [.str "made", .ref p, mV up, mV dn]))
    have vu2 := z4 _ _ (upd_same (H := upd (upd HC E1 (.lst [.ref c1, .ref c2])) u1 (.tup [.str "made", .ref p, mV up, mV dn])) (a := u2) (o := .tup [.str "made", .ref p, mV up, mV dn]))
    have vE2 := upd_same (H := upd (upd (upd HC E1 (.lst [.ref c1, .ref c2])) u1 (.tup [.str "made", .ref p, mV up, mV dn])) u2 (.tup [.str "made", .ref p, mV up, mV dn])) (a := E2) (o := .lst [.ref u1, .ref u2])
    have kz : Keep b H9 (upd (upd (upd (upd HC E1 (.lst [.ref c1, .ref c2])) u1 (.tup [.str "made", .ref p, mV up, mV dn])) u2 (.tup [.str "made", .ref p, mV up, mV dn])) E2 (.lst [.ref u1, .ref u2])) := KA.trans (Keep.ofSame ((sB.trans sC).trans zz))
    have Bz := BA.same ((sB.trans sC).trans zz)
    have vc1 := zz _ _ (sC _ _ e1)
    have vc2 := zz _ _ e2
    have vw1 := sqT_same (sC.trans zz) f1
    have vw2 := sqT_same zz f2
    generalize (upd (upd (upd (upd HC E1 (.lst [.ref c1, .ref c2])) u1 (.tup [.str "made", .ref p, mV up, mV dn])) u2 (.tup [.str "made", .ref p, mV up, mV dn])) E2 (.lst [.ref u1, .ref u2])) = G at vE1 vu1 vu2 vE2 kz Bz vc1 vc2 vw1 vw2 ⊢
    have tp : ∀ {q : Addr}, SqT K G q (ls.map V.int) → Alike K G 1 (.ref q) (.ref p) := fun hq => al_flatT hq (Tv9.keep kz).1 (fun x hx => flat_mem hx) (by rw [List.length_map]; omega)
    have row1 : ∀ {c u w : Addr}, G c = some (.tup [.str "made", .ref w, mV up, mV dn]) → G u = some (.tup [.str "made", .ref p, mV up, mV dn]) → SqT K G w (ls.map V.int) → Alike K G 2 (.ref c) (.ref u) := fun hc hu hw =>
      .inr (.inr ⟨_, _, _, _, rfl, rfl, SqT.of hc, SqT.of hu, (by show 4 < sizeLine; decide), .cons (al_flat rfl) (.cons (tp hw) (.cons (al_flat (fm up)) (.cons (al_flat (fm dn)) .nil)))⟩)
    exact ⟨.ref E1, .ref E2, rfl, .inr (.inl ⟨E1, E2, _, _, rfl, rfl, SqL.of vE1, SqL.of vE2, (by show 2 < sizeLine; decide), .cons (row1 vc1 vu1 vw1) (.cons (row1 vc2 vu2 vw2) .nil)⟩), fun H' s' => k H' (Bz.same s') ((Keep.ofSame sAll).trans (kz.trans (Keep.ofSame s')))⟩
end
end K03

end

section
set_option Elab.async false
set_option linter.all false
set_option maxRecDepth 100000
set_option maxHeartbeats 8000000
/-! the law k03. -/
namespace K03
open PySem L2 SB
structure Defs (P : Program) (w : World) (K : PySem.W.Frag) (mg : Str → Option Value) (base : Heap) (C : Addr) : Prop where
  bg : ∃ f fd, mg "_law_bag" = some (.ref f) ∧ PySem.W.keepIn K (.ref f) = true ∧ Binds K fd ["_law_script"] [] ∧ FnOk P w K mg base CX0 1 f fd ["_law_script"] (spBagL K)
  of : ∃ f fd, mg "_law_of" = some (.ref f) ∧ PySem.W.keepIn K (.ref f) = true ∧ Binds K fd ["_law_bag_here", "_law_some"] [] ∧ FnOk P w K mg base CX0 2 f fd ["_law_bag_here", "_law_some"] (spOfL K)
  ky : ∃ f fd, mg "_law_keys" = some (.ref f) ∧ PySem.W.keepIn K (.ref f) = true ∧ Binds K fd ["_law_bag_here", "_law_many"] [] ∧ FnOk P w K mg base CX0 3 f fd ["_law_bag_here", "_law_many"] (spKeys K)
  mak : ∃ f fd, mg "_law_make" = some (.ref f) ∧ PySem.W.keepIn K (.ref f) = true ∧ Binds K fd ["_law_v", "_law_p", "_law_q", "_law_way"] [] ∧ FnOk P w K mg base CX0 7 f fd ["_law_v", "_law_p", "_law_q", "_law_way"] (spMake K C)
  so : ∃ f fd, mg "_law_row_so" = some (.ref f) ∧ PySem.W.keepIn K (.ref f) = true ∧ Binds K fd ["_law_bag_here", "_law_made", "_law_v", "_law_p", "_law_q"] [] ∧ FnOk P w K mg base CX0 9 f fd ["_law_bag_here", "_law_made", "_law_v", "_law_p", "_law_q"] (spSo K C)
  od : ∃ f fd, mg "_law_odd" = some (.ref f) ∧ PySem.W.keepIn K (.ref f) = true ∧ Binds K fd ["_law_bag_here", "_law_ks", "_law_more"] [] ∧ FnOk P w K mg base CX0 4 f fd ["_law_bag_here", "_law_ks", "_law_more"] (spOdd K)
  md : ∃ f fd, mg "_law_make_due" = some (.ref f) ∧ PySem.W.keepIn K (.ref f) = true ∧ Binds K fd ["_law_v", "_law_p", "_law_q"] [] ∧ FnOk P w K mg base CX0 3 f fd ["_law_v", "_law_p", "_law_q"] (spMDue K)
  sm : ∃ f fd, mg "_law_same" = some (.ref f) ∧ PySem.W.keepIn K (.ref f) = true ∧ Binds K fd ["_law_found", "_law_due"] [] ∧ FnOk P w K mg base CX0 5 f fd ["_law_found", "_law_due"] (spSame K 5)
  wo : ∃ f fd, mg "_law_words" = some (.ref f) ∧ PySem.W.keepIn K (.ref f) = true ∧ Binds K fd ["_law_v", "_law_p", "_law_q"] [] ∧ FnOk P w K mg base CX0 1 f fd ["_law_v", "_law_p", "_law_q"] (spWords K)
  be : ∃ f fd, mg "_law_bent" = some (.ref f) ∧ PySem.W.keepIn K (.ref f) = true ∧ Binds K fd ["_law_bag_here", "_law_v"] [] ∧ FnOk P w K mg base CX0 3 f fd ["_law_bag_here", "_law_v"] (spBent K)
  lr : ∃ f fd, mg "_law_read" = some (.ref f) ∧ PySem.W.keepIn K (.ref f) = true ∧ Binds K fd ["_law_v", "_law_named"] [] ∧ FnOk P w K mg base CX0 8 f fd ["_law_v", "_law_named"] (spLRead K)
  rd : ∃ f fd, mg "_law_read_due" = some (.ref f) ∧ PySem.W.keepIn K (.ref f) = true ∧ Binds K fd ["_law_v"] [] ∧ FnOk P w K mg base CX0 1 f fd ["_law_v"] (spDueR K)
  ls : ∃ f fd, mg "_law_is_set" = some (.ref f) ∧ PySem.W.keepIn K (.ref f) = true ∧ Binds K fd ["_law_v"] [] ∧ FnOk P w K mg base CX0 2 f fd ["_law_v"] (spSet K)
  la : ∃ f fd, mg "_law_as" = some (.ref f) ∧ PySem.W.keepIn K (.ref f) = true ∧ Binds K fd ["_law_v", "_law_named"] [] ∧ FnOk P w K mg base CX0 8 f fd ["_law_v", "_law_named"] (spLAs K C)
  os : ∃ f fd, mg "_law_odd_set" = some (.ref f) ∧ PySem.W.keepIn K (.ref f) = true ∧ Binds K fd ["_law_bag_here", "_law_ks", "_law_more"] [] ∧ ∀ A, FnOk P w K mg base CX0 3 f fd ["_law_bag_here", "_law_ks", "_law_more"] (spOddS A K)
  T : RowT K C
  O : NotRow K C
  nb : ∀ t ∈ tyN, PySem.W.notFirst K C (.type t) = true
  cint : PySem.W.kitOne K (.ref C) (.type "int") = some false
  cbool : PySem.W.kitOne K (.ref C) (.type "bool") = some false
  cstr : PySem.W.kitOne K (.ref C) (.type "str") = some false
  rng : mg "range" = none
def spLaw (K : PySem.W.Frag) : Sp := fun vs H Q _ => ∃ (a : Addr) (ns : List Int), vs = [.ref a] ∧ SqL K H a (ns.map V.int) ∧ ns.length ≤ 63 ∧ ∀ H', Q (.bl true) H'
def sg (a b : Addr) (x2 x3 x4 x5 x6 x7 x8 x9 x10 x11 x12 x13 x14 x15 x16 x17 : Option V) : L2.St := [some (.ref a), some (.ref b), x2, x3, x4, x5, x6, x7, x8, x9, x10, x11, x12, x13, x14, x15, x16, x17]
section
variable {b l C : Addr} {K : PySem.W.Frag} {H H' : Hp}
theorem nv_mV (o : Option Int) : NV K H (mV o) o := by
  cases o with
  | none => exact .no _ false false (.base .non) (kit_ty (by decide +kernel)) (kit_ty (by decide +kernel)) rfl
  | some i => exact .int i
theorem mV_inj : ∀ {x y : Option Int}, mV x = mV y → x = y
  | none, none, _ => rfl
  | some i, some j, e => by
    have e : V.int i = V.int j := e
    cases e; rfl
  | none, some j, e => by
    have e : V.non = V.int j := e
    cases e
  | some i, none, e => by
    have e : V.int i = V.non := e
    cases e
theorem mV_flat (o : Option Int) : flatV (mV o) = true := by cases o <;> rfl
theorem good1 {ls : List Int} {up dn : Option Int} (L : Lot ls up dn) : bad1 ls (mV up) up = false := by
  unfold bad1
  cases up with
  | none => simp [mV]
  | some k => rw [liveB_key L.ks, decide_eq_true (L.u k rfl)]; simp
theorem good2 {ls : List Int} {up dn : Option Int} (L : Lot ls up dn) : bad2 ls (mV up) (mV dn) dn = false := by
  unfold bad2
  cases dn with
  | none => simp [mV]
  | some k =>
    obtain ⟨rfl, h⟩ := L.d k rfl
    rw [liveB_key L.ks, decide_eq_true h]; simp [mV]
/-- a pair of marks of a lot -/
def Mk2 (b : Addr) (ks : List Int) (H : Hp) (v : V) : Prop := ∃ t up dn, v = .ref t ∧ H t = some (.tup [mV up, mV dn]) ∧ t ≠ b ∧ Lot ks up dn
theorem mk2k {ks : List Int} : KeepP b (Mk2 b ks) := fun ⟨t, up, dn, e, h, n, L⟩ k => ⟨t, up, dn, e, k _ _ h n, n, L⟩
theorem row_ne {r q : Addr} {up dn : Option Int} (B : BagL H b l) (h : RowAt C H r q up dn) : r ≠ b := fun e => by
  subst e
  obtain ⟨dx, h⟩ := h
  obtain ⟨ns, i, g, m, c, h1, _⟩ := B
  rw [h1] at h; cases h
theorem tup_ne {m : Addr} {xs : List V} (B : BagL H b l) (h : H m = some (.tup xs)) : m ≠ b := fun e => by
  subst e
  obtain ⟨ns, i, g, m, c, h1, _⟩ := B
  rw [h1] at h; cases h
theorem RowAt.keep {r q : Addr} {up dn : Option Int} (h : RowAt C H r q up dn) (n : r ≠ b) (k : Keep b H H') : RowAt C H' r q up dn := let ⟨dx, h⟩ := h; ⟨dx, k _ _ h n⟩
theorem MadeT.sm {a : Addr} {v p1 p2 : V} {o1 o2 : Option Int} {lo : Option (List Int)} (h : MadeT K C H a v p1 p2 o1 o2 lo) (s : Same H H') : MadeT K C H' a v p1 p2 o1 o2 lo := by
  cases lo with
  | none => exact s _ _ h
  | some ls =>
    obtain ⟨h1, h2, h3⟩ := h
    refine ⟨fun e => s _ _ (h1 e), fun e f => s _ _ (h2 e f), fun e f => ?_⟩
    obtain ⟨r, q, up, dn, e1, e2, e3, L, h4, ⟨dx, h5⟩, h6⟩ := h3 e f
    exact ⟨r, q, up, dn, e1, e2, e3, L, s _ _ h4, ⟨dx, s _ _ h5⟩, sqT_same s h6⟩
/-- what two tellings of a making have in common -/
inductive Told (K : PySem.W.Frag) (C : Addr) (H : Hp) (m d : Addr) : Prop
  | no (X : Str) (w : V) (hX : V.str X ≠ V.str "made") (h1 : H m = some (.tup [.str X, w])) (h2 : H d = some (.tup [.str X, w])) (al : Alike K H 3 w w)
  | made {r q : Addr} {ls : List Int} {up dn : Option Int} (h1 : H m = some (.tup [.str "made", .ref r])) (hr : RowAt C H r q up dn) (hs : SqT K H q (ls.map V.int)) (hz : ls.length ≤ 1000) (h2 : H d = some (.tup [.str "made", .ref q, mV up, mV dn]))
theorem told {v p1 p2 : V} {o1 o2 : Option Int} {so : Option (List Int)} {m d : Addr} (hm : MadeT K C H m v p1 p2 o1 o2 (lotOf so)) (hd : DueM H d v p1 p2 o1 o2 (lotOf so)) (av : Alike K H 3 v v) (a1 : Alike K H 3 p1 p1) (a2 : Alike K H 3 p2 p2) : Told K C H m d := by
  cases e : lotOf so with
  | none => rw [e] at hm hd; exact .no "InvalidLot" v (by decide) hm hd av
  | some ls =>
    rw [e] at hm hd
    obtain ⟨m1, m2, m3⟩ := hm
    obtain ⟨d1, d2, d3⟩ := hd
    cases b1 : bad1 ls p1 o1 with
    | true => exact .no "InvalidMark" p1 (by decide) (m1 b1) (d1 b1) a1
    | false =>
      cases b2 : bad2 ls p1 p2 o2 with
      | true => exact .no "InvalidMark" p2 (by decide) (m2 b1 b2) (d2 b1 b2) a2
      | false =>
        obtain ⟨r, q, up, dn, rfl, rfl, rfl, L, h4, h5, h6⟩ := m3 b1 b2
        exact .made h4 h5 h6 L.few (d3 b1 b2)
theorem al_pair {t u : Addr} {xs ys : List V} {n : Nat} (ht : H t = some (.tup xs)) (hu : H u = some (.tup ys)) (p : Paired (Alike K H n) xs ys) (hz : xs.length ≤ 2000) : Alike K H (n + 1) (.ref t) (.ref u) :=
  .inr (.inr ⟨t, u, xs, ys, rfl, rfl, SqT.of ht, SqT.of hu, by rw [sizeLine_eq]; omega, p⟩)
theorem due_alike {n : Nat} {t u : Addr} {o : Option RS} (h : DueT K H t o) (g : DueR H u o) (ok : ∀ st, o = some st → st.ks.length ≤ 1000) : Alike K H (n + 2) (.ref t) (.ref u) := by
  cases o with
  | none => exact al_pair h g (.cons (al_flat rfl) (.cons (al_flat rfl) .nil)) (by decide)
  | some st =>
    obtain ⟨q, h1, h2⟩ := h
    obtain ⟨q', g1, g2⟩ := g
    exact al_pair h1 g1 (.cons (al_flat rfl) (.cons (al_flatT h2 (SqT.of g2) (fun x hx => flat_mem hx) (by rw [List.length_map]; have := ok st rfl; omega)) (.cons (al_flat (mV_flat _)) (.cons (al_flat (mV_flat _)) .nil)))) (by show 4 ≤ 2000; decide)
theorem DueT.sm {t : Addr} {o : Option RS} (h : DueT K H t o) (s : Same H H') : DueT K H' t o := by
  cases o with
  | none => exact s _ _ h
  | some st =>
    obtain ⟨q, h1, h2⟩ := h
    exact ⟨q, s _ _ h1, sqT_same s h2⟩
theorem read_few {t : Option Str} : ∀ st, readT t = some st → st.ks.length ≤ 1000 := fun st e => by
  cases t with
  | none => cases e
  | some z => exact (read_lot e).few
theorem words_small : ∀ (n : Fin 1000) (g : Fin 3), decide (∀ c ∈ (sgs g ++ (toString ((n.val : Nat) : Int) : Str)).cps.toList, c < 1114112) = true := by decide +kernel
theorem word_small {up dn : Option Int} {k : Int} (h0 : 0 ≤ k) (h1 : k ≤ 999) : ∀ c ∈ (sgn up dn k ++ (toString k : Str)).cps.toList, c < 1114112 := by
  obtain ⟨g, e⟩ := sgn_cases up dn k
  have := of_decide_eq_true (words_small ⟨k.toNat, by omega⟩ g)
  have ek : ((k.toNat : Nat) : Int) = k := by omega
  simp only [ek] at this
  rw [e]
  exact this
theorem app_chars {x y : Str} (hx : ∀ c ∈ x.cps.toList, c < 1114112) (hy : ∀ c ∈ y.cps.toList, c < 1114112) : ∀ c ∈ (x ++ y).cps.toList, c < 1114112 := fun c hc => by
  have : c ∈ x.cps.toList ++ y.cps.toList := by
    have e : (x ++ y).cps = x.cps ++ y.cps := rfl
    rw [e, Array.toList_append] at hc
    exact hc
  exact (List.mem_append.mp this).elim (hx c) (hy c)
theorem join_chars {sep : Str} (hs : ∀ c ∈ sep.cps.toList, c < 1114112) : ∀ {ws : List Str}, (∀ w ∈ ws, ∀ c ∈ w.cps.toList, c < 1114112) → ∀ c ∈ (Str.join sep ws).cps.toList, c < 1114112
  | [], _ => fun c h => by cases h
  | [x], hw => fun c h => hw x (by simp) c h
  | x :: y :: r, hw => app_chars (app_chars (hw x (by simp)) hs) (join_chars hs fun w h => hw w (List.mem_cons_of_mem _ h))
theorem row_sm {ls : List Int} {up dn : Option Int} (L : Lot ls up dn) : Sm 6000 (rowText ls up dn) := by
  refine ⟨row_len L, ?_⟩
  have e : rowText ls up dn = Str.join " " (ls.map fun k => sgn up dn k ++ (toString k : Str)) := StrLaws.glued_eq_join _ _
  rw [e]
  refine join_chars (by decide) fun w hw => ?_
  obtain ⟨k, hk, rfl⟩ := List.mem_map.mp hw
  exact word_small (L.ks.lo k hk) (L.ks.hi k hk)
/-- a value handed to the making, whatever is drawn later -/
def SvP (b : Addr) (K : PySem.W.Frag) (H : Hp) (v : V) : Prop := ∃ so, ∀ H', Keep b H H' → SetV K H' v so ∧ Alike K H' 3 v v
theorem svk : KeepP b (SvP b K) := fun ⟨so, h⟩ k => ⟨so, fun H2 k2 => h H2 (k.trans k2)⟩
theorem sv_tup {p : Addr} {ks : List Int} (T : Tp b K H p (ks.map V.int)) (hk : KSet ks) : SvP b K H (.ref p) :=
  ⟨some ks, fun H' k => ⟨⟨p, rfl, (T.keep k).1, hk⟩, al_tup (T.keep k).1 (by rw [List.length_map]; have := kset_few hk; omega) fun x hx => al_flat (flat_mem hx)⟩⟩
theorem sv_odd {v : V} (h : OddS true b K H v) : SvP b K H v := let ⟨_, _, _, _, _, h⟩ := h; ⟨none, fun H' k => ⟨(h H' k).2.1, (h H' k).2.2.2.2 rfl⟩⟩
theorem kset_nil : KSet [] := ⟨List.Pairwise.nil, (fun k h => by cases h), (fun k h => by cases h)⟩
/-- a value read as a text or taken as a row, whatever is drawn later -/
inductive RdP (b : Addr) (K : PySem.W.Frag) (H : Hp) (v : V) : Prop
  | odd (h : OddS false b K H v)
  | lot {q : Addr} {ls : List Int} (e : v = .ref q) (T : Tp b K H q (ls.map V.int)) (hk : KSet ls)
theorem oddk {A : Bool} : KeepP b (OddS A b K) := fun ⟨T, o, t, h1, h2, h⟩ k => ⟨T, o, t, h1, h2, fun H2 k2 => h H2 (k.trans k2)⟩
theorem rdk : KeepP b (RdP b K) := fun h k => by
  cases h with
  | odd h => exact .odd (oddk h k)
  | lot e T hk => exact .lot e (T.keep k) hk
theorem od_ty {y : V} {T : String} {b1 b2 : Bool} (hT : T ∈ tyN) (ty : ∀ H', Keep b H H' → TyX K H' y (.type T)) (h0 : kitB T "tuple" = some false) (hs : kitB T "str" = some false) (h1 : kitB T "int" = some b1) (h2 : kitB T "bool" = some b2) (h : (b1 && !b2) = false) : OddS false b K H y :=
  ⟨T, none, none, hT, (fun z e => nomatch e), fun H' k => ⟨ty H' k, .inl ⟨_, ty H' k, kit_ty h0, rfl⟩, .no _ b1 b2 (ty H' k) (kit_ty h1) (kit_ty h2) h, .no _ (ty H' k) (kit_ty hs), fun e => nomatch e⟩⟩
theorem od_non : OddS false b K H .non := od_ty (T := "NoneType") (b1 := false) (b2 := false) (by simp [tyN]) (fun _ _ => .base .non) (by decide +kernel) (by decide +kernel) (by decide +kernel) (by decide +kernel) rfl
theorem od_str (x : Str) (hx : Sm 80000 x) : OddS false b K H (.str x) :=
  ⟨"str", none, some x, by simp [tyN], (fun z e => by cases e; exact hx), fun H' k => ⟨.base (.str x), .inl ⟨_, .base (.str x), kit_ty (by decide +kernel), rfl⟩, .no _ false false (.base (.str x)) (kit_ty (by decide +kernel)) (kit_ty (by decide +kernel)) rfl, .str x, fun e => nomatch e⟩⟩
theorem od_int (x : Int) : OddS false b K H (.int x) :=
  ⟨"int", some x, none, by simp [tyN], (fun z e => nomatch e), fun H' k => ⟨.base (.int x), .inl ⟨_, .base (.int x), kit_ty (by decide +kernel), rfl⟩, .int x, .no _ (.base (.int x)) (kit_ty (by decide +kernel)), fun e => nomatch e⟩⟩
theorem od_lst {p : Addr} {xs : List V} (h : H p = some (.lst xs)) (n : p ≠ b) : OddS false b K H (.ref p) :=
  od_ty (T := "list") (b1 := false) (b2 := false) (by simp [tyN]) (fun _ k => .base (.lst (k _ _ h n))) (by decide +kernel) (by decide +kernel) (by decide +kernel) (by decide +kernel) rfl
theorem nv_tup {p : Addr} {xs : List V} (T : Tp b K H p xs) : ∀ H', Keep b H H' → NV K H' (.ref p) none := fun H' k => .no _ false false (ty_tup (T.keep k).1) (kit_ty (by decide +kernel)) (kit_ty (by decide +kernel)) rfl
theorem od_tup2 {p q : Addr} {xs : List V} (h : H p = some (.tup [.ref q, .ref q])) (n : p ≠ b) (T : Tp b K H q xs) : OddS false b K H (.ref p) := by
  have hp : ∀ H', Keep b H H' → SqT K H' p [.ref q, .ref q] := fun H' k => SqT.of (k _ _ h n)
  exact ⟨"tuple", none, none, by simp [tyN], (fun z e => nomatch e), fun H' k => ⟨ty_tup (hp H' k), .inr ⟨p, _, [none, none], rfl, hp H' k, (by show 2 ≤ 2000; decide), .cons (nv_tup T H' k) (.cons (nv_tup T H' k) .nil), rfl⟩,
    .no _ false false (ty_tup (hp H' k)) (kit_ty (by decide +kernel)) (kit_ty (by decide +kernel)) rfl, .no _ (ty_tup (hp H' k)) (kit_ty (by decide +kernel)), fun e => nomatch e⟩⟩
theorem sv_lv0 {v : V} (h : SV K H v false) : LV K H v false := by
  rcases h with ⟨t, h1, h2, h3⟩ | ⟨a, xs, os, h1, h2, hz, h3, h4⟩
  · exact .inl ⟨t, h1, h2, rfl⟩
  · exact .inr ⟨a, xs, os, h1, h2, hz, h3, by rw [← h4]; rfl⟩
theorem rd_facts {v : V} (h : RdP b K H v) : ∃ t, (∀ z, t = some z → Sm 80000 z) ∧ ∀ H', Keep b H H' → TV K H' v t := by
  cases h with
  | odd h =>
    obtain ⟨T, o, t, hT, hs, h⟩ := h
    exact ⟨t, hs, fun H' k => (h H' k).2.2.2.1⟩
  | lot e T hk =>
    subst e
    exact ⟨none, (fun z e => nomatch e), fun H' k => .no _ (ty_tup (T.keep k).1) (kit_ty (by decide +kernel))⟩
/-- no row and no lot -/
def NoAs (b : Addr) (K : PySem.W.Frag) (H : Hp) (v : V) : Prop := ∃ T ∈ tyN, ∀ H', Keep b H H' → TyX K H' v (.type T) ∧ LV K H' v false
theorem noas_odd {v : V} (h : OddS false b K H v) : NoAs b K H v := by
  obtain ⟨T, o, t, hT, hs, h⟩ := h
  exact ⟨T, hT, fun H' k => ⟨(h H' k).1, sv_lv0 (h H' k).2.1⟩⟩
theorem noas_nil {q : Addr} (T : Tp b K H q []) : NoAs b K H (.ref q) :=
  ⟨"tuple", by simp [tyN], fun H' k => ⟨ty_tup (T.keep k).1, .inr ⟨q, [], [], rfl, (T.keep k).1, by decide, .nil, rfl⟩⟩⟩
theorem sv_ks {q : Addr} {ls : List Int} (hs : SqT K H q (ls.map V.int)) (hk : KSet ls) : SV K H (.ref q) true := by
  have h : SetV K H (.ref q) (some ls) := ⟨q, rfl, hs, hk⟩
  exact h.sv
theorem it_any {p : Addr} {xs : List V} (h : SqT K H p xs) (n : p ≠ b) (hz : xs.length ≤ 2000) (hx : ∀ x ∈ xs, NVk b K H x) : Item false b K H (.ref p) := by
  obtain ⟨os, hos⟩ := pair_nvk hx
  exact ⟨"tuple", setB os, none, none, by simp [tyN], (fun z e => nomatch e), fun H' k => ⟨ty_tup (seqT_keep k n h), .inr ⟨p, xs, os, rfl, seqT_keep k n h, hz, hos H' k, rfl⟩, .no _ false false (ty_tup (seqT_keep k n h)) (kit_ty (by decide +kernel)) (kit_ty (by decide +kernel)) rfl, .no _ (ty_tup (seqT_keep k n h)) (kit_ty (by decide +kernel)), fun e => nomatch e⟩⟩
theorem row_nvk {r q : Addr} {up dn : Option Int} (T : RowT K C) (ci : PySem.W.kitOne K (.ref C) (.type "int") = some false) (cb : PySem.W.kitOne K (.ref C) (.type "bool") = some false) (h : RowAt C H r q up dn) (n : r ≠ b) : NVk b K H (.ref r) :=
  ⟨none, fun H' k => .no (.ref C) false false (T.ty (h.keep n k)) ci cb rfl⟩
end
theorem at_last {ks : List Int} (h : 0 < ks.length) : ∃ z, atI (ks.map V.int) (-1) = some (.int z) := by
  refine ⟨ks[ks.length - 1]'(by omega), ?_⟩
  have e : ixN (ks.map V.int).length (-1) = some (ks.length - 1) := by
    unfold ixN
    rw [List.length_map, if_neg (by decide), if_pos (by omega)]
    congr 1
    omega
  unfold atI
  rw [e]
  show (ks.map V.int)[ks.length - 1]? = _
  rw [List.getElem?_map, List.getElem?_eq_getElem (by omega)]
  rfl
theorem at_first {ks : List Int} (h : 0 < ks.length) : ∃ z, atI (ks.map V.int) 0 = some (.int z) := by
  cases ks with
  | nil => cases h
  | cons x r => exact ⟨x, atI_nat rfl⟩

section
variable {P : Program} {w : World} {K : PySem.W.Frag} {mg : Str → Option Value} {base : Heap}
theorem ok_law {f C : Addr} {fd : FuncData} (F : Fun K "law" "law" s_law f fd) (M0 : Defs P w K mg base C) : AtCaller P w K mg base f fd "_law_script" (spLaw K) := by
  obtain ⟨fBg, dBg, gBg, kBg, bBg, Dbg⟩ := M0.bg
  obtain ⟨fOf, dOf, gOf, kOf, bOf, Dof⟩ := M0.of
  obtain ⟨fKy, dKy, gKy, kKy, bKy, Dky⟩ := M0.ky
  obtain ⟨fMk, dMk, gMk, kMk, bMk, Dmak⟩ := M0.mak
  obtain ⟨fSo, dSo, gSo, kSo, bSo, Dso⟩ := M0.so
  obtain ⟨fOd, dOd, gOd, kOd, bOd, Dod⟩ := M0.od
  obtain ⟨fMd, dMd, gMd, kMd, bMd, Dmd⟩ := M0.md
  obtain ⟨fSm, dSm, gSm, kSm, bSm, Dsm⟩ := M0.sm
  obtain ⟨fWo, dWo, gWo, kWo, bWo, Dwo⟩ := M0.wo
  obtain ⟨fBe, dBe, gBe, kBe, bBe, Dbe⟩ := M0.be
  obtain ⟨fLr, dLr, gLr, kLr, bLr, Dlr⟩ := M0.lr
  obtain ⟨fRd, dRd, gRd, kRd, bRd, Drd⟩ := M0.rd
  obtain ⟨fLs, dLs, gLs, kLs, bLs, Dls⟩ := M0.ls
  obtain ⟨fLa, dLa, gLa, kLa, bLa, Dla⟩ := M0.la
  obtain ⟨fOs, dOs, gOs, kOs, bOs, Dos⟩ := M0.os
  have T := M0.T
  refine caller_ok (k := 9) F sc_law ⟨rfl, by decide, by decide⟩ (fun cdv s H v Q hr h => ?_)
  have hr1 : Room 1 _ := hr.mono (by decide)
  have hr2 : Room 2 _ := hr.mono (by decide)
  have hr3 : Room 3 _ := hr.mono (by decide)
  have hr4 : Room 4 _ := hr.mono (by decide)
  have hr5 : Room 5 _ := hr.mono (by decide)
  have hr6 : Room 6 _ := hr.mono (by decide)
  have hr7 : Room 7 _ := hr.mono (by decide)
  have hr8 : Room 8 _ := hr.mono (by decide)
  have hu : (callerA.deeper (PyProof.Rows.envOfC "law" (defScope s_law) s.heap.objs.size f cdv)).units + 64 < cLine := hr.units
  obtain ⟨a, ns, e, hS, hlen, k⟩ := h
  obtain rfl : v = .ref a := List.head_eq_of_cons_eq e
  have nd := sc_law.nd
  refine ⟨_, (pss_cut (ps_set (i := 1) nd rfl (Or.inl rfl) (pe_call Dbg hr1 (by rfl) gBg kBg bBg .nil pass0 (pa_cons (pv 0) pa_nil))) (pss_cut (ps_for PassesOwn.never rfl (pi_range1 (by rfl) M0.rng (pa_cons pe_int pa_nil)) (pg_name (i := 2) nd rfl (Or.inl rfl)) (pss_cut (ps_set (i := 3) nd rfl (Or.inl rfl) (pe_call Dky hr3 (by rfl) gKy kKy bKy .nil pass0 (pa_cons (pv 1) (pa_cons (pe_call Dof hr2 (by rfl) gOf kOf bOf .nil pass0 (pa_cons (pv 1) (pa_cons (pe_ifExp (pt_cmpR op_gt (pv 2) pe_int (nomark _)) (pe_lst (pa_cons pe_int (pa_cons pe_int (pa_cons pe_int (pa_cons pe_int (pa_cons pe_int (pa_cons pe_int (pa_cons pe_int (pa_cons pe_int pa_nil))))))))) (pe_lst (pa_cons pe_int (pa_cons pe_int (pa_cons pe_int pa_nil))))) pa_nil))) pa_nil)))) (pss_cut (ps_asg (pe_call Dof hr2 (by rfl) gOf kOf bOf .nil pass0 (pa_cons (pv 1) (pa_cons (pe_lst (pa_cons (pe_tup (pa_cons pe_non (pa_cons pe_non pa_nil))) (pa_cons (pe_tup (pa_cons (pe_call Dof hr2 (by rfl) gOf kOf bOf .nil pass0 (pa_cons (pv 1) (pa_cons (pv 3) pa_nil))) (pa_cons pe_non pa_nil))) (pa_cons (pe_tup (pa_cons pe_non (pa_cons (pe_call Dof hr2 (by rfl) gOf kOf bOf .nil pass0 (pa_cons (pv 1) (pa_cons (pv 3) pa_nil))) pa_nil))) pa_nil)))) pa_nil))) (pg_tup (by rfl) (pgs_cons (pg_name (i := 4) nd rfl (Or.inl rfl)) (pgs_cons (pg_name (i := 5) nd rfl (Or.inl rfl)) pgs_nil)))) (pss_cut (ps_set (i := 6) nd rfl (Or.inl rfl) (pe_call Dmak hr7 (by rfl) gMk kMk bMk .nil pass0 (pa_cons (pv 3) (pa_cons (pv 4) (pa_cons (pv 5) (pa_cons (pv 2) pa_nil)))))) (pss_cut (ps_if (PW.pt (pw_or (pt_cmpR op_ne (pe_ix ix_tup (pv 6) pe_int (fun _ _ => rfl)) pe_str (nomark _)) (pw_or1 (pt_not (pt_val (pe_call Dso hr (by rfl) gSo kSo bSo .nil pass0 (pa_cons (pv 1) (pa_cons (pe_ix ix_tup (pv 6) pe_int (fun _ _ => rfl)) (pa_cons (pv 3) (pa_cons (pv 4) (pa_cons (pv 5) pa_nil))))))))))) (pss_one (ps_ret pe_bl)) pss_nil) (pss_cut (ps_for PassesOwn.never rfl (pi_range1 (by rfl) M0.rng (pa_cons pe_int pa_nil)) (pg_name (i := 7) nd rfl (Or.inl rfl)) (pss_cut (ps_par (i := 8) (j := 9) rfl nd rfl rfl (by decide) rfl rfl (pa_cons (pe_call Dod hr4 (by rfl) gOd kOd bOd .nil pass0 (pa_cons (pv 1) (pa_cons (pv 3) (pa_cons (pe_lst (pa_cons (pe_ix ix_tup (pv 3) pe_int (fun _ _ => rfl)) (pa_cons pe_non pa_nil))) pa_nil)))) (pa_cons (pe_call Dod hr4 (by rfl) gOd kOd bOd .nil pass0 (pa_cons (pv 1) (pa_cons (pv 3) (pa_cons (pe_lst (pa_cons (pe_ix ix_tup (pv 3) (pe_un un_neg pe_int) (fun _ _ => rfl)) pa_nil)) pa_nil)))) pa_nil)) rfl) (pss_cut (ps_par3 (i := 10) (j := 11) (l := 12) rfl nd rfl rfl rfl (by decide) (by decide) (by decide) rfl rfl rfl (pa_cons (pe_call Dof hr2 (by rfl) gOf kOf bOf .nil pass0 (pa_cons (pv 1) (pa_cons (pe_lst (pa_cons (pv 3) (pa_cons (pv 3) (pa_cons (pe_tup pa_nil) (pa_cons (pe_call (Dos true) hr3 (by rfl) gOs kOs bOs .nil pass0 (pa_cons (pv 1) (pa_cons (pv 3) (pa_cons (pe_lst (pa_cons (pe_lst pa_nil) pa_nil)) pa_nil)))) pa_nil))))) pa_nil))) (pa_cons (pe_call Dof hr2 (by rfl) gOf kOf bOf .nil pass0 (pa_cons (pv 1) (pa_cons (pe_lst (pa_cons pe_non (pa_cons (pv 8) (pa_cons (pe_call Dof hr2 (by rfl) gOf kOf bOf .nil pass0 (pa_cons (pv 1) (pa_cons (pv 3) pa_nil))) pa_nil)))) pa_nil))) (pa_cons (pe_call Dof hr2 (by rfl) gOf kOf bOf .nil pass0 (pa_cons (pv 1) (pa_cons (pe_lst (pa_cons pe_non (pa_cons (pv 9) (pa_cons (pe_call Dof hr2 (by rfl) gOf kOf bOf .nil pass0 (pa_cons (pv 1) (pa_cons (pv 3) pa_nil))) pa_nil)))) pa_nil))) pa_nil))) rfl) (pss_cut (ps_par (i := 13) (j := 14) rfl nd rfl rfl (by decide) rfl rfl (pa_cons (pe_call Dmak hr7 (by rfl) gMk kMk bMk .nil pass0 (pa_cons (pv 10) (pa_cons (pv 11) (pa_cons (pv 12) (pa_cons (pv 7) pa_nil))))) (pa_cons (pe_call Dmd hr3 (by rfl) gMd kMd bMd .nil pass0 (pa_cons (pv 10) (pa_cons (pv 11) (pa_cons (pv 12) pa_nil)))) pa_nil)) rfl) (pss_cut (ps_if (pt_cmpR op_eq (pe_ix ix_tup (pv 13) pe_int (fun _ _ => rfl)) pe_str (nomark _)) (pss_one (ps_set (i := 13) nd rfl (Or.inl rfl) (pe_tup (pa_cons pe_str (pa_cons (pe_fld (pe_ix ix_tup (pv 13) pe_int (fun _ _ => rfl)) rfl) (pa_cons (pe_fld (pe_ix ix_tup (pv 13) pe_int (fun _ _ => rfl)) rfl) (pa_cons (pe_fld (pe_ix ix_tup (pv 13) pe_int (fun _ _ => rfl)) rfl) pa_nil))))))) pss_nil) (pss_one (ps_if (pt_not (pt_val (pe_call Dsm hr5 (by rfl) gSm kSm bSm .nil pass0 (pa_cons (pv 13) (pa_cons (pv 14) pa_nil))))) (pss_one (ps_ret pe_bl)) pss_nil))))))) (pss_cut (ps_set (i := 15) nd rfl (Or.inl rfl) (pe_call Dwo hr1 (by rfl) gWo kWo bWo .nil pass0 (pa_cons (pv 3) (pa_cons (pv 4) (pa_cons (pv 5) pa_nil))))) (pss_cut (ps_for PassesOwn.never rfl (pi_range1 (by rfl) M0.rng (pa_cons pe_int pa_nil)) (pg_name (i := 7) nd rfl (Or.inl rfl)) (pss_cut (ps_set (i := 15) nd rfl (Or.inl rfl) (pe_call Dbe hr3 (by rfl) gBe kBe bBe .nil pass0 (pa_cons (pv 1) (pa_cons (pv 15) pa_nil)))) (pss_one (ps_if (pt_not (pt_val (pe_call Dsm hr5 (by rfl) gSm kSm bSm .nil pass0 (pa_cons (pe_call Dlr hr8 (by rfl) gLr kLr bLr .nil pass0 (pa_cons (pv 15) (pa_cons (pe_cmpR op_eq (pv 7) pe_int (nomark _)) pa_nil))) (pa_cons (pe_call Drd hr1 (by rfl) gRd kRd bRd .nil pass0 (pa_cons (pv 15) pa_nil)) pa_nil))))) (pss_one (ps_ret pe_bl)) pss_nil)))) (pss_cut (ps_set (i := 16) nd rfl (Or.inl rfl) (pe_call (Dos false) hr3 (by rfl) gOs kOs bOs .nil pass0 (pa_cons (pv 1) (pa_cons (pv 3) (pa_cons (pe_lst (pa_cons (pv 15) (pa_cons (pe_slice sl_tupA (pv 6) (po_some pe_int) po_none) (pa_cons (pe_tup (pa_cons (pe_ix ix_tup (pv 6) pe_int (fun _ _ => rfl)) (pa_cons pe_int pa_nil))) pa_nil)))) pa_nil))))) (pss_cut (ps_for PassesOwn.never rfl (pi_range1 (by rfl) M0.rng (pa_cons pe_int pa_nil)) (pg_name (i := 7) nd rfl (Or.inl rfl)) (pss_cut (ps_set (i := 10) nd rfl (Or.inl rfl) (pe_call Dof hr2 (by rfl) gOf kOf bOf .nil pass0 (pa_cons (pv 1) (pa_cons (pe_lst (pa_cons (pv 16) (pa_cons (pv 16) (pa_cons (pe_tup pa_nil) (pa_cons pe_non (pa_cons pe_int (pa_cons pe_str (pa_cons (pv 3) (pa_cons (pe_lst (pa_cons (pv 15) pa_nil)) (pa_cons (pv 15) (pa_cons (pe_tup (pa_cons (pv 3) (pa_cons (pv 3) pa_nil))) (pa_cons pe_str (pa_cons pe_str (pa_cons pe_str (pa_cons pe_str (pa_cons pe_str (pa_cons pe_str (pa_cons pe_str pa_nil)))))))))))))))))) pa_nil)))) (pss_cut (ps_if (pt_not (pt_val (pe_call Dsm hr5 (by rfl) gSm kSm bSm .nil pass0 (pa_cons (pe_call Dlr hr8 (by rfl) gLr kLr bLr .nil pass0 (pa_cons (pv 10) (pa_cons (pe_cmpR op_eq (pv 7) pe_int (nomark _)) pa_nil))) (pa_cons (pe_call Drd hr1 (by rfl) gRd kRd bRd .nil pass0 (pa_cons (pv 10) pa_nil)) pa_nil))))) (pss_one (ps_ret pe_bl)) pss_nil) (pss_cut (ps_set (i := 17) nd rfl (Or.inl rfl) (pe_and (pe_call Dls hr2 (by rfl) gLs kLs bLs .nil pass0 (pa_cons (pv 10) pa_nil)) (pe_one (pe_cmpR (op_neD hu) (pv 10) (pe_tup pa_nil) (nomark _))))) (pss_one (ps_if (pt_not (pt_val (pe_call Dsm hr5 (by rfl) gSm kSm bSm .nil pass0 (pa_cons (pe_call Dla hr8 (by rfl) gLa kLa bLa .nil pass0 (pa_cons (pv 10) (pa_cons (pe_cmpR op_eq (pv 7) pe_int (nomark _)) pa_nil))) (pa_cons (pe_ifExp (pt_val (pv 17)) (pe_tup (pa_cons pe_str (pa_cons (pv 10) (pa_cons pe_non (pa_cons pe_non (pa_cons pe_bl pa_nil)))))) (pe_tup (pa_cons pe_str (pa_cons pe_int pa_nil)))) pa_nil))))) (pss_one (ps_ret pe_bl)) pss_nil)))))) (pss_one (ps_if (pt_not (pt_val (pe_call Dsm hr5 (by rfl) gSm kSm bSm .nil pass0 (pa_cons (pe_lst (pa_cons (pe_call Dla hr8 (by rfl) gLa kLa bLa .nil pass0 (pa_cons (pe_ix ix_tup (pv 6) pe_int (fun _ _ => rfl)) (pa_cons pe_bl pa_nil))) (pa_cons (pe_call Dlr hr8 (by rfl) gLr kLr bLr .nil pass0 (pa_cons (pe_ix ix_tup (pv 6) pe_int (fun _ _ => rfl)) (pa_cons pe_bl pa_nil))) pa_nil))) (pa_cons (pe_lst (pa_cons (pe_tup (pa_cons pe_str (pa_cons (pv 3) (pa_cons (pv 4) (pa_cons (pv 5) (pa_cons pe_bl pa_nil)))))) (pa_cons (pe_tup (pa_cons pe_str (pa_cons pe_int pa_nil))) pa_nil))) pa_nil))))) (pss_one (ps_ret pe_bl)) pss_nil)))))))))))) (pss_one (ps_ret pe_bl)))), ?_⟩
  refine ⟨fun σ H => ∃ b l, σ = sg a b none none none none none none none none none none none none none none none none ∧ BagL H b l, ?_, ?_⟩
  · exact ⟨_, rfl, a, ns, rfl, hS, by omega, fun b l H0 hb0 hl0 s0 B0 => ⟨b, l, rfl, B0⟩⟩
  rintro σ H0 ⟨b, l, rfl, B0⟩
  refine ⟨fun σ H => (∃ x2 x3 x4 x5 x6 x7 x8 x9 x10 x11 x12 x13 x14 x15 x16 x17, σ = sg a b x2 x3 x4 x5 x6 x7 x8 x9 x10 x11 x12 x13 x14 x15 x16 x17) ∧ BagL H b l, ?_, ?_⟩
  rotate_left
  · rintro σ H2 _
    exact k H2
  refine ⟨4, rfl, by decide, by decide, for_range (n := 4) (fun i σ H => (∃ x2 x3 x4 x5 x6 x7 x8 x9 x10 x11 x12 x13 x14 x15 x16 x17, σ = sg a b x2 x3 x4 x5 x6 x7 x8 x9 x10 x11 x12 x13 x14 x15 x16 x17) ∧ BagL H b l) ⟨⟨_, _, _, _, _, _, _, _, _, _, _, _, _, _, _, _, rfl⟩, B0⟩ ?_ (fun σ H h => h)⟩
  rintro i σ H hi ⟨⟨x2, x3, x4, x5, x6, x7, x8, x9, x10, x11, x12, x13, x14, x15, x16, x17, rfl⟩, B1⟩
  -- the lot
  refine ⟨fun σ H => ∃ (p : Addr) (ks : List Int), σ = sg a b (some (.int (0 + (i : Int)))) (some (.ref p)) x4 x5 x6 x7 x8 x9 x10 x11 x12 x13 x14 x15 x16 x17 ∧ KSet ks ∧ 0 < ks.length ∧ ks.length ≤ 60 ∧ Tp b K H p (ks.map V.int) ∧ BagL H b l, ?_, ?_⟩
  · have go : ∀ {q : Addr} {xs : List V} {H : Hp}, BagL H b l → q ≠ b → H q = some (.lst xs) → 0 < xs.length → xs.length ≤ 10 → (∀ v ∈ xs, ∃ n : Nat, v = .int n ∧ 0 < n ∧ n ≤ 60) →
        spOfL K [.ref b, .ref q] H (fun x H1 => spKeys K [.ref b, x] H1 (fun w H2 => ∃ (p : Addr) (ks : List Int), (sg a b (some (.int (0 + (i : Int)))) x3 x4 x5 x6 x7 x8 x9 x10 x11 x12 x13 x14 x15 x16 x17).set 3 (some w) = sg a b (some (.int (0 + (i : Int)))) (some (.ref p)) x4 x5 x6 x7 x8 x9 x10 x11 x12 x13 x14 x15 x16 x17 ∧ KSet ks ∧ 0 < ks.length ∧ ks.length ≤ 60 ∧ Tp b K H2 p (ks.map V.int) ∧ BagL H2 b l) E0) E0 := by
      intro q xs H B nq hq h0 h1 hx
      refine of_seqL (E := E0) B nq (.inl (SqL.of hq)) h0 (by omega) fun v H1 hv B2 k1 _ => ?_
      obtain ⟨n, rfl, n0, hn⟩ := hx v hv
      exact ⟨b, l, n, rfl, B2, hn, fun p ks H2 hk hl hp hp2 B3 k2 => ⟨p, ks, rfl, hk, by omega, by omega, ⟨SqT.of hp2, B2.ne hp⟩, B3⟩⟩
    refine ⟨_, rfl, _, rfl, _, rfl, _, _, rfl, rfl, _, rfl, ite2 (fun _ => ?_) (fun _ => ?_)⟩
    · refine ⟨(by show 8 ≤ sizeLine; decide), fun q hq => ?_⟩
      refine go (B1.new hq) (B1.ne hq) upd_same (by decide) (by decide) fun v hv => ?_
      simp only [List.mem_cons, List.not_mem_nil, or_false] at hv
      rcases hv with rfl | rfl | rfl | rfl | rfl | rfl | rfl | rfl
      · exact ⟨1, rfl, by decide, by decide⟩
      · exact ⟨2, rfl, by decide, by decide⟩
      · exact ⟨3, rfl, by decide, by decide⟩
      · exact ⟨4, rfl, by decide, by decide⟩
      · exact ⟨1, rfl, by decide, by decide⟩
      · exact ⟨2, rfl, by decide, by decide⟩
      · exact ⟨12, rfl, by decide, by decide⟩
      · exact ⟨40, rfl, by decide, by decide⟩
    · refine ⟨(by show 3 ≤ sizeLine; decide), fun q hq => ?_⟩
      refine go (B1.new hq) (B1.ne hq) upd_same (by decide) (by decide) fun v hv => ?_
      simp only [List.mem_cons, List.not_mem_nil, or_false] at hv
      rcases hv with rfl | rfl | rfl
      · exact ⟨3, rfl, by decide, by decide⟩
      · exact ⟨5, rfl, by decide, by decide⟩
      · exact ⟨6, rfl, by decide, by decide⟩
  rintro σ H1 ⟨p, ks, rfl, hk, h0, hz, T1, B1⟩
  have lotU : ∀ {x : Int}, x ∈ ks → Lot ks (some x) none := fun {x} h => ⟨hk, h0, kset_few hk, fun y e => by cases e; exact h, fun y e => nomatch e⟩
  have lotD : ∀ {x : Int}, x ∈ ks → Lot ks none (some x) := fun {x} h => ⟨hk, h0, kset_few hk, (fun y e => nomatch e), fun y e => by cases e; exact ⟨rfl, h⟩⟩
  have lot0 : Lot ks none none := ⟨hk, h0, kset_few hk, (fun y e => nomatch e), (fun y e => nomatch e)⟩
  have hl0 : 0 < (ks.map V.int).length := by rw [List.length_map]; exact h0
  have hl1 : (ks.map V.int).length < 2 ^ 62 := by rw [List.length_map]; omega
  -- the marks
  refine ⟨fun σ H => ∃ up dn, σ = sg a b (some (.int (0 + (i : Int)))) (some (.ref p)) (some (mV up)) (some (mV dn)) x6 x7 x8 x9 x10 x11 x12 x13 x14 x15 x16 x17 ∧ Lot ks up dn ∧ Tp b K H p (ks.map V.int) ∧ BagL H b l, ?_, ?_⟩
  · refine ⟨_, rfl, (by show 2 ≤ sizeLine; decide), fun t1 ht1 => ?_⟩
    have g1 := (GotP.start B1 (P := Mk2 b ks)).new mk2k ht1 (o := .tup [.non, .non]) fun nb => ⟨t1, none, none, rfl, upd_same, nb, lot0⟩
    have T2 := T1.keep g1.k
    refine ⟨_, rfl, _, rfl, of_seqL (E := E0) g1.B T2.2 (.inr T2.1) hl0 hl1 fun v H2 hv B2 k2 _ => ?_⟩
    obtain ⟨z, rfl, hzm⟩ := mem_ints hv
    have g2 := g1.go mk2k B2 k2
    refine ⟨(by show 2 ≤ sizeLine; decide), fun t2 ht2 => ?_⟩
    have g3 := g2.new mk2k ht2 (o := .tup [.int z, .non]) fun nb => ⟨t2, some z, none, rfl, upd_same, nb, lotU hzm⟩
    have T3 := T1.keep g3.k
    refine ⟨_, rfl, _, rfl, of_seqL (E := E0) g3.B T3.2 (.inr T3.1) hl0 hl1 fun v H3 hv B3 k3 _ => ?_⟩
    obtain ⟨y, rfl, hym⟩ := mem_ints hv
    have g4 := g3.go mk2k B3 k3
    refine ⟨(by show 2 ≤ sizeLine; decide), fun t3 ht3 => ?_⟩
    have g5 := g4.new mk2k ht3 (o := .tup [.non, .int y]) fun nb => ⟨t3, none, some y, rfl, upd_same, nb, lotD hym⟩
    refine ⟨(by show 3 ≤ sizeLine; decide), fun q hq => ?_⟩
    have g6 := g5.skip mk2k hq (.lst [.ref t1, .ref t2, .ref t3])
    have hqL := upd_same (H := upd H3 t3 (.tup [.non, .int y])) (a := q) (o := .lst [.ref t1, .ref t2, .ref t3])
    refine of_seqL (E := E0) g6.B (g5.B.ne hq) (.inl (SqL.of hqL)) (by show 0 < 3; decide) (by show 3 < 2 ^ 62; decide) fun v H4 hv B4 k4 _ => ?_
    obtain ⟨t, up, dn, rfl, ht, nt, L⟩ := mk2k (g6.all v hv) k4
    exact ⟨t, _, rfl, SqT.of ht, rfl, mV up, [mV dn], rfl, mV dn, [], rfl, rfl, up, dn, rfl, L, T1.keep (g6.k.trans k4), B4⟩
  rintro σ H2 ⟨up, dn, rfl, L, T2, B2⟩
  -- the row
  refine ⟨fun σ H => ∃ m r, σ = sg a b (some (.int (0 + (i : Int)))) (some (.ref p)) (some (mV up)) (some (mV dn)) (some (.ref m)) x7 x8 x9 x10 x11 x12 x13 x14 x15 x16 x17 ∧ H m = some (.tup [.str "made", .ref r]) ∧ RowAt C H r p up dn ∧ Tp b K H p (ks.map V.int) ∧ BagL H b l, ?_, ?_⟩
  · refine ⟨_, rfl, _, rfl, _, rfl, _, rfl, .ref p, mV up, mV dn, _, up, dn, some ks, rfl, nv_mV up, nv_mV dn, ⟨p, rfl, T2.1, hk, h0, kset_few hk⟩, fun m H3 s3 hm => ?_⟩
    obtain ⟨_, _, hm⟩ := hm
    obtain ⟨r, q, up', dn', e1, e2, e3, _, hm, hr, hs⟩ := hm (good1 L) (good2 L)
    cases e1
    rw [← mV_inj e2, ← mV_inj e3] at hr
    exact ⟨m, r, rfl, hm, hr, T2.sm s3, B2.same s3⟩
  rintro σ H3 ⟨m, r, rfl, hm, hr, T3, B3⟩
  have nmb := tup_ne B3 hm
  have nrb := row_ne B3 hr
  -- what it tells
  refine ⟨fun σ H => σ = sg a b (some (.int (0 + (i : Int)))) (some (.ref p)) (some (mV up)) (some (mV dn)) (some (.ref m)) x7 x8 x9 x10 x11 x12 x13 x14 x15 x16 x17 ∧ BagL H b l ∧ Keep b H3 H, ?_, ?_⟩
  · refine ⟨_, rfl, m, _, 0, _, rfl, rfl, SqT.of hm, rfl, rfl, _, rfl, ?_⟩
    refine ite2 (fun e => by cases e) (fun _ => ?_)
    refine ⟨_, rfl, _, rfl, m, _, 1, _, rfl, rfl, SqT.of hm, rfl, _, rfl, _, rfl, _, rfl, b, l, r, p, ks, up, dn, rfl, B3, T3, hr, nrb, L, hz, fun H4 B4 k4 => ?_⟩
    exact ⟨_, rfl, iteF ⟨rfl, B4, k4⟩⟩
  rintro σ H4 ⟨rfl, B4, k4⟩
  have T4 := T3.keep k4
  have hm4 := k4 _ _ hm nmb
  have hr4 := hr.keep nrb k4
  obtain ⟨yF, hyF⟩ := at_first h0
  obtain ⟨yL, hyL⟩ := at_last h0
  have ks01 : ∀ k ∈ ks, 0 ≤ k ∧ k ≤ 999 := fun k h => ⟨hk.lo k h, hk.hi k h⟩
  -- bad values
  refine ⟨fun σ H => (∃ x7 x8 x9 x10 x11 x12 x13 x14, σ = sg a b (some (.int (0 + (i : Int)))) (some (.ref p)) (some (mV up)) (some (mV dn)) (some (.ref m)) x7 x8 x9 x10 x11 x12 x13 x14 x15 x16 x17) ∧ BagL H b l ∧ Keep b H4 H, ?_, ?_⟩
  · refine ⟨4, rfl, by decide, by decide, for_range (n := 4) (fun i' σ H => (∃ x7 x8 x9 x10 x11 x12 x13 x14, σ = sg a b (some (.int (0 + (i : Int)))) (some (.ref p)) (some (mV up)) (some (mV dn)) (some (.ref m)) x7 x8 x9 x10 x11 x12 x13 x14 x15 x16 x17) ∧ BagL H b l ∧ Keep b H4 H) ⟨⟨_, _, _, _, _, _, _, _, rfl⟩, B4, Keep.refl b H4⟩ ?_ (fun σ H h => h)⟩
    clear x7 x8 x9 x10 x11 x12 x13 x14
    rintro n σ H5 hn ⟨⟨x7, x8, x9, x10, x11, x12, x13, x14, rfl⟩, B5, k5⟩
    have T5 := T4.keep k5
    refine ⟨fun σ H => ∃ o1 o2, σ = sg a b (some (.int (0 + (i : Int)))) (some (.ref p)) (some (mV up)) (some (mV dn)) (some (.ref m)) (some (.int (0 + (n : Int)))) (some o1) (some o2) x10 x11 x12 x13 x14 x15 x16 x17 ∧ Ov b K H o1 ∧ Ov b K H o2 ∧ BagL H b l ∧ Keep b H4 H, ?_, ?_⟩
    · refine ⟨_, rfl, _, rfl, _, rfl, p, _, 0, _, rfl, rfl, T5.1, hyF, (by show 2 ≤ sizeLine; decide), fun q1 hq1 => ?_⟩
      have u1 := upd_same (H := H5) (a := q1) (o := .lst [.int yF, .non])
      refine ⟨b, l, p, q1, ks, [.int yF, .non], rfl, B5.new hq1, T5.keep (Keep.new (Keep.refl b H5) hq1), ks01, hz, u1, B5.ne hq1, (by show 2 ≤ 10; decide), (fun v hv => ?_), fun o1 H6 ov1 B6 k6 => ?_⟩
      · simp only [List.mem_cons, List.not_mem_nil, or_false] at hv
        rcases hv with rfl | rfl
        · exact ov_int _
        · exact ov_non
      have K6 := (Keep.new (Keep.refl b H5) hq1).trans k6
      have T6 := T5.keep K6
      refine ⟨_, rfl, _, rfl, _, rfl, _, rfl, p, _, -1, _, rfl, rfl, T6.1, hyL, (by show 1 ≤ sizeLine; decide), fun q2 hq2 => ?_⟩
      have u2 := upd_same (H := H6) (a := q2) (o := .lst [.int yL])
      refine ⟨b, l, p, q2, ks, [.int yL], rfl, B6.new hq2, T6.keep (Keep.new (Keep.refl b H6) hq2), ks01, hz, u2, B6.ne hq2, (by show 1 ≤ 10; decide), (fun v hv => ?_), fun o2 H7 ov2 B7 k7 => ?_⟩
      · simp only [List.mem_cons, List.not_mem_nil, or_false] at hv
        rcases hv with rfl
        exact ov_int _
      have K7 := (Keep.new (Keep.refl b H6) hq2).trans k7
      exact ⟨_, _, rfl, o1, o2, rfl, ok_ ov1 K7, ov2, B7, k5.trans (K6.trans K7)⟩
    rintro σ H6 ⟨o1, o2, rfl, ov1, ov2, B6, k6⟩
    have T6 := T4.keep k6
    refine ⟨fun σ H => ∃ sv tv uv, σ = sg a b (some (.int (0 + (i : Int)))) (some (.ref p)) (some (mV up)) (some (mV dn)) (some (.ref m)) (some (.int (0 + (n : Int)))) (some o1) (some o2) (some sv) (some tv) (some uv) x13 x14 x15 x16 x17 ∧ SvP b K H sv ∧ Ov b K H tv ∧ Ov b K H uv ∧ BagL H b l ∧ Keep b H4 H, ?_, ?_⟩
    · have mark : ∀ {G : Hp} {o : V} {R : VK}, BagL G b l → Keep b H6 G → Ov b K G o → (∀ v G', BagL G' b l → Keep b G G' → Ov b K G' v → R v G') →
          spOfL K [.ref b, .ref p] G (fun w G1 => [V.non, o, w].length ≤ sizeLine ∧ ∀ q, G1 q = none → spOfL K [.ref b, .ref q] (upd G1 q (.lst [.non, o, w])) R E0) E0 := by
        intro G o R B k0 ov r
        have T := T6.keep k0
        refine of_seqL (E := E0) B T.2 (.inr T.1) hl0 hl1 fun v G1 hv B1' k1' _ => ?_
        obtain ⟨z, rfl, _⟩ := mem_ints hv
        refine ⟨(by show 3 ≤ sizeLine; decide), fun q hq => ?_⟩
        refine of_seqL (E := E0) (B1'.new hq) (B1'.ne hq) (.inl (SqL.of upd_same)) (by show 0 < 3; decide) (by show 3 < 2 ^ 62; decide) fun v G2 hv B2' k2' _ => ?_
        have kk := (k1'.new hq (o := .lst [.non, o, .int z])).trans k2'
        refine r v G2 B2' kk ?_
        simp only [List.mem_cons, List.not_mem_nil, or_false] at hv
        rcases hv with rfl | rfl | rfl
        · exact ov_non
        · exact ok_ ov kk
        · exact ov_int _
      refine ⟨_, rfl, _, rfl, _, rfl, (by decide), fun a1 ha1 => ?_⟩
      have g0 := ((GotP.start B6 (P := SvP b K)).val (sv_tup T6 hk)).val (sv_tup T6 hk)
      have g1 := g0.new svk ha1 (o := .tup []) fun nb => sv_tup (ks := []) ⟨SqT.of upd_same, nb⟩ kset_nil
      refine ⟨_, rfl, _, rfl, (by decide), fun a2 ha2 => ⟨(by show 1 ≤ sizeLine; decide), fun a3 ha3 => ?_⟩⟩
      have g2 := g1.skip svk ha2 (.lst [])
      have e2 := upd_same (H := upd H6 a1 (.tup [])) (a := a2) (o := .lst [])
      have g3 := g2.skip svk ha3 (.lst [.ref a2])
      have e2' : upd (upd (upd H6 a1 (.tup [])) a2 (.lst [])) a3 (.lst [.ref a2]) a2 = some (.lst []) := by rw [upd_ne (ne_of_none e2 ha3)]; exact e2
      have T7 := T6.keep g3.k
      refine ⟨b, l, p, a3, ks, [.ref a2], rfl, g3.B, T7.2, T7.1, h0, by omega, upd_same, g2.B.ne ha3, (by show 1 ≤ 10; decide), (fun v hv => ?_), fun v H7 ov B7 k7 => ?_⟩
      · obtain rfl : v = .ref a2 := by simpa using hv
        exact it_lst e2' (g1.B.ne ha2) (by decide) fun x hx => by cases hx
      have g4 := (g3.go svk B7 k7).val (sv_odd ov)
      refine ⟨(by show 4 ≤ sizeLine; decide), fun a4 ha4 => ?_⟩
      have g5 := g4.skip svk ha4 (.lst [.ref p, .ref p, .ref a1, v])
      refine of_seqL (E := E0) g5.B (g4.B.ne ha4) (.inl (SqL.of upd_same)) (by show 0 < 4; decide) (by show 4 < 2 ^ 62; decide) fun sv H8 hsv B8 k8 _ => ?_
      have sv8 := svk (g5.all sv hsv) k8
      have K8 := g5.k.trans k8
      refine ⟨_, rfl, _, rfl, _, rfl, _, rfl, mark B8 K8 (ok_ ov1 K8) fun tv H9 B9 k9 ov9 => ?_⟩
      have K9 := K8.trans k9
      refine ⟨_, rfl, _, rfl, _, rfl, _, rfl, mark B9 K9 (ok_ ov2 K9) fun uv H10 B10 k10 ov10 => ?_⟩
      exact ⟨_, _, _, rfl, sv, tv, uv, rfl, svk sv8 (k9.trans k10), ok_ ov9 k10, ov10, B10, k6.trans (K9.trans k10)⟩
    rintro σ H7 ⟨sv, tv, uv, rfl, ⟨so, hsv⟩, ⟨o1', htv⟩, ⟨o2', huv⟩, B7, k7⟩
    refine ⟨fun σ H => ∃ m2 d2, σ = sg a b (some (.int (0 + (i : Int)))) (some (.ref p)) (some (mV up)) (some (mV dn)) (some (.ref m)) (some (.int (0 + (n : Int)))) (some o1) (some o2) (some sv) (some tv) (some uv) (some (.ref m2)) (some (.ref d2)) x15 x16 x17 ∧ Told K C H m2 d2 ∧ BagL H b l ∧ Keep b H4 H, ?_, ?_⟩
    · obtain ⟨s7, as⟩ := hsv H7 (Keep.refl b H7)
      obtain ⟨n1, _⟩ := htv H7 (Keep.refl b H7)
      obtain ⟨n2, _⟩ := huv H7 (Keep.refl b H7)
      refine ⟨_, rfl, _, rfl, _, rfl, _, rfl, sv, tv, uv, _, o1', o2', lotOf so, rfl, n1, n2, s7.lot, fun m2 H8 s8 hm2 => ?_⟩
      refine ⟨_, rfl, _, rfl, _, rfl, sv, tv, uv, o1', o2', so, rfl, n1.sm s8, n2.sm s8, s7.sm s8, fun d2 H9 s9 hd2 => ?_⟩
      have s79 := s8.trans s9
      have k79 := Keep.ofSame (b := b) s79
      exact ⟨_, _, rfl, m2, d2, rfl, told (hm2.sm s9) hd2 (hsv H9 k79).2 (htv H9 k79).2.succ (huv H9 k79).2.succ, B7.same s79, k7.trans k79⟩
    rintro σ H8 ⟨m2, d2, rfl, hT, B8, k8⟩
    refine ⟨fun σ H => ∃ t2, σ = sg a b (some (.int (0 + (i : Int)))) (some (.ref p)) (some (mV up)) (some (mV dn)) (some (.ref m)) (some (.int (0 + (n : Int)))) (some o1) (some o2) (some sv) (some tv) (some uv) (some (.ref t2)) (some (.ref d2)) x15 x16 x17 ∧ Alike K H 4 (.ref t2) (.ref d2) ∧ BagL H b l ∧ Keep b H4 H, ?_, ?_⟩
    · cases hT with
      | no X w hX h1 h2 al =>
        refine ⟨_, rfl, m2, _, 0, _, rfl, rfl, SqT.of h1, rfl, rfl, _, rfl, ?_⟩
        rw [decide_eq_false hX]
        exact iteF ⟨m2, rfl, al_pair h1 h2 (.cons (al_flat rfl) (.cons al .nil)) (by show 2 ≤ 2000; decide), B8, k8⟩
      | made h1 hr hs hz h2 =>
        rename_i r2 q2 ls2 up2 dn2
        obtain ⟨dx, hx⟩ := hr
        refine ⟨_, rfl, m2, _, 0, _, rfl, rfl, SqT.of h1, rfl, rfl, _, rfl, iteT ?_⟩
        refine ⟨_, rfl, m2, _, 1, _, rfl, rfl, SqT.of h1, rfl, r2, C, dx, _, _, rfl, hx, T.c.cl, T.c.nL, rfl, ?_⟩
        refine ⟨_, rfl, m2, _, 1, _, rfl, rfl, SqT.of h1, rfl, r2, C, dx, _, _, rfl, hx, T.c.cl, T.c.nC, rfl, ?_⟩
        refine ⟨_, rfl, m2, _, 1, _, rfl, rfl, SqT.of h1, rfl, r2, C, dx, _, _, rfl, hx, T.c.cl, T.c.nG, rfl, (by show 4 ≤ sizeLine; decide), fun t2 ht2 => ?_⟩
        have s9 := Same.new (Same.refl H8) ht2 (o := .tup [.str "made", .ref q2, mV up2, mV dn2])
        refine ⟨t2, rfl, al_pair upd_same (s9 _ _ h2) (.cons (al_flat rfl) (.cons (al_flatT (sqT_same s9 hs) (sqT_same s9 hs) (fun x hx => flat_mem hx) (by rw [List.length_map]; omega)) (.cons (al_flat (mV_flat _)) (.cons (al_flat (mV_flat _)) .nil)))) (by show 4 ≤ 2000; decide), B8.new ht2, k8.new ht2⟩
    rintro σ H9 ⟨t2, rfl, al, B9, k9⟩
    exact ⟨_, rfl, _, rfl, .ref t2, .ref d2, rfl, al, fun H' s' => ⟨_, rfl, iteF ⟨⟨_, _, _, _, _, _, _, _, rfl⟩, B9.same s', k9.trans (Keep.ofSame s')⟩⟩⟩
  rintro σ H5 ⟨⟨y7, y8, y9, y10, y11, y12, y13, y14, rfl⟩, B5, k5⟩
  have T5 := T4.keep k5
  have hm5 := k5 _ _ hm4 nmb
  have hr5' := hr4.keep nrb k5
  -- texts
  refine ⟨fun σ H => ∃ z, σ = sg a b (some (.int (0 + (i : Int)))) (some (.ref p)) (some (mV up)) (some (mV dn)) (some (.ref m)) y7 y8 y9 y10 y11 y12 y13 y14 (some (.str z)) x16 x17 ∧ Sm 6000 z ∧ BagL H b l ∧ Keep b H5 H, ?_, ?_⟩
  · exact ⟨_, rfl, _, rfl, _, rfl, p, ks, up, dn, rfl, T5.1, L, fun H6 s6 => ⟨_, rfl, row_sm L, B5.same s6, Keep.ofSame s6⟩⟩
  rintro σ H6 ⟨z0, rfl, hz0, B6, k6⟩
  refine ⟨fun σ H => ∃ y7 z, σ = sg a b (some (.int (0 + (i : Int)))) (some (.ref p)) (some (mV up)) (some (mV dn)) (some (.ref m)) y7 y8 y9 y10 y11 y12 y13 y14 (some (.str z)) x16 x17 ∧ Sm 6100 z ∧ BagL H b l ∧ Keep b H5 H, ?_, ?_⟩
  · refine ⟨3, rfl, by decide, by decide, for_range (n := 3) (fun i' σ H => ∃ y7 z, σ = sg a b (some (.int (0 + (i : Int)))) (some (.ref p)) (some (mV up)) (some (mV dn)) (some (.ref m)) y7 y8 y9 y10 y11 y12 y13 y14 (some (.str z)) x16 x17 ∧ Sm (6000 + 10 * i') z ∧ BagL H b l ∧ Keep b H5 H) ⟨_, _, rfl, hz0, B6, k6⟩ ?_ (fun σ H ⟨y7, z, e, h, r⟩ => ⟨y7, z, e, h.mono (by decide), r⟩)⟩
    clear y7
    rintro n σ H7 hn ⟨y7, z, rfl, hz7, B7, k7⟩
    refine ⟨fun σ H => ∃ z, σ = sg a b (some (.int (0 + (i : Int)))) (some (.ref p)) (some (mV up)) (some (mV dn)) (some (.ref m)) (some (.int (0 + (n : Int)))) y8 y9 y10 y11 y12 y13 y14 (some (.str z)) x16 x17 ∧ Sm (6000 + 10 * (n + 1)) z ∧ BagL H b l ∧ Keep b H5 H, ?_, ?_⟩
    · exact ⟨_, rfl, _, rfl, b, l, z, _, rfl, B7, hz7, by omega, fun z' H8 hz8 B8 k8 => ⟨_, rfl, hz8.mono (by omega), B8, k7.trans k8⟩⟩
    rintro σ H8 ⟨z', rfl, hz8, B8, k8⟩
    have h9 : Sm 90000 z' := hz8.mono (by omega)
    refine ⟨_, rfl, _, rfl, rfl, .str z', some z', _, rfl, .str z', (fun w e => by cases e; exact h9.1), fun c1 H9 s9 d1 => ?_⟩
    refine ⟨_, rfl, .str z', some z', rfl, .str z', (fun w e => by cases e; exact h9), fun c2 H10 s10 d2 => ?_⟩
    have d1 : DueT K H10 c1 (readT (some z')) := DueT.sm d1 s10
    exact ⟨.ref c1, .ref c2, rfl, due_alike d1 d2 read_few, fun H' s' => ⟨_, rfl, iteF ⟨_, z', rfl, hz8, B8.same ((s9.trans s10).trans s'), k8.trans (Keep.ofSame ((s9.trans s10).trans s'))⟩⟩⟩
  rintro σ H7 ⟨z7, z, rfl, hz7, B7, k7⟩
  have T7 := T5.keep k7
  have hm7 := k7 _ _ hm5 nmb
  have hr7' := hr5'.keep nrb k7
  -- a wrong value
  refine ⟨fun σ H => ∃ v, σ = sg a b (some (.int (0 + (i : Int)))) (some (.ref p)) (some (mV up)) (some (mV dn)) (some (.ref m)) z7 y8 y9 y10 y11 y12 y13 y14 (some (.str z)) (some v) x17 ∧ OddS false b K H v ∧ BagL H b l ∧ Keep b H7 H, ?_, ?_⟩
  · have Tm : Tp b K H7 m [.str "made", .ref r] := ⟨SqT.of hm7, nmb⟩
    refine ⟨_, rfl, _, rfl, _, rfl, _, rfl, 1, rfl, rd_no (rd_slA B7 Tm fun p4 G1 g1 T4' => ?_)⟩
    rw [show cutV [V.str "made", V.ref r] (some 1) none = [.ref r] from cut_tail _ _] at T4'
    have B8 := B7.same g1
    have kg := Keep.ofSame (b := b) g1
    refine ⟨_, rfl, m, _, 1, _, rfl, rfl, (Tm.sm g1).1, rfl, (by show 2 ≤ sizeLine; decide), fun t2 ht2 => ?_⟩
    have et := upd_same (H := G1) (a := t2) (o := .tup [.ref r, .int 2])
    have nt2 := B8.ne ht2
    have k8 := kg.new ht2 (o := .tup [.ref r, .int 2])
    have B9 := B8.new ht2 (o := .tup [.ref r, .int 2])
    refine ⟨(by show 3 ≤ sizeLine; decide), fun q hq => ?_⟩
    have eq := upd_same (H := upd G1 t2 (.tup [.ref r, .int 2])) (a := q) (o := .lst [.str z, .ref p4, .ref t2])
    have k9 := k8.new hq (o := .lst [.str z, .ref p4, .ref t2])
    have B10 := B9.new hq (o := .lst [.str z, .ref p4, .ref t2])
    have T9 := T7.keep k9
    have et' : (upd (upd G1 t2 (.tup [.ref r, .int 2])) q (.lst [.str z, .ref p4, .ref t2])) t2 = some (.tup [.ref r, .int 2]) := by rw [upd_ne (ne_of_none et hq)]; exact et
    have T4'' := T4'.keep (((Keep.refl b G1).new ht2 (o := .tup [.ref r, .int 2])).new hq (o := .lst [.str z, .ref p4, .ref t2]))
    have rn : NVk b K (upd (upd G1 t2 (.tup [.ref r, .int 2])) q (.lst [.str z, .ref p4, .ref t2])) (.ref r) := row_nvk T M0.cint M0.cbool (hr7'.keep nrb k9) nrb
    refine ⟨b, l, p, q, ks, [.str z, .ref p4, .ref t2], rfl, B10, T9.2, T9.1, h0, by omega, eq, B9.ne hq, (by show 3 ≤ 10; decide), (fun v hv => ?_), fun v H8 ov B8 k8 => ⟨_, rfl, ov, B8, k9.trans k8⟩⟩
    simp only [List.mem_cons, List.not_mem_nil, or_false] at hv
    rcases hv with rfl | rfl | rfl
    · exact it_str z (hz7.mono (by decide))
    · exact it_any T4''.1 T4''.2 (by show 1 ≤ 2000; decide) fun x hx => by
        obtain rfl : x = .ref r := by simpa using hx
        exact rn
    · exact it_any (SqT.of et') nt2 (by show 2 ≤ 2000; decide) fun x hx => by
        simp only [List.mem_cons, List.not_mem_nil, or_false] at hx
        rcases hx with rfl | rfl
        · exact rn
        · exact nvk_int _
  rintro σ H8 ⟨wv, rfl, hw, B8, k8⟩
  have T8 := T7.keep k8
  have hm8 := k8 _ _ hm7 nmb
  have hr8' := hr7'.keep nrb k8
  have smz : ∀ n : Nat, 6100 ≤ n → Sm n z := fun n h => hz7.mono h
  -- values read and taken
  refine ⟨fun σ H => (∃ z7 y10 w17, σ = sg a b (some (.int (0 + (i : Int)))) (some (.ref p)) (some (mV up)) (some (mV dn)) (some (.ref m)) z7 y8 y9 y10 y11 y12 y13 y14 (some (.str z)) (some wv) w17) ∧ BagL H b l ∧ Keep b H8 H, ?_, ?_⟩
  · refine ⟨2, rfl, by decide, by decide, for_range (n := 2) (fun i' σ H => (∃ z7 y10 w17, σ = sg a b (some (.int (0 + (i : Int)))) (some (.ref p)) (some (mV up)) (some (mV dn)) (some (.ref m)) z7 y8 y9 y10 y11 y12 y13 y14 (some (.str z)) (some wv) w17) ∧ BagL H b l ∧ Keep b H8 H) ⟨⟨_, _, _, rfl⟩, B8, Keep.refl b H8⟩ ?_ (fun σ H h => h)⟩
    clear z7 y10 x17
    rintro n σ H9 hn ⟨⟨z7, y10, w17, rfl⟩, B9, k9⟩
    have T9 := T8.keep k9
    refine ⟨fun σ H => ∃ v, σ = sg a b (some (.int (0 + (i : Int)))) (some (.ref p)) (some (mV up)) (some (mV dn)) (some (.ref m)) (some (.int (0 + (n : Int)))) y8 y9 (some v) y11 y12 y13 y14 (some (.str z)) (some wv) w17 ∧ RdP b K H v ∧ BagL H b l ∧ Keep b H8 H, ?_, ?_⟩
    · have hw9 := oddk hw (k9)
      refine ⟨_, rfl, _, rfl, _, rfl, (by decide), fun a1 ha1 => ?_⟩
      have st : ∀ {G : Hp} (x : Str), Sm 100 x → RdP b K G (.str x) := fun x h => .odd (od_str x (h.mono (by decide)))
      have g1 := (((GotP.start B9 (P := RdP b K)).val (.odd hw9)).val (.odd hw9)).new rdk ha1 (o := .tup []) fun nb => .lot (ls := []) rfl ⟨SqT.of upd_same, nb⟩ kset_nil
      have g2 := (((g1.val (.odd od_non)).val (.odd (od_int 0))).val (st "" ⟨by decide, by decide⟩)).val (.lot rfl (T9.keep g1.k) hk)
      refine ⟨_, rfl, _, rfl, (by show 1 ≤ sizeLine; decide), fun a2 ha2 => ?_⟩
      have g3 := (g2.new rdk ha2 (o := .lst [.str z]) fun nb => .odd (od_lst upd_same nb)).val (.odd (od_str z (smz _ (by decide))))
      refine ⟨_, rfl, _, rfl, _, rfl, (by show 2 ≤ sizeLine; decide), fun a3 ha3 => ?_⟩
      have g4 := g3.new rdk ha3 (o := .tup [.ref p, .ref p]) fun nb => .odd (od_tup2 upd_same nb (T9.keep (g3.k.new ha3)))
      have g5 := ((((((g4.val (st "0" ⟨by decide, by decide⟩)).val (st "+0" ⟨by decide, by decide⟩)).val (st "1 +2 -3" ⟨by decide, by decide⟩)).val (st "2 1" ⟨by decide, by decide⟩)).val (st "-1000" ⟨by decide, by decide⟩)).val (st "-0" ⟨by decide, by decide⟩)).val (st "+ 1" ⟨by decide, by decide⟩)
      refine ⟨(by show 17 ≤ sizeLine; decide), fun q hq => ?_⟩
      have g6 := g5.skip rdk hq (.lst [wv, wv, .ref a1, .non, .int 0, .str "", .ref p, .ref a2, .str z, .ref a3, .str "0", .str "+0", .str "1 +2 -3", .str "2 1", .str "-1000", .str "-0", .str "+ 1"])
      refine of_seqL (E := E0) g6.B (g5.B.ne hq) (.inl (SqL.of upd_same)) (by show 0 < 17; decide) (by show 17 < 2 ^ 62; decide) fun v H10 hv B10 k10 _ => ?_
      exact ⟨v, rfl, rdk (g6.all v hv) k10, B10, k9.trans (g6.k.trans k10)⟩
    rintro σ H10 ⟨v, rfl, hv, B10, k10⟩
    refine ⟨fun σ H => σ = sg a b (some (.int (0 + (i : Int)))) (some (.ref p)) (some (mV up)) (some (mV dn)) (some (.ref m)) (some (.int (0 + (n : Int)))) y8 y9 (some v) y11 y12 y13 y14 (some (.str z)) (some wv) w17 ∧ RdP b K H v ∧ BagL H b l ∧ Keep b H8 H, ?_, ?_⟩
    · obtain ⟨t, hsm, tv⟩ := rd_facts hv
      refine ⟨_, rfl, _, rfl, rfl, v, t, _, rfl, tv H10 (Keep.refl b H10), (fun w e => by have := (hsm w e).1; omega), fun c1 H11 s11 d1 => ?_⟩
      refine ⟨_, rfl, v, t, rfl, tv H11 (Keep.ofSame s11), (fun w e => (hsm w e).mono (by decide)), fun c2 H12 s12 d2 => ?_⟩
      have d1 : DueT K H12 c1 (readT t) := DueT.sm d1 s12
      have kk := fun {H'} (s' : Same H12 H') => Keep.ofSame (b := b) ((s11.trans s12).trans s')
      exact ⟨.ref c1, .ref c2, rfl, due_alike d1 d2 read_few, fun H' s' => ⟨_, rfl, iteF ⟨rfl, rdk hv (kk s'), B10.same ((s11.trans s12).trans s'), k10.trans (kk s')⟩⟩⟩
    rintro σ H11 ⟨rfl, hv, B11, k11⟩
    refine ⟨fun σ H => ∃ g, σ = sg a b (some (.int (0 + (i : Int)))) (some (.ref p)) (some (mV up)) (some (mV dn)) (some (.ref m)) (some (.int (0 + (n : Int)))) y8 y9 (some v) y11 y12 y13 y14 (some (.str z)) (some wv) (some (.bl g)) ∧ ((g = false ∧ NoAs b K H v) ∨ (g = true ∧ ∃ q ls, v = .ref q ∧ Tp b K H q (ls.map V.int) ∧ Lot ls none none)) ∧ BagL H b l ∧ Keep b H8 H, ?_, ?_⟩
    · cases hv with
      | odd ho =>
        have ho' := ho
        obtain ⟨Ty, o, t, hT, hs, h⟩ := ho'
        refine ⟨_, rfl, v, false, rfl, (h H11 (Keep.refl b H11)).2.1, fun H12 s12 => ⟨_, rfl, iteF ?_⟩⟩
        exact ⟨false, rfl, .inl ⟨rfl, noas_odd (oddk ho (Keep.ofSame s12))⟩, B11.same s12, k11.trans (Keep.ofSame s12)⟩
      | lot e Tq hkq =>
        rename_i q ls
        subst e
        refine ⟨_, rfl, .ref q, true, rfl, sv_ks Tq.1 hkq, fun H12 s12 => ⟨_, rfl, iteT ?_⟩⟩
        have Tq' := Tq.sm s12
        refine ⟨_, rfl, (by decide), fun De hDe => ?_⟩
        have s13 := Same.new s12 (o := .tup []) hDe
        have Tq'' := Tq.sm s13
        refine ⟨.tuple (ls.map .int), .tuple [], .tup Tq''.1 (dpAll_ints ls), .tup (SqT.of upd_same) .nil, shaped_tup ls, shaped_tup [], ?_⟩
        cases ls with
        | nil => exact ⟨false, rfl, .inl ⟨rfl, noas_nil Tq''⟩, B11.same s13, k11.trans (Keep.ofSame s13)⟩
        | cons x r => exact ⟨true, rfl, .inr ⟨rfl, q, x :: r, rfl, Tq'', hkq, Nat.zero_lt_succ _, kset_few hkq, (fun y e => nomatch e), (fun y e => nomatch e)⟩, B11.same s13, k11.trans (Keep.ofSame s13)⟩
    rintro σ H12 ⟨g, rfl, hg, B12, k12⟩
    refine ⟨_, rfl, _, rfl, rfl, ?_⟩
    rcases hg with ⟨rfl, Ty, hT, hno⟩ | ⟨rfl, q, ls, rfl, Tq, Lq⟩
    · obtain ⟨ty, lv⟩ := hno H12 (Keep.refl b H12)
      refine ⟨v, _, none, false, rfl, .no ty (M0.O Ty hT) lv, fun c1 H13 s13 d1 => ?_⟩
      refine ⟨_, rfl, _, rfl, iteF ⟨(by show 2 ≤ sizeLine; decide), fun u hu => ?_⟩⟩
      have s14 := Same.new (Same.refl H13) hu (o := .tup [.str "InvalidRow", .int 0])
      have d1 : H13 c1 = some (.tup [.str "InvalidRow", .int 0]) := d1
      exact ⟨.ref c1, .ref u, rfl, al_pair (s14 _ _ d1) upd_same (.cons (al_flat rfl) (.cons (al_flat rfl) .nil)) (by decide), fun H' s' => ⟨_, rfl, iteF ⟨⟨_, _, _, rfl⟩, B12.same ((s13.trans s14).trans s'), k12.trans (Keep.ofSame ((s13.trans s14).trans s'))⟩⟩⟩
    · refine ⟨.ref q, _, some (ls, none, none), false, rfl, .lot rfl Tq.1 Lq (ty_tup Tq.1) (M0.O "tuple" (by simp [tyN])) (M0.nb "tuple" (by simp [tyN])), fun c1 H13 s13 d1 => ?_⟩
      obtain ⟨q', d1, hq'⟩ := d1
      refine ⟨_, rfl, _, rfl, iteT ⟨_, rfl, (by show 5 ≤ sizeLine; decide), fun u hu => ?_⟩⟩
      have s14 := Same.new (Same.refl H13) hu (o := .tup [.str "made", .ref q, .non, .non, .bl false])
      have few := Lq.few
      exact ⟨.ref c1, .ref u, rfl, al_pair (s14 _ _ d1) upd_same (.cons (al_flat rfl) (.cons (al_flatT (sqT_same s14 hq') (Tq.sm (s13.trans s14)).1 (fun x hx => flat_mem hx) (by rw [List.length_map]; omega)) (.cons (al_flat rfl) (.cons (al_flat rfl) (.cons (al_flat rfl) .nil))))) (by show 5 ≤ 2000; decide), fun H' s' => ⟨_, rfl, iteF ⟨⟨_, _, _, rfl⟩, B12.same ((s13.trans s14).trans s'), k12.trans (Keep.ofSame ((s13.trans s14).trans s'))⟩⟩⟩
  rintro σ H9 ⟨⟨w7, w10, w17, rfl⟩, B9, k9⟩
  have T9 := T8.keep k9
  have hm9 := k9 _ _ hm8 nmb
  have hr9' := hr8'.keep nrb k9
  have ty9 := T.ty hr9'
  refine ⟨_, rfl, m, _, 1, _, rfl, rfl, SqT.of hm9, rfl, .ref r, false, some (ks, up, dn), true, rfl, .row rfl hr9' T9.1 L, fun c1 H10 s10 d1 => ?_⟩
  obtain ⟨q1, d1, hq1⟩ := d1
  refine ⟨_, rfl, m, _, 1, _, rfl, rfl, SqT.of (s10 _ _ hm9), rfl, .ref r, none, true, rfl, .no _ (tyX_sm s10 ty9) M0.cstr, (fun w e => nomatch e), fun c2 H11 s11 d2 => ?_⟩
  have d2 : H11 c2 = some (.tup [.str "InvalidText", .int 0]) := d2
  refine ⟨(by show 2 ≤ sizeLine; decide), fun u1 hu1 => ?_⟩
  refine ⟨_, rfl, _, rfl, _, rfl, (by show 5 ≤ sizeLine; decide), fun u2 hu2 => ⟨(by show 2 ≤ sizeLine; decide), fun u3 hu3 => ⟨(by show 2 ≤ sizeLine; decide), fun u4 hu4 => ?_⟩⟩⟩
  have z1 := Same.new (Same.refl H11) hu1 (o := .lst [.ref c1, .ref c2])
  have z2 := Same.new (Same.refl (upd H11 u1 (.lst [.ref c1, .ref c2]))) hu2 (o := .tup [.str "made", .ref p, mV up, mV dn, .bl true])
  have z3 := Same.new (Same.refl (upd (upd H11 u1 (.lst [.ref c1, .ref c2])) u2 (.tup [.str "made", .ref p, mV up, mV dn, .bl true]))) hu3 (o := .tup [.str "InvalidText", .int 0])
  have z4 := Same.new (Same.refl (upd (upd (upd H11 u1 (.lst [.ref c1, .ref c2])) u2 (.tup [.str "made", .ref p, mV up, mV dn, .bl true])) u3 (.tup [.str "InvalidText", .int 0]))) hu4 (o := .lst [.ref u2, .ref u3])
  have v1 := ((z2.trans z3).trans z4) _ _ (upd_same (H := H11) (a := u1) (o := .lst [.ref c1, .ref c2]))
  have v2 := (z3.trans z4) _ _ (upd_same (H := upd H11 u1 (.lst [.ref c1, .ref c2])) (a := u2) (o := .tup [.str "made", .ref p, mV up, mV dn, .bl true]))
  have v3 := z4 _ _ (upd_same (H := upd (upd H11 u1 (.lst [.ref c1, .ref c2])) u2 (.tup [.str "made", .ref p, mV up, mV dn, .bl true])) (a := u3) (o := .tup [.str "InvalidText", .int 0]))
  have v4 := upd_same (H := upd (upd (upd H11 u1 (.lst [.ref c1, .ref c2])) u2 (.tup [.str "made", .ref p, mV up, mV dn, .bl true])) u3 (.tup [.str "InvalidText", .int 0])) (a := u4) (o := .lst [.ref u2, .ref u3])
  have zz := (((s11.trans z1).trans z2).trans z3).trans z4
  have z14 := ((z1.trans z2).trans z3).trans z4
  have d1' := zz _ _ d1
  have d2' := z14 _ _ d2
  have q1' := sqT_same zz hq1
  have T11 := T9.sm (s10.trans zz)
  have B11 := B9.same (s10.trans zz)
  generalize (upd (upd (upd (upd H11 u1 (.lst [.ref c1, .ref c2])) u2 (.tup [.str "made", .ref p, mV up, mV dn, .bl true])) u3 (.tup [.str "InvalidText", .int 0])) u4 (.lst [.ref u2, .ref u3])) = G at v1 v2 v3 v4 d1' d2' q1' T11 B11 ⊢
  refine ⟨.ref u1, .ref u4, rfl, .inr (.inl ⟨u1, u4, _, _, rfl, rfl, SqL.of v1, SqL.of v4, (by show 2 < sizeLine; decide), .cons ?_ (.cons ?_ .nil)⟩), fun H' s' => ⟨_, rfl, iteF ⟨⟨_, _, _, _, _, _, _, _, _, _, _, _, _, _, _, _, rfl⟩, B11.same s'⟩⟩⟩
  · exact al_pair d1' v2 (.cons (al_flat rfl) (.cons (al_flatT q1' T11.1 (fun x hx => flat_mem hx) (by rw [List.length_map]; omega)) (.cons (al_flat (mV_flat _)) (.cons (al_flat (mV_flat _)) (.cons (al_flat rfl) .nil))))) (by show 5 ≤ 2000; decide)
  · exact al_pair d2' v3 (.cons (al_flat rfl) (.cons (al_flat rfl) .nil)) (by decide)

end
end K03

end

section
set_option Elab.async false
set_option linter.all false
set_option maxRecDepth 100000
set_option maxHeartbeats 16000000
namespace K03
open PySem L2 SB
theorem g1_rel {vs : List V} {us : List Value} {zs : List V} {ws : List Value} (r : Vals vs us) (q : Vals zs ws) : Vals (g1 vs zs) (g1 us ws) := by
  cases r with
  | nil =>
    cases q with
    | nil => exact .nil
    | cons a q =>
      cases q with
      | nil => exact .cons a .nil
      | cons b q => exact .nil
  | cons a r => exact .nil
def k0P {α : Type} (us ws : List α) : List α := match us, ws with
  | [s], [g, c, l] => [s, l, c, g]
  | _, _ => []
def k2P {α : Type} (us ws : List α) : List α := match us, ws with
  | [s, l], [g, c] => [s, l, c, g]
  | _, _ => []
theorem k0_rel {vs : List V} {us : List Value} {zs : List V} {ws : List Value} (r : Vals vs us) (q : Vals zs ws) : Vals (k0P vs zs) (k0P us ws) := by
  match vs, us, r with
  | [], _, .nil => exact .nil
  | _ :: _ :: _, _, .cons _ (.cons _ _) => exact .nil
  | [_], _, .cons a .nil =>
    match zs, ws, q with
    | [], _, .nil => exact .nil
    | [_], _, .cons _ .nil => exact .nil
    | [_, _], _, .cons _ (.cons _ .nil) => exact .nil
    | [_, _, _], _, .cons g (.cons c (.cons l .nil)) => exact .cons a (.cons l (.cons c (.cons g .nil)))
    | _ :: _ :: _ :: _ :: _, _, .cons _ (.cons _ (.cons _ (.cons _ _))) => exact .nil
theorem k2_rel {vs : List V} {us : List Value} {zs : List V} {ws : List Value} (r : Vals vs us) (q : Vals zs ws) : Vals (k2P vs zs) (k2P us ws) := by
  match vs, us, r with
  | [], _, .nil => exact .nil
  | [_], _, .cons _ .nil => exact .nil
  | _ :: _ :: _ :: _, _, .cons _ (.cons _ (.cons _ _)) => exact .nil
  | [_, _], _, .cons a (.cons b .nil) =>
    match zs, ws, q with
    | [], _, .nil => exact .nil
    | [_], _, .cons _ .nil => exact .nil
    | [_, _], _, .cons g (.cons c .nil) => exact .cons a (.cons b (.cons c (.cons g .nil)))
    | _ :: _ :: _ :: _, _, .cons _ (.cons _ (.cons _ _)) => exact .nil
theorem k0_eq (vs zs : List V) : k0V vs zs = k0P vs zs := by
  unfold k0P
  match vs, zs with
  | [], _ => rfl
  | [_], [] => rfl
  | [_], [_] => rfl
  | [_], [_, _] => rfl
  | [_], [_, _, _] => rfl
  | [_], _ :: _ :: _ :: _ :: _ => rfl
  | _ :: _ :: _, _ => rfl
theorem k2_eq (vs zs : List V) : k2V vs zs = k2P vs zs := by
  unfold k2P
  match vs, zs with
  | [], _ => rfl
  | [_], _ => rfl
  | [_, _], [] => rfl
  | [_, _], [_] => rfl
  | [_, _], [_, _] => rfl
  | [_, _], _ :: _ :: _ :: _ => rfl
  | _ :: _ :: _ :: _, _ => rfl
theorem all_mk {l : PySem.W.OpenLaw} {w : World} {K : PySem.W.Frag} {h : Heap} {mg : Str → Option Value} {fa CR gI DK pS gS f0 f1 f2 f3 f4 f5 f6 f7 f8 f9 f10 f11 f12 f13 f14 f15 f16 f17 f18 f19 f20 f21 f22 f23 f24 f25 f26 m0 m1 m2 m3 m4 m5 m6 m7 m8 m9 CL gL CM gM CI gR CT gT : Addr} (X : K.In h) (G : h.Ns mainGlobals mg) (hfa : mg "law" = some (.ref fa))
    {od0 an0 od1 an1 od2 an2 od3 an3 od4 an4 od5 an5 od6 an6 od7 an7 od8 an8 od9 an9 od10 an10 od11 an11 od12 an12 od13 an13 od14 an14 od15 an15 od16 an16 od17 an17 od18 an18 od19 an19 od20 an20 od21 an21 od22 an22 od23 an23 od24 an24 od25 an25 od26 an26 odm0 anm0 odm1 anm1 odm2 anm2 odm3 anm3 odm4 anm4 odm5 anm5 odm6 anm6 odm7 anm7 odm8 anm8 odm9 anm9 odgi angi odgs angs odxL anxL odxM anxM odxR anxR odxT anxT : Option Addr} {sl0 sl1 sl2 sl3 sl4 sl5 sl6 sl7 sl8 sl9 sl10 sl11 sl12 sl13 sl14 sl15 sl16 sl17 sl18 sl19 sl20 sl21 sl22 sl23 sl24 sl25 sl26 slm0 slm1 slm2 slm3 slm4 slm5 slm6 slm7 slm8 slm9 slgi slgs slxL slxM slxR slxT : Array (Option Value)} {mc oc0 dc0 pm0 cd0 ct0 kV0 oc1 dc1 pm1 cd1 ct1 kV1 oc2 dc2 pm2 cd2 ct2 kV2 oc3 dc3 pm3 cd3 ct3 kV3 oc4 dc4 pm4 cd4 ct4 kV4 oc5 dc5 pm5 cd5 ct5 kV5 oc6 dc6 pm6 cd6 ct6 kV6 oc7 dc7 pm7 cd7 ct7 kV7 oc8 dc8 pm8 cd8 ct8 kV8 oc9 dc9 pm9 cd9 ct9 kV9 oc10 dc10 pm10 cd10 ct10 kV10 oc11 dc11 pm11 cd11 ct11 kV11 oc12 dc12 pm12 cd12 ct12 kV12 oc13 dc13 pm13 cd13 ct13 kV13 oc14 dc14 pm14 cd14 ct14 kV14 oc15 dc15 pm15 cd15 ct15 kV15 oc16 dc16 pm16 cd16 ct16 kV16 oc17 dc17 pm17 cd17 ct17 kV17 oc18 dc18 pm18 cd18 ct18 kV18 oc19 dc19 pm19 cd19 ct19 kV19 oc20 dc20 pm20 cd20 ct20 kV20 oc21 dc21 pm21 cd21 ct21 kV21 oc22 dc22 pm22 cd22 ct22 kV22 oc23 dc23 pm23 cd23 ct23 kV23 oc24 dc24 pm24 cd24 ct24 kV24 oc25 dc25 pm25 cd25 ct25 kV25 oc26 dc26 pm26 cd26 ct26 kV26 ocm0 dcm0 pmm0 cdm0 ctm0 kVm0 ocm1 dcm1 pmm1 cdm1 ctm1 kVm1 ocm2 dcm2 pmm2 cdm2 ctm2 kVm2 ocm3 dcm3 pmm3 cdm3 ctm3 kVm3 ocm4 dcm4 pmm4 cdm4 ctm4 kVm4 ocm5 dcm5 pmm5 cdm5 ctm5 kVm5 ocm6 dcm6 pmm6 cdm6 ctm6 kVm6 ocm7 dcm7 pmm7 cdm7 ctm7 kVm7 ocm8 dcm8 pmm8 cdm8 ctm8 kVm8 ocm9 dcm9 pmm9 cdm9 ctm9 kVm9 ocgi dcgi pmgi cdgi ctgi ocgs dcgs pmgs cdgs ctgs kVgs ocxL dcxL pmxL cdxL ctxL kVxL ocxM dcxM pmxM cdxM ctxM kVxM ocxR dcxR pmxR cdxR ctxR kVxR ocxT dcxT pmxT cdxT ctxT kVxT : Value} {tG tD : Tok} {restS : List Value}
    (a0 : PySem.W.nsIn K mainGlobals "is_number" = some (some (.ref f0)))
    (l0 : K.lookup f0 = some ⟨oc0, od0, .func (PySem.W.fnOf "is_number" "is_number" (defArgs s_is_number) (defBody s_is_number) (defScope s_is_number) .none kV0 dc0 pm0 an0 cd0 ct0), sl0⟩)
    (c0 : PySem.W.codeIn K cd0 "is_number" = true)
    (k0 : PySem.W.keepIn K (.ref f0) = true)
    (a1 : PySem.W.nsIn K mainGlobals "is_key" = some (some (.ref f1)))
    (l1 : K.lookup f1 = some ⟨oc1, od1, .func (PySem.W.fnOf "is_key" "is_key" (defArgs s_is_key) (defBody s_is_key) (defScope s_is_key) .none kV1 dc1 pm1 an1 cd1 ct1), sl1⟩)
    (c1 : PySem.W.codeIn K cd1 "is_key" = true)
    (k1 : PySem.W.keepIn K (.ref f1) = true)
    (a2 : PySem.W.nsIn K mainGlobals "is_key_set" = some (some (.ref f2)))
    (l2 : K.lookup f2 = some ⟨oc2, od2, .func (PySem.W.fnOf "is_key_set" "is_key_set" (defArgs s_is_key_set) (defBody s_is_key_set) (defScope s_is_key_set) .none kV2 dc2 pm2 an2 cd2 ct2), sl2⟩)
    (c2 : PySem.W.codeIn K cd2 "is_key_set" = true)
    (k2 : PySem.W.keepIn K (.ref f2) = true)
    (a3 : PySem.W.nsIn K mainGlobals "is_lot" = some (some (.ref f3)))
    (l3 : K.lookup f3 = some ⟨oc3, od3, .func (PySem.W.fnOf "is_lot" "is_lot" (defArgs s_is_lot) (defBody s_is_lot) (defScope s_is_lot) .none kV3 dc3 pm3 an3 cd3 ct3), sl3⟩)
    (c3 : PySem.W.codeIn K cd3 "is_lot" = true)
    (k3 : PySem.W.keepIn K (.ref f3) = true)
    (a4 : PySem.W.nsIn K mainGlobals "lives_in" = some (some (.ref f4)))
    (l4 : K.lookup f4 = some ⟨oc4, od4, .func (PySem.W.fnOf "lives_in" "lives_in" (defArgs s_lives_in) (defBody s_lives_in) (defScope s_lives_in) .none kV4 dc4 pm4 an4 cd4 ct4), sl4⟩)
    (c4 : PySem.W.codeIn K cd4 "lives_in" = true)
    (k4 : PySem.W.keepIn K (.ref f4) = true)
    (a5 : PySem.W.nsIn K mainGlobals "key_of_word" = some (some (.ref f5)))
    (l5 : K.lookup f5 = some ⟨oc5, od5, .func (PySem.W.fnOf "key_of_word" "key_of_word" (defArgs s_key_of_word) (defBody s_key_of_word) (defScope s_key_of_word) .none kV5 dc5 pm5 an5 cd5 ct5), sl5⟩)
    (c5 : PySem.W.codeIn K cd5 "key_of_word" = true)
    (k5 : PySem.W.keepIn K (.ref f5) = true)
    (a6 : PySem.W.nsIn K mainGlobals "split_sign" = some (some (.ref f6)))
    (l6 : K.lookup f6 = some ⟨oc6, od6, .func (PySem.W.fnOf "split_sign" "split_sign" (defArgs s_split_sign) (defBody s_split_sign) (defScope s_split_sign) .none kV6 dc6 pm6 an6 cd6 ct6), sl6⟩)
    (c6 : PySem.W.codeIn K cd6 "split_sign" = true)
    (k6 : PySem.W.keepIn K (.ref f6) = true)
    (a7 : PySem.W.nsIn K mainGlobals "as_row" = some (some (.ref f7)))
    (l7 : K.lookup f7 = some ⟨oc7, od7, .func (PySem.W.fnOf "as_row" "as_row" (defArgs s_as_row) (defBody s_as_row) (defScope s_as_row) .none kV7 dc7 pm7 an7 cd7 ct7), sl7⟩)
    (c7 : PySem.W.codeIn K cd7 "as_row" = true)
    (k7 : PySem.W.keepIn K (.ref f7) = true)
    (a8 : PySem.W.nsIn K mainGlobals "_law_bag" = some (some (.ref f8)))
    (l8 : K.lookup f8 = some ⟨oc8, od8, .func (PySem.W.fnOf "_law_bag" "_law_bag" (defArgs s_l_bag) (defBody s_l_bag) (defScope s_l_bag) .none kV8 dc8 pm8 an8 cd8 ct8), sl8⟩)
    (c8 : PySem.W.codeIn K cd8 "_law_bag" = true)
    (k8 : PySem.W.keepIn K (.ref f8) = true)
    (a9 : PySem.W.nsIn K mainGlobals "_law_draw" = some (some (.ref f9)))
    (l9 : K.lookup f9 = some ⟨oc9, od9, .func (PySem.W.fnOf "_law_draw" "_law_draw" (defArgs s_l_draw) (defBody s_l_draw) (defScope s_l_draw) .none kV9 dc9 pm9 an9 cd9 ct9), sl9⟩)
    (c9 : PySem.W.codeIn K cd9 "_law_draw" = true)
    (k9 : PySem.W.keepIn K (.ref f9) = true)
    (a10 : PySem.W.nsIn K mainGlobals "_law_of" = some (some (.ref f10)))
    (l10 : K.lookup f10 = some ⟨oc10, od10, .func (PySem.W.fnOf "_law_of" "_law_of" (defArgs s_l_of) (defBody s_l_of) (defScope s_l_of) .none kV10 dc10 pm10 an10 cd10 ct10), sl10⟩)
    (c10 : PySem.W.codeIn K cd10 "_law_of" = true)
    (k10 : PySem.W.keepIn K (.ref f10) = true)
    (a11 : PySem.W.nsIn K mainGlobals "_law_same" = some (some (.ref f11)))
    (l11 : K.lookup f11 = some ⟨oc11, od11, .func (PySem.W.fnOf "_law_same" "_law_same" (defArgs s_l_same) (defBody s_l_same) (defScope s_l_same) .none kV11 dc11 pm11 an11 cd11 ct11), sl11⟩)
    (c11 : PySem.W.codeIn K cd11 "_law_same" = true)
    (k11 : PySem.W.keepIn K (.ref f11) = true)
    (a12 : PySem.W.nsIn K mainGlobals "_law_keys" = some (some (.ref f12)))
    (l12 : K.lookup f12 = some ⟨oc12, od12, .func (PySem.W.fnOf "_law_keys" "_law_keys" (defArgs s_l_keys) (defBody s_l_keys) (defScope s_l_keys) .none kV12 dc12 pm12 an12 cd12 ct12), sl12⟩)
    (c12 : PySem.W.codeIn K cd12 "_law_keys" = true)
    (k12 : PySem.W.keepIn K (.ref f12) = true)
    (a13 : PySem.W.nsIn K mainGlobals "_law_stranger" = some (some (.ref f13)))
    (l13 : K.lookup f13 = some ⟨oc13, od13, .func (PySem.W.fnOf "_law_stranger" "_law_stranger" (defArgs s_l_stranger) (defBody s_l_stranger) (defScope s_l_stranger) .none kV13 dc13 pm13 an13 cd13 ct13), sl13⟩)
    (c13 : PySem.W.codeIn K cd13 "_law_stranger" = true)
    (k13 : PySem.W.keepIn K (.ref f13) = true)
    (a14 : PySem.W.nsIn K mainGlobals "_law_is_key" = some (some (.ref f14)))
    (l14 : K.lookup f14 = some ⟨oc14, od14, .func (PySem.W.fnOf "_law_is_key" "_law_is_key" (defArgs s_l_is_key) (defBody s_l_is_key) (defScope s_l_is_key) .none kV14 dc14 pm14 an14 cd14 ct14), sl14⟩)
    (c14 : PySem.W.codeIn K cd14 "_law_is_key" = true)
    (k14 : PySem.W.keepIn K (.ref f14) = true)
    (a15 : PySem.W.nsIn K mainGlobals "_law_is_set" = some (some (.ref f15)))
    (l15 : K.lookup f15 = some ⟨oc15, od15, .func (PySem.W.fnOf "_law_is_set" "_law_is_set" (defArgs s_l_is_set) (defBody s_l_is_set) (defScope s_l_is_set) .none kV15 dc15 pm15 an15 cd15 ct15), sl15⟩)
    (c15 : PySem.W.codeIn K cd15 "_law_is_set" = true)
    (k15 : PySem.W.keepIn K (.ref f15) = true)
    (a16 : PySem.W.nsIn K mainGlobals "_law_odd" = some (some (.ref f16)))
    (l16 : K.lookup f16 = some ⟨oc16, od16, .func (PySem.W.fnOf "_law_odd" "_law_odd" (defArgs s_l_odd) (defBody s_l_odd) (defScope s_l_odd) .none kV16 dc16 pm16 an16 cd16 ct16), sl16⟩)
    (c16 : PySem.W.codeIn K cd16 "_law_odd" = true)
    (k16 : PySem.W.keepIn K (.ref f16) = true)
    (a17 : PySem.W.nsIn K mainGlobals "_law_odd_set" = some (some (.ref f17)))
    (l17 : K.lookup f17 = some ⟨oc17, od17, .func (PySem.W.fnOf "_law_odd_set" "_law_odd_set" (defArgs s_l_odd_set) (defBody s_l_odd_set) (defScope s_l_odd_set) .none kV17 dc17 pm17 an17 cd17 ct17), sl17⟩)
    (c17 : PySem.W.codeIn K cd17 "_law_odd_set" = true)
    (k17 : PySem.W.keepIn K (.ref f17) = true)
    (a18 : PySem.W.nsIn K mainGlobals "_law_make" = some (some (.ref f18)))
    (l18 : K.lookup f18 = some ⟨oc18, od18, .func (PySem.W.fnOf "_law_make" "_law_make" (defArgs s_l_make) (defBody s_l_make) (defScope s_l_make) .none kV18 dc18 pm18 an18 cd18 ct18), sl18⟩)
    (c18 : PySem.W.codeIn K cd18 "_law_make" = true)
    (k18 : PySem.W.keepIn K (.ref f18) = true)
    (a19 : PySem.W.nsIn K mainGlobals "_law_make_due" = some (some (.ref f19)))
    (l19 : K.lookup f19 = some ⟨oc19, od19, .func (PySem.W.fnOf "_law_make_due" "_law_make_due" (defArgs s_l_make_due) (defBody s_l_make_due) (defScope s_l_make_due) .none kV19 dc19 pm19 an19 cd19 ct19), sl19⟩)
    (c19 : PySem.W.codeIn K cd19 "_law_make_due" = true)
    (k19 : PySem.W.keepIn K (.ref f19) = true)
    (a20 : PySem.W.nsIn K mainGlobals "_law_words" = some (some (.ref f20)))
    (l20 : K.lookup f20 = some ⟨oc20, od20, .func (PySem.W.fnOf "_law_words" "_law_words" (defArgs s_l_words) (defBody s_l_words) (defScope s_l_words) .none kV20 dc20 pm20 an20 cd20 ct20), sl20⟩)
    (c20 : PySem.W.codeIn K cd20 "_law_words" = true)
    (k20 : PySem.W.keepIn K (.ref f20) = true)
    (a21 : PySem.W.nsIn K mainGlobals "_law_read" = some (some (.ref f21)))
    (l21 : K.lookup f21 = some ⟨oc21, od21, .func (PySem.W.fnOf "_law_read" "_law_read" (defArgs s_l_read) (defBody s_l_read) (defScope s_l_read) .none kV21 dc21 pm21 an21 cd21 ct21), sl21⟩)
    (c21 : PySem.W.codeIn K cd21 "_law_read" = true)
    (k21 : PySem.W.keepIn K (.ref f21) = true)
    (a22 : PySem.W.nsIn K mainGlobals "_law_read_due" = some (some (.ref f22)))
    (l22 : K.lookup f22 = some ⟨oc22, od22, .func (PySem.W.fnOf "_law_read_due" "_law_read_due" (defArgs s_l_read_due) (defBody s_l_read_due) (defScope s_l_read_due) .none kV22 dc22 pm22 an22 cd22 ct22), sl22⟩)
    (c22 : PySem.W.codeIn K cd22 "_law_read_due" = true)
    (k22 : PySem.W.keepIn K (.ref f22) = true)
    (a23 : PySem.W.nsIn K mainGlobals "_law_as" = some (some (.ref f23)))
    (l23 : K.lookup f23 = some ⟨oc23, od23, .func (PySem.W.fnOf "_law_as" "_law_as" (defArgs s_l_as) (defBody s_l_as) (defScope s_l_as) .none kV23 dc23 pm23 an23 cd23 ct23), sl23⟩)
    (c23 : PySem.W.codeIn K cd23 "_law_as" = true)
    (k23 : PySem.W.keepIn K (.ref f23) = true)
    (a24 : PySem.W.nsIn K mainGlobals "_law_bent" = some (some (.ref f24)))
    (l24 : K.lookup f24 = some ⟨oc24, od24, .func (PySem.W.fnOf "_law_bent" "_law_bent" (defArgs s_l_bent) (defBody s_l_bent) (defScope s_l_bent) .none kV24 dc24 pm24 an24 cd24 ct24), sl24⟩)
    (c24 : PySem.W.codeIn K cd24 "_law_bent" = true)
    (k24 : PySem.W.keepIn K (.ref f24) = true)
    (a25 : PySem.W.nsIn K mainGlobals "_law_row_so" = some (some (.ref f25)))
    (l25 : K.lookup f25 = some ⟨oc25, od25, .func (PySem.W.fnOf "_law_row_so" "_law_row_so" (defArgs s_l_row_so) (defBody s_l_row_so) (defScope s_l_row_so) .none kV25 dc25 pm25 an25 cd25 ct25), sl25⟩)
    (c25 : PySem.W.codeIn K cd25 "_law_row_so" = true)
    (k25 : PySem.W.keepIn K (.ref f25) = true)
    (a26 : PySem.W.nsIn K mainGlobals "law" = some (some (.ref f26)))
    (l26 : K.lookup f26 = some ⟨oc26, od26, .func (PySem.W.fnOf "law" "law" (defArgs s_law) (defBody s_law) (defScope s_law) .none kV26 dc26 pm26 an26 cd26 ct26), sl26⟩)
    (c26 : PySem.W.codeIn K cd26 "law" = true)
    (k26 : PySem.W.keepIn K (.ref f26) = true)
    (ra : PySem.W.nsIn K mainGlobals "Row" = some (some (.ref CR)))
    (rm1 : PySem.W.findIn K (.ref CR) "__init__" = some (some (.ref gI)))
    (ma0 : PySem.W.findIn K (.ref CR) "lot_before" = some (some (.ref m0)))
    (mf0 : PySem.W.isFn K (.ref m0) = true)
    (lm0 : K.lookup m0 = some ⟨ocm0, odm0, .func (PySem.W.fnOf "lot_before" "Row.lot_before" (defArgs s_Row_lot_before) (defBody s_Row_lot_before) (defScope s_Row_lot_before) .none kVm0 dcm0 pmm0 anm0 cdm0 ctm0), slm0⟩)
    (cm0 : PySem.W.codeIn K cdm0 "Row.lot_before" = true)
    (km0 : PySem.W.keepIn K (.ref m0) = true)
    (ma1 : PySem.W.findIn K (.ref CR) "lot_after" = some (some (.ref m1)))
    (mf1 : PySem.W.isFn K (.ref m1) = true)
    (lm1 : K.lookup m1 = some ⟨ocm1, odm1, .func (PySem.W.fnOf "lot_after" "Row.lot_after" (defArgs s_Row_lot_after) (defBody s_Row_lot_after) (defScope s_Row_lot_after) .none kVm1 dcm1 pmm1 anm1 cdm1 ctm1), slm1⟩)
    (cm1 : PySem.W.codeIn K cdm1 "Row.lot_after" = true)
    (km1 : PySem.W.keepIn K (.ref m1) = true)
    (ma2 : PySem.W.findIn K (.ref CR) "backward" = some (some (.ref m2)))
    (mf2 : PySem.W.isFn K (.ref m2) = true)
    (lm2 : K.lookup m2 = some ⟨ocm2, odm2, .func (PySem.W.fnOf "backward" "Row.backward" (defArgs s_Row_backward) (defBody s_Row_backward) (defScope s_Row_backward) .none kVm2 dcm2 pmm2 anm2 cdm2 ctm2), slm2⟩)
    (cm2 : PySem.W.codeIn K cdm2 "Row.backward" = true)
    (km2 : PySem.W.keepIn K (.ref m2) = true)
    (ma3 : PySem.W.findIn K (.ref CR) "text" = some (some (.ref m3)))
    (mf3 : PySem.W.isFn K (.ref m3) = true)
    (lm3 : K.lookup m3 = some ⟨ocm3, odm3, .func (PySem.W.fnOf "text" "Row.text" (defArgs s_Row_text) (defBody s_Row_text) (defScope s_Row_text) .none kVm3 dcm3 pmm3 anm3 cdm3 ctm3), slm3⟩)
    (cm3 : PySem.W.codeIn K cdm3 "Row.text" = true)
    (km3 : PySem.W.keepIn K (.ref m3) = true)
    (ma4 : PySem.W.findIn K (.ref CR) "_sign" = some (some (.ref m4)))
    (mf4 : PySem.W.isFn K (.ref m4) = true)
    (lm4 : K.lookup m4 = some ⟨ocm4, odm4, .func (PySem.W.fnOf "_sign" "Row._sign" (defArgs s_Row_sign) (defBody s_Row_sign) (defScope s_Row_sign) .none kVm4 dcm4 pmm4 anm4 cdm4 ctm4), slm4⟩)
    (cm4 : PySem.W.codeIn K cdm4 "Row._sign" = true)
    (km4 : PySem.W.keepIn K (.ref m4) = true)
    (ma5 : PySem.W.findIn K (.ref CR) "__str__" = some (some (.ref m5)))
    (mf5 : PySem.W.isFn K (.ref m5) = true)
    (lm5 : K.lookup m5 = some ⟨ocm5, odm5, .func (PySem.W.fnOf "__str__" "Row.__str__" (defArgs s_Row_str) (defBody s_Row_str) (defScope s_Row_str) .none kVm5 dcm5 pmm5 anm5 cdm5 ctm5), slm5⟩)
    (cm5 : PySem.W.codeIn K cdm5 "Row.__str__" = true)
    (km5 : PySem.W.keepIn K (.ref m5) = true)
    (ma6 : PySem.W.findIn K (.ref CR) "__repr__" = some (some (.ref m6)))
    (mf6 : PySem.W.isFn K (.ref m6) = true)
    (lm6 : K.lookup m6 = some ⟨ocm6, odm6, .func (PySem.W.fnOf "__repr__" "Row.__repr__" (defArgs s_Row_repr) (defBody s_Row_repr) (defScope s_Row_repr) .none kVm6 dcm6 pmm6 anm6 cdm6 ctm6), slm6⟩)
    (cm6 : PySem.W.codeIn K cdm6 "Row.__repr__" = true)
    (km6 : PySem.W.keepIn K (.ref m6) = true)
    (ma7 : PySem.W.findIn K (.ref CR) "__contains__" = some (some (.ref m7)))
    (mf7 : PySem.W.isFn K (.ref m7) = true)
    (lm7 : K.lookup m7 = some ⟨ocm7, odm7, .func (PySem.W.fnOf "__contains__" "Row.__contains__" (defArgs s_Row_contains) (defBody s_Row_contains) (defScope s_Row_contains) .none kVm7 dcm7 pmm7 anm7 cdm7 ctm7), slm7⟩)
    (cm7 : PySem.W.codeIn K cdm7 "Row.__contains__" = true)
    (km7 : PySem.W.keepIn K (.ref m7) = true)
    (ma8 : PySem.W.findIn K (.ref CR) "__len__" = some (some (.ref m8)))
    (mf8 : PySem.W.isFn K (.ref m8) = true)
    (lm8 : K.lookup m8 = some ⟨ocm8, odm8, .func (PySem.W.fnOf "__len__" "Row.__len__" (defArgs s_Row_len) (defBody s_Row_len) (defScope s_Row_len) .none kVm8 dcm8 pmm8 anm8 cdm8 ctm8), slm8⟩)
    (cm8 : PySem.W.codeIn K cdm8 "Row.__len__" = true)
    (km8 : PySem.W.keepIn K (.ref m8) = true)
    (ma9 : PySem.W.findIn K (.ref CR) "__eq__" = some (some (.ref m9)))
    (mf9 : PySem.W.isFn K (.ref m9) = true)
    (lm9 : K.lookup m9 = some ⟨ocm9, odm9, .func (PySem.W.fnOf "__eq__" "Row.__eq__" (defArgs s_Row_eq) (defBody s_Row_eq) (defScope s_Row_eq) .none kVm9 dcm9 pmm9 anm9 cdm9 ctm9), slm9⟩)
    (cm9 : PySem.W.codeIn K cdm9 "Row.__eq__" = true)
    (km9 : PySem.W.keepIn K (.ref m9) = true)
    (lgi : K.lookup gI = some ⟨ocgi, odgi, .func (PySem.W.fnOf "__init__" "Row.__init__" (defArgs s_Row_init) (defBody s_Row_init) (defScope s_Row_init) .none (.ref DK) dcgi pmgi angi cdgi ctgi), slgi⟩)
    (cgi : PySem.W.codeIn K cdgi "Row.__init__" = true)
    (kgi : PySem.W.keepIn K (.ref gI) = true)
    (rd0 : PySem.W.nsIn K DK "coming" = some (some .none))
    (rd1 : PySem.W.nsIn K DK "going" = some (some .none))
    (rc0 : PySem.W.plainGet K CR Str.empty = true)
    (rc1 : PySem.W.hasDictIn K CR = true)
    (rc2 : PySem.W.plainOver K CR = true)
    (rc3 : PySem.W.findIn K (.ref CR) "__setattr__" = some (some (.builtin "object.__setattr__")))
    (rn0 : PySem.W.findIn K (.ref CR) "lot" = some none)
    (rn1 : PySem.W.findIn K (.ref CR) "coming" = some none)
    (rn2 : PySem.W.findIn K (.ref CR) "going" = some none)
    (rt0 : PySem.W.findIn K (.ref CR) "__class__" = some (some (.builtin "object.__class__")))
    (rt1 : PySem.W.specialIn K (.builtin "object.__class__") "__get__" = some (some (.builtin "getset_descriptor.__get__")))
    (rt2 : PySem.W.takesIn K (.builtin "object.__class__") = some true)
    (rt3 : PySem.W.mroIn K CR (.type "object") = some true)
    (rm0 : PySem.W.makesIn K CR = true)
    (rm2 : PySem.W.isFn K (.ref gI) = true)
    (rm3 : PySem.W.keepIn K (.ref CR) = true)
    (ro_NoneType : PySem.W.kitOne K (.type "NoneType") (.ref CR) = some false)
    (ro_bool : PySem.W.kitOne K (.type "bool") (.ref CR) = some false)
    (ro_int : PySem.W.kitOne K (.type "int") (.ref CR) = some false)
    (ro_str : PySem.W.kitOne K (.type "str") (.ref CR) = some false)
    (ro_list : PySem.W.kitOne K (.type "list") (.ref CR) = some false)
    (ro_dict : PySem.W.kitOne K (.type "dict") (.ref CR) = some false)
    (ro_tuple : PySem.W.kitOne K (.type "tuple") (.ref CR) = some false)
    (rk_int : PySem.W.kitOne K (.ref CR) (.type "int") = some false)
    (rk_bool : PySem.W.kitOne K (.ref CR) (.type "bool") = some false)
    (rk_str : PySem.W.kitOne K (.ref CR) (.type "str") = some false)
    (rb_NoneType : PySem.W.notFirst K CR (.type "NoneType") = true)
    (rb_bool : PySem.W.notFirst K CR (.type "bool") = true)
    (rb_int : PySem.W.notFirst K CR (.type "int") = true)
    (rb_str : PySem.W.notFirst K CR (.type "str") = true)
    (rb_list : PySem.W.notFirst K CR (.type "list") = true)
    (rb_dict : PySem.W.notFirst K CR (.type "dict") = true)
    (rb_tuple : PySem.W.notFirst K CR (.type "tuple") = true)
    (rnf : PySem.W.notFirst K CR (.ref CR) = true)
    (rne : PySem.W.findIn K (.ref CR) "__ne__" = some (some (.builtin "object.__ne__")))
    (rnt : PySem.W.mroIn K CR (.type "tuple") = some false)
    (sm0 : PySem.W.typeIn K (.ref CR) = some mc)
    (sm1 : PySem.W.readsIn K CR mc = true)
    (sm2 : PySem.W.specialIn K (.ref CR) "__getattribute__" = some (some (.builtin "type.__getattribute__")))
    (sm3 : PySem.W.findCls K (.ref CR) mc "read" = some (.get (.builtin "staticmethod.__get__") (.ref pS) .none (.ref CR)))
    (sm4 : PySem.W.recIn K pS "staticmethod" = some (.ref gS :: restS))
    (lgs : K.lookup gS = some ⟨ocgs, odgs, .func (PySem.W.fnOf "read" "Row.read" (defArgs s_Row_read) (defBody s_Row_read) (defScope s_Row_read) .none kVgs dcgs pmgs angs cdgs ctgs), slgs⟩)
    (cgs : PySem.W.codeIn K cdgs "Row.read" = true)
    (kgs : PySem.W.keepIn K (.ref gS) = true)
    (xaL : PySem.W.nsIn K mainGlobals "InvalidLot" = some (some (.ref CL)))
    (xmL : PySem.W.excInitIn K CL bmVE "ValueError.__new__" = true)
    (xoL : PySem.W.excOver K CL bmVE = true)
    (xhL : PySem.W.hasDictIn K CL = true)
    (xsL : PySem.W.findIn K (.ref CL) "__setattr__" = some (some (.builtin "object.__setattr__")))
    (xeL : PySem.W.subIn K (.ref CL) (.type "BaseException") = some true)
    (xtL : PySem.W.typeIn K (.ref CL) = some (.type "type"))
    (xkL : PySem.W.keepIn K (.ref CL) = true)
    (xgL : PySem.W.findIn K (.ref CL) "__getattribute__" = some (some (.builtin "BaseException.__getattribute__")))
    (xqL : PySem.W.findIn K (.ref CL) "__getattr__" = some none)
    (xiL : PySem.W.findIn K (.ref CL) "__init__" = some (some (.ref gL)))
    (xfL : PySem.W.typeIn K (.ref gL) = some (.type "function"))
    (lxL : K.lookup gL = some ⟨ocxL, odxL, .func (PySem.W.fnOf "__init__" "InvalidLot.__init__" (defArgs s_InvalidLot_init) (defBody s_InvalidLot_init) (defScope s_InvalidLot_init) .none kVxL dcxL pmxL anxL cdxL ctxL), slxL⟩)
    (cxL : PySem.W.codeIn K cdxL "InvalidLot.__init__" = true)
    (kxL : PySem.W.keepIn K (.ref gL) = true)
    (xnL : PySem.W.findIn K (.ref CL) "code" = some none)
    (xzL : PySem.W.subIn K (.ref CL) (.ref CL) = some true)
    (xyLvalue : PySem.W.findIn K (.ref CL) "value" = some none)
    (xaM : PySem.W.nsIn K mainGlobals "InvalidMark" = some (some (.ref CM)))
    (xmM : PySem.W.excInitIn K CM bmVE "ValueError.__new__" = true)
    (xoM : PySem.W.excOver K CM bmVE = true)
    (xhM : PySem.W.hasDictIn K CM = true)
    (xsM : PySem.W.findIn K (.ref CM) "__setattr__" = some (some (.builtin "object.__setattr__")))
    (xeM : PySem.W.subIn K (.ref CM) (.type "BaseException") = some true)
    (xtM : PySem.W.typeIn K (.ref CM) = some (.type "type"))
    (xkM : PySem.W.keepIn K (.ref CM) = true)
    (xgM : PySem.W.findIn K (.ref CM) "__getattribute__" = some (some (.builtin "BaseException.__getattribute__")))
    (xqM : PySem.W.findIn K (.ref CM) "__getattr__" = some none)
    (xiM : PySem.W.findIn K (.ref CM) "__init__" = some (some (.ref gM)))
    (xfM : PySem.W.typeIn K (.ref gM) = some (.type "function"))
    (lxM : K.lookup gM = some ⟨ocxM, odxM, .func (PySem.W.fnOf "__init__" "InvalidMark.__init__" (defArgs s_InvalidMark_init) (defBody s_InvalidMark_init) (defScope s_InvalidMark_init) .none kVxM dcxM pmxM anxM cdxM ctxM), slxM⟩)
    (cxM : PySem.W.codeIn K cdxM "InvalidMark.__init__" = true)
    (kxM : PySem.W.keepIn K (.ref gM) = true)
    (xnM : PySem.W.findIn K (.ref CM) "code" = some none)
    (xzM : PySem.W.subIn K (.ref CM) (.ref CM) = some true)
    (xyMvalue : PySem.W.findIn K (.ref CM) "value" = some none)
    (xaR : PySem.W.nsIn K mainGlobals "InvalidRow" = some (some (.ref CI)))
    (xmR : PySem.W.excInitIn K CI bmVE "ValueError.__new__" = true)
    (xoR : PySem.W.excOver K CI bmVE = true)
    (xhR : PySem.W.hasDictIn K CI = true)
    (xsR : PySem.W.findIn K (.ref CI) "__setattr__" = some (some (.builtin "object.__setattr__")))
    (xeR : PySem.W.subIn K (.ref CI) (.type "BaseException") = some true)
    (xtR : PySem.W.typeIn K (.ref CI) = some (.type "type"))
    (xkR : PySem.W.keepIn K (.ref CI) = true)
    (xgR : PySem.W.findIn K (.ref CI) "__getattribute__" = some (some (.builtin "BaseException.__getattribute__")))
    (xqR : PySem.W.findIn K (.ref CI) "__getattr__" = some none)
    (xiR : PySem.W.findIn K (.ref CI) "__init__" = some (some (.ref gR)))
    (xfR : PySem.W.typeIn K (.ref gR) = some (.type "function"))
    (lxR : K.lookup gR = some ⟨ocxR, odxR, .func (PySem.W.fnOf "__init__" "InvalidRow.__init__" (defArgs s_InvalidRow_init) (defBody s_InvalidRow_init) (defScope s_InvalidRow_init) .none kVxR dcxR pmxR anxR cdxR ctxR), slxR⟩)
    (cxR : PySem.W.codeIn K cdxR "InvalidRow.__init__" = true)
    (kxR : PySem.W.keepIn K (.ref gR) = true)
    (xnR : PySem.W.findIn K (.ref CI) "code" = some none)
    (xzR : PySem.W.subIn K (.ref CI) (.ref CI) = some true)
    (xyRat : PySem.W.findIn K (.ref CI) "at" = some none)
    (xaT : PySem.W.nsIn K mainGlobals "InvalidText" = some (some (.ref CT)))
    (xmT : PySem.W.excInitIn K CT bmVE "ValueError.__new__" = true)
    (xoT : PySem.W.excOver K CT bmVE = true)
    (xhT : PySem.W.hasDictIn K CT = true)
    (xsT : PySem.W.findIn K (.ref CT) "__setattr__" = some (some (.builtin "object.__setattr__")))
    (xeT : PySem.W.subIn K (.ref CT) (.type "BaseException") = some true)
    (xtT : PySem.W.typeIn K (.ref CT) = some (.type "type"))
    (xkT : PySem.W.keepIn K (.ref CT) = true)
    (xgT : PySem.W.findIn K (.ref CT) "__getattribute__" = some (some (.builtin "BaseException.__getattribute__")))
    (xqT : PySem.W.findIn K (.ref CT) "__getattr__" = some none)
    (xiT : PySem.W.findIn K (.ref CT) "__init__" = some (some (.ref gT)))
    (xfT : PySem.W.typeIn K (.ref gT) = some (.type "function"))
    (lxT : K.lookup gT = some ⟨ocxT, odxT, .func (PySem.W.fnOf "__init__" "InvalidText.__init__" (defArgs s_InvalidText_init) (defBody s_InvalidText_init) (defScope s_InvalidText_init) .none kVxT dcxT pmxT anxT cdxT ctxT), slxT⟩)
    (cxT : PySem.W.codeIn K cdxT "InvalidText.__init__" = true)
    (kxT : PySem.W.keepIn K (.ref gT) = true)
    (xnT : PySem.W.findIn K (.ref CT) "code" = some none)
    (xzT : PySem.W.subIn K (.ref CT) (.ref CT) = some true)
    (xyTat : PySem.W.findIn K (.ref CT) "at" = some none)
    (apML : PySem.W.subIn K (.ref CM) (.ref CL) = some false)
    (apRL : PySem.W.subIn K (.ref CI) (.ref CL) = some false)
    (apRM : PySem.W.subIn K (.ref CI) (.ref CM) = some false)
    (apTL : PySem.W.subIn K (.ref CT) (.ref CL) = some false)
    (apTM : PySem.W.subIn K (.ref CT) (.ref CM) = some false)
    (apTR : PySem.W.subIn K (.ref CT) (.ref CI) = some false)
    (z_int : PySem.W.nsIn K mainGlobals "int" = some none)
    (z_list : PySem.W.nsIn K mainGlobals "list" = some none)
    (z_len : PySem.W.nsIn K mainGlobals "len" = some none)
    (z_abs : PySem.W.nsIn K mainGlobals "abs" = some none)
    (z_isinstance : PySem.W.nsIn K mainGlobals "isinstance" = some none)
    (z_tuple : PySem.W.nsIn K mainGlobals "tuple" = some none)
    (z_all : PySem.W.nsIn K mainGlobals "all" = some none)
    (z_zip : PySem.W.nsIn K mainGlobals "zip" = some none)
    (z_bool : PySem.W.nsIn K mainGlobals "bool" = some none)
    (z_str : PySem.W.nsIn K mainGlobals "str" = some none)
    (z_range : PySem.W.nsIn K mainGlobals "range" = some none)
    (z_max : PySem.W.nsIn K mainGlobals "max" = some none)
    (z_sorted : PySem.W.nsIn K mainGlobals "sorted" = some none)
    (z_repr : PySem.W.nsIn K mainGlobals "repr" = some none)
    (gk : PySem.W.nsIn K mainGlobals "GREATEST_KEY" = some (some (.int 999 tG)))
    (gd : PySem.W.nsIn K mainGlobals "DIGITS" = some (some (.str DIG tD))) :
    ∃ fd : FuncData, (∀ (s : Shared) (v : Value), BindsTo s fd ⟨[v], []⟩ [("_law_script", v)]) ∧ ∀ base : Heap, K.In base → base.Ns mainGlobals mg → AtCaller l.prog w K mg base fa fd "_law_script" (spLaw K) := by
  have e := hfa.symm.trans (PySem.W.mg_of X G a26)
  cases e
  have q0 := PySem.W.mg_of X G a0
  have F0 := fun_mk (st := s_is_number) l0 c0 k0
  have b0 := F0.binds (ps := ["value"]) fun _ _ _ _ _ _ us hl => match us, hl with | [_], _ => rfl
  have q1 := PySem.W.mg_of X G a1
  have F1 := fun_mk (st := s_is_key) l1 c1 k1
  have b1 := F1.binds (ps := ["value"]) fun _ _ _ _ _ _ us hl => match us, hl with | [_], _ => rfl
  have q2 := PySem.W.mg_of X G a2
  have F2 := fun_mk (st := s_is_key_set) l2 c2 k2
  have b2 := F2.binds (ps := ["value"]) fun _ _ _ _ _ _ us hl => match us, hl with | [_], _ => rfl
  have q3 := PySem.W.mg_of X G a3
  have F3 := fun_mk (st := s_is_lot) l3 c3 k3
  have b3 := F3.binds (ps := ["value"]) fun _ _ _ _ _ _ us hl => match us, hl with | [_], _ => rfl
  have q4 := PySem.W.mg_of X G a4
  have F4 := fun_mk (st := s_lives_in) l4 c4 k4
  have b4 := F4.binds (ps := ["living", "value"]) fun _ _ _ _ _ _ us hl => match us, hl with | [_, _], _ => rfl
  have q5 := PySem.W.mg_of X G a5
  have F5 := fun_mk (st := s_key_of_word) l5 c5 k5
  have b5 := F5.binds (ps := ["word"]) fun _ _ _ _ _ _ us hl => match us, hl with | [_], _ => rfl
  have q6 := PySem.W.mg_of X G a6
  have F6 := fun_mk (st := s_split_sign) l6 c6 k6
  have b6 := F6.binds (ps := ["word"]) fun _ _ _ _ _ _ us hl => match us, hl with | [_], _ => rfl
  have q7 := PySem.W.mg_of X G a7
  have F7 := fun_mk (st := s_as_row) l7 c7 k7
  have b7 := F7.binds (ps := ["value"]) fun _ _ _ _ _ _ us hl => match us, hl with | [_], _ => rfl
  have q8 := PySem.W.mg_of X G a8
  have F8 := fun_mk (st := s_l_bag) l8 c8 k8
  have b8 := F8.binds (ps := ["_law_script"]) fun _ _ _ _ _ _ us hl => match us, hl with | [_], _ => rfl
  have q9 := PySem.W.mg_of X G a9
  have F9 := fun_mk (st := s_l_draw) l9 c9 k9
  have b9 := F9.binds (ps := ["_law_bag_here", "_law_top"]) fun _ _ _ _ _ _ us hl => match us, hl with | [_, _], _ => rfl
  have q10 := PySem.W.mg_of X G a10
  have F10 := fun_mk (st := s_l_of) l10 c10 k10
  have b10 := F10.binds (ps := ["_law_bag_here", "_law_some"]) fun _ _ _ _ _ _ us hl => match us, hl with | [_, _], _ => rfl
  have q11 := PySem.W.mg_of X G a11
  have F11 := fun_mk (st := s_l_same) l11 c11 k11
  have b11 := F11.binds (ps := ["_law_found", "_law_due"]) fun _ _ _ _ _ _ us hl => match us, hl with | [_, _], _ => rfl
  have q12 := PySem.W.mg_of X G a12
  have F12 := fun_mk (st := s_l_keys) l12 c12 k12
  have b12 := F12.binds (ps := ["_law_bag_here", "_law_many"]) fun _ _ _ _ _ _ us hl => match us, hl with | [_, _], _ => rfl
  have q13 := PySem.W.mg_of X G a13
  have F13 := fun_mk (st := s_l_stranger) l13 c13 k13
  have b13 := F13.binds (ps := ["_law_bag_here", "_law_ks"]) fun _ _ _ _ _ _ us hl => match us, hl with | [_, _], _ => rfl
  have q14 := PySem.W.mg_of X G a14
  have F14 := fun_mk (st := s_l_is_key) l14 c14 k14
  have b14 := F14.binds (ps := ["_law_v"]) fun _ _ _ _ _ _ us hl => match us, hl with | [_], _ => rfl
  have q15 := PySem.W.mg_of X G a15
  have F15 := fun_mk (st := s_l_is_set) l15 c15 k15
  have b15 := F15.binds (ps := ["_law_v"]) fun _ _ _ _ _ _ us hl => match us, hl with | [_], _ => rfl
  have q16 := PySem.W.mg_of X G a16
  have F16 := fun_mk (st := s_l_odd) l16 c16 k16
  have b16 := F16.binds (ps := ["_law_bag_here", "_law_ks", "_law_more"]) fun _ _ _ _ _ _ us hl => match us, hl with | [_, _, _], _ => rfl
  have q17 := PySem.W.mg_of X G a17
  have F17 := fun_mk (st := s_l_odd_set) l17 c17 k17
  have b17 := F17.binds (ps := ["_law_bag_here", "_law_ks", "_law_more"]) fun _ _ _ _ _ _ us hl => match us, hl with | [_, _, _], _ => rfl
  have q18 := PySem.W.mg_of X G a18
  have F18 := fun_mk (st := s_l_make) l18 c18 k18
  have b18 := F18.binds (ps := ["_law_v", "_law_p", "_law_q", "_law_way"]) fun _ _ _ _ _ _ us hl => match us, hl with | [_, _, _, _], _ => rfl
  have q19 := PySem.W.mg_of X G a19
  have F19 := fun_mk (st := s_l_make_due) l19 c19 k19
  have b19 := F19.binds (ps := ["_law_v", "_law_p", "_law_q"]) fun _ _ _ _ _ _ us hl => match us, hl with | [_, _, _], _ => rfl
  have q20 := PySem.W.mg_of X G a20
  have F20 := fun_mk (st := s_l_words) l20 c20 k20
  have b20 := F20.binds (ps := ["_law_v", "_law_p", "_law_q"]) fun _ _ _ _ _ _ us hl => match us, hl with | [_, _, _], _ => rfl
  have q21 := PySem.W.mg_of X G a21
  have F21 := fun_mk (st := s_l_read) l21 c21 k21
  have b21 := F21.binds (ps := ["_law_v", "_law_named"]) fun _ _ _ _ _ _ us hl => match us, hl with | [_, _], _ => rfl
  have q22 := PySem.W.mg_of X G a22
  have F22 := fun_mk (st := s_l_read_due) l22 c22 k22
  have b22 := F22.binds (ps := ["_law_v"]) fun _ _ _ _ _ _ us hl => match us, hl with | [_], _ => rfl
  have q23 := PySem.W.mg_of X G a23
  have F23 := fun_mk (st := s_l_as) l23 c23 k23
  have b23 := F23.binds (ps := ["_law_v", "_law_named"]) fun _ _ _ _ _ _ us hl => match us, hl with | [_, _], _ => rfl
  have q24 := PySem.W.mg_of X G a24
  have F24 := fun_mk (st := s_l_bent) l24 c24 k24
  have b24 := F24.binds (ps := ["_law_bag_here", "_law_v"]) fun _ _ _ _ _ _ us hl => match us, hl with | [_, _], _ => rfl
  have q25 := PySem.W.mg_of X G a25
  have F25 := fun_mk (st := s_l_row_so) l25 c25 k25
  have b25 := F25.binds (ps := ["_law_bag_here", "_law_made", "_law_v", "_law_p", "_law_q"]) fun _ _ _ _ _ _ us hl => match us, hl with | [_, _, _, _, _], _ => rfl
  have q26 := PySem.W.mg_of X G a26
  have F26 := fun_mk (st := s_law) l26 c26 k26
  have b26 := F26.binds (ps := ["_law_script"]) fun _ _ _ _ _ _ us hl => match us, hl with | [_], _ => rfl
  have Fm0 := fun_mk (st := s_Row_lot_before) lm0 cm0 km0
  have bm0 := Fm0.binds (ps := ["self"]) fun _ _ _ _ _ _ us hl => match us, hl with | [_], _ => rfl
  have Me0 : Meth K CR "lot_before" m0 := ⟨ma0, mf0, km0⟩
  have Fm1 := fun_mk (st := s_Row_lot_after) lm1 cm1 km1
  have bm1 := Fm1.binds (ps := ["self"]) fun _ _ _ _ _ _ us hl => match us, hl with | [_], _ => rfl
  have Me1 : Meth K CR "lot_after" m1 := ⟨ma1, mf1, km1⟩
  have Fm2 := fun_mk (st := s_Row_backward) lm2 cm2 km2
  have bm2 := Fm2.binds (ps := ["self"]) fun _ _ _ _ _ _ us hl => match us, hl with | [_], _ => rfl
  have Me2 : Meth K CR "backward" m2 := ⟨ma2, mf2, km2⟩
  have Fm3 := fun_mk (st := s_Row_text) lm3 cm3 km3
  have bm3 := Fm3.binds (ps := ["self"]) fun _ _ _ _ _ _ us hl => match us, hl with | [_], _ => rfl
  have Me3 : Meth K CR "text" m3 := ⟨ma3, mf3, km3⟩
  have Fm4 := fun_mk (st := s_Row_sign) lm4 cm4 km4
  have bm4 := Fm4.binds (ps := ["self", "key"]) fun _ _ _ _ _ _ us hl => match us, hl with | [_, _], _ => rfl
  have Me4 : Meth K CR "_sign" m4 := ⟨ma4, mf4, km4⟩
  have Fm5 := fun_mk (st := s_Row_str) lm5 cm5 km5
  have bm5 := Fm5.binds (ps := ["self"]) fun _ _ _ _ _ _ us hl => match us, hl with | [_], _ => rfl
  have Fm6 := fun_mk (st := s_Row_repr) lm6 cm6 km6
  have bm6 := Fm6.binds (ps := ["self"]) fun _ _ _ _ _ _ us hl => match us, hl with | [_], _ => rfl
  have Fm7 := fun_mk (st := s_Row_contains) lm7 cm7 km7
  have bm7 := Fm7.binds (ps := ["self", "key"]) fun _ _ _ _ _ _ us hl => match us, hl with | [_, _], _ => rfl
  have Fm8 := fun_mk (st := s_Row_len) lm8 cm8 km8
  have bm8 := Fm8.binds (ps := ["self"]) fun _ _ _ _ _ _ us hl => match us, hl with | [_], _ => rfl
  have Fm9 := fun_mk (st := s_Row_eq) lm9 cm9 km9
  have bm9 := Fm9.binds (ps := ["self", "other"]) fun _ _ _ _ _ _ us hl => match us, hl with | [_, _], _ => rfl
  have n_int := PySem.W.mg_none_of X G z_int
  have n_list := PySem.W.mg_none_of X G z_list
  have n_len := PySem.W.mg_none_of X G z_len
  have n_abs := PySem.W.mg_none_of X G z_abs
  have n_isinstance := PySem.W.mg_none_of X G z_isinstance
  have n_tuple := PySem.W.mg_none_of X G z_tuple
  have n_all := PySem.W.mg_none_of X G z_all
  have n_zip := PySem.W.mg_none_of X G z_zip
  have n_bool := PySem.W.mg_none_of X G z_bool
  have n_str := PySem.W.mg_none_of X G z_str
  have n_range := PySem.W.mg_none_of X G z_range
  have n_max := PySem.W.mg_none_of X G z_max
  have n_sorted := PySem.W.mg_none_of X G z_sorted
  have n_repr := PySem.W.mg_none_of X G z_repr
  have EL := fun_mk (st := s_InvalidLot_init) lxL cxL kxL
  have bxL := EL.binds (ps := ["self", "value"]) fun _ _ _ _ _ _ us hl => match us, hl with | [_, _], _ => rfl
  have XL : XFacts K mg "InvalidLot" CL gL bmVE "ValueError.__new__" := ⟨⟨xmL, xoL, xhL, xsL, xeL, xtL, xkL⟩, ⟨xgL, xqL, xeL, xhL⟩, PySem.W.mg_of X G xaL, xiL, xfL, xnL, PySem.W.exm_ref xeL xhL xtL xzL⟩
  have EM := fun_mk (st := s_InvalidMark_init) lxM cxM kxM
  have bxM := EM.binds (ps := ["self", "value"]) fun _ _ _ _ _ _ us hl => match us, hl with | [_, _], _ => rfl
  have XM : XFacts K mg "InvalidMark" CM gM bmVE "ValueError.__new__" := ⟨⟨xmM, xoM, xhM, xsM, xeM, xtM, xkM⟩, ⟨xgM, xqM, xeM, xhM⟩, PySem.W.mg_of X G xaM, xiM, xfM, xnM, PySem.W.exm_ref xeM xhM xtM xzM⟩
  have ER := fun_mk (st := s_InvalidRow_init) lxR cxR kxR
  have bxR := ER.binds (ps := ["self", "at"]) fun _ _ _ _ _ _ us hl => match us, hl with | [_, _], _ => rfl
  have XR : XFacts K mg "InvalidRow" CI gR bmVE "ValueError.__new__" := ⟨⟨xmR, xoR, xhR, xsR, xeR, xtR, xkR⟩, ⟨xgR, xqR, xeR, xhR⟩, PySem.W.mg_of X G xaR, xiR, xfR, xnR, PySem.W.exm_ref xeR xhR xtR xzR⟩
  have ET := fun_mk (st := s_InvalidText_init) lxT cxT kxT
  have bxT := ET.binds (ps := ["self", "at"]) fun _ _ _ _ _ _ us hl => match us, hl with | [_, _], _ => rfl
  have XT : XFacts K mg "InvalidText" CT gT bmVE "ValueError.__new__" := ⟨⟨xmT, xoT, xhT, xsT, xeT, xtT, xkT⟩, ⟨xgT, xqT, xeT, xhT⟩, PySem.W.mg_of X G xaT, xiT, xfT, xnT, PySem.W.exm_ref xeT xhT xtT xzT⟩
  have RC : RowC K CR := ⟨⟨rc0, rc1, rc2, rc3⟩, rn0, rn1, rn2⟩
  have RT : RowT K CR := ⟨RC, rt0, rt1, rt2, rt3⟩
  have mkR : Mk K CR gI := ⟨rm0, rm1, rm2, rm3⟩
  have gRow := PySem.W.mg_of X G ra
  have NR : NotRow K CR := fun T hT => by
    simp only [tyN, List.mem_cons, List.not_mem_nil, or_false] at hT
    rcases hT with rfl | rfl | rfl | rfl | rfl | rfl | rfl
    · exact ro_NoneType
    · exact ro_bool
    · exact ro_int
    · exact ro_str
    · exact ro_list
    · exact ro_dict
    · exact ro_tuple
  have NB : ∀ t ∈ tyN, PySem.W.notFirst K CR (.type t) = true := fun T hT => by
    simp only [tyN, List.mem_cons, List.not_mem_nil, or_false] at hT
    rcases hT with rfl | rfl | rfl | rfl | rfl | rfl | rfl
    · exact rb_NoneType
    · exact rb_bool
    · exact rb_int
    · exact rb_str
    · exact rb_list
    · exact rb_dict
    · exact rb_tuple
  have FI : FunD K "__init__" "Row.__init__" (defArgs s_Row_init) (defBody s_Row_init) (defScope s_Row_init) [] [("coming", .non), ("going", .non)] gI (PySem.W.fnOf "__init__" "Row.__init__" (defArgs s_Row_init) (defBody s_Row_init) (defScope s_Row_init) .none (.ref DK) dcgi pmgi angi cdgi ctgi) :=
    ⟨⟨ocgi, odgi, .none, .ref DK, dcgi, pmgi, angi, cdgi, ctgi, slgi, rfl, lgi, cgi, .inl ⟨rfl, rfl⟩, .inr ⟨DK, rfl, fun q hq => by
      simp only [List.mem_cons, List.not_mem_nil, or_false] at hq
      rcases hq with rfl | rfl
      · exact ⟨.none, rd0, rfl⟩
      · exact ⟨.none, rd1, rfl⟩⟩⟩, kgi⟩
  obtain ⟨dsR, rR, bR⟩ := FI.binds0 (ps := ["self", "lot", "coming", "going"]) 2 (by simp) rfl (fun D doc pm an cdv ct us ks h1 h2 => match us, ks, h1, h2 with
    | [_, _], [_, _], _, _ => ⟨_, _, _, _, _, _, rfl, rfl, _, _, _, _, _, _, rfl, rfl, rfl⟩)
  obtain ⟨mvR, kbR⟩ := FI.kbinds0 (ps := ["self", "lot", "coming", "going"]) 2 ["coming", "going"] [] (fun us _ ws => us ++ ws) (by simp) (fun q hq => by cases hq) (fun r1 _ r3 => r1.append r3) (fun D doc pm an cdv ct us mv ws h1 h2 h3 => match us, mv, ws, h1, h2, h3 with
    | [_, _], [], [_, _], _, _, _ => rfl)
  obtain ⟨mv0, kb0⟩ := FI.kbinds0 (ps := ["self", "lot", "coming", "going"]) 1 ["going", "coming", "lot"] [] (fun us _ ws => k0P us ws) (by simp) (fun q hq => by cases hq) (fun r1 _ r3 => k0_rel r1 r3) (fun D doc pm an cdv ct us mv ws h1 h2 h3 => match us, mv, ws, h1, h2, h3 with
    | [_], [], [_, _, _], _, _, _ => rfl)
  obtain ⟨mv2, kb2⟩ := FI.kbinds0 (ps := ["self", "lot", "coming", "going"]) 2 ["going", "coming"] [] (fun us _ ws => k2P us ws) (by simp) (fun q hq => by cases hq) (fun r1 _ r3 => k2_rel r1 r3) (fun D doc pm an cdv ct us mv ws h1 h2 h3 => match us, mv, ws, h1, h2, h3 with
    | [_, _], [], [_, _], _, _, _ => rfl)
  obtain ⟨mvG, kbG⟩ := FI.kbinds0 (ps := ["self", "lot", "coming", "going"]) 2 ["going"] [("coming", .non)] (fun us mv ws => us ++ (mv ++ ws)) (by simp) (fun q hq => by simp at hq; simp [hq]) (fun r1 r2 r3 => r1.append (r2.append r3)) (fun D doc pm an cdv ct us mv ws h1 h2 h3 => match us, mv, ws, h1, h2, h3 with
    | [_, _], [_], [_], _, _, _ => ⟨_, _, _, _, _, _, rfl, rfl, rfl⟩)
  obtain ⟨mvC, kbC⟩ := FI.kbinds0 (ps := ["self", "lot", "coming", "going"]) 2 ["coming"] [("going", .non)] (fun us mv ws => us ++ (ws ++ mv)) (by simp) (fun q hq => by simp at hq; simp [hq]) (fun r1 r2 r3 => r1.append (r3.append r2)) (fun D doc pm an cdv ct us mv ws h1 h2 h3 => match us, mv, ws, h1, h2, h3 with
    | [_, _], [_], [_], _, _, _ => ⟨_, _, _, _, _, _, rfl, rfl, rfl⟩)
  have FS := fun_mk (st := s_Row_read) lgs cgs kgs
  have bS := FS.binds (ps := ["text"]) fun _ _ _ _ _ _ us hl => match us, hl with | [_], _ => rfl
  have SM : SMet K CR mc "read" pS gS := ⟨sm1, sm2, sm3, ⟨_, sm4⟩, kgs⟩
  have kbS : KBinds K (PySem.W.fnOf "read" "Row.read" (defArgs s_Row_read) (defBody s_Row_read) (defScope s_Row_read) .none kVgs dcgs pmgs angs cdgs ctgs) ["text"] ["text"] g1 g1 :=
    ⟨fun s us ws _ hl => match us, ws, hl with
      | [], [_], _ => .of_eq rfl, fun {vs us zs ws} r q => g1_rel r q⟩
  have kbAs : KBinds K (PySem.W.fnOf "as_row" "as_row" (defArgs s_as_row) (defBody s_as_row) (defScope s_as_row) .none kV7 dc7 pm7 an7 cd7 ct7) ["value"] ["value"] g1 g1 :=
    ⟨fun s us ws _ hl => match us, ws, hl with
      | [], [_], _ => .of_eq rfl, fun {vs us zs ws} r q => g1_rel r q⟩

  refine ⟨PySem.W.fnOf "law" "law" (defArgs s_law) (defBody s_law) (defScope s_law) .none kV26 dc26 pm26 an26 cd26 ct26, fun s v => .of_eq rfl, fun base _ _ => ?_⟩
  · have gNum := ok_num (P := l.prog) (w := w) (base := base) F0 n_isinstance n_int n_bool
    have gKey := ok_key F1 (PySem.W.mg_of X G gk) q0 gNum k0 b0
    have ts : TSet mg := ⟨n_isinstance, n_tuple, n_all, n_len, n_range⟩
    have gSet := ok_set F2 ts q1 gKey k1 b1
    have gLot := ok_lot F3 n_len q2 gSet k2 b2
    have gLive := ok_lives F4 q1 gKey k1 b1
    have iL := ok_initL (P := l.prog) (w := w) (base := base) EL XL xyLvalue
    have iM := ok_initM (P := l.prog) (w := w) (base := base) EM XM xyMvalue
    have iR := ok_initR (P := l.prog) (w := w) (base := base) ER XR xyRat
    have iT := ok_initT (P := l.prog) (w := w) (base := base) ET XT xyTat
    have gRw := ok_row (P := l.prog) (w := w) (base := base) FI RC q3 gLot k3 b3 q4 gLive k4 b4
    have gRwX := ok_rowX (P := l.prog) (w := w) (base := base) FI RC q3 gLot k3 b3 q4 gLive k4 b4 XL iL bxL XM iM bxM
    have gBef := ok_before (P := l.prog) (w := w) (base := base) Fm0 RC n_tuple
    have gAft := ok_after (P := l.prog) (w := w) (base := base) Fm1 RC n_tuple
    have gBack := ok_back (P := l.prog) (w := w) (base := base) Fm2 RC gRow mkR gRw kbR
    have gSgn := ok_signD (P := l.prog) (w := w) (base := base) (mg := mg) Fm4 RC
    have gTxt := ok_textD (P := l.prog) (w := w) (base := base) Fm3 RC n_str Me4 gSgn bm4
    have gStrO := ok_str (P := l.prog) (w := w) (base := base) Fm5 RC Me3 gTxt bm3
    have gRep := ok_repr (P := l.prog) (w := w) (base := base) Fm6 RC Me3 gTxt bm3
    have gIn := ok_in (P := l.prog) (w := w) (base := base) Fm7 RC q4 gLive k4 b4
    have gLenO := ok_len (P := l.prog) (w := w) (base := base) Fm8 RC n_len
    have gEq := ok_eq (P := l.prog) (w := w) (base := base) Fm9 RT gRow n_isinstance
    have gKw := ok_kw (P := l.prog) (w := w) (base := base) F5 n_str n_len n_all n_int (PySem.W.mg_of X G gk) (PySem.W.mg_of X G gd)
    have gSpl := ok_split F6 q5 gKw k5 b5
    have gRead := ok_read FS gRow n_isinstance n_str n_tuple XT iT bxT q6 gSpl k6 b6 mkR gRw kbR
    have gAs := ok_as F7 RT gRow n_isinstance q3 gLot k3 b3 XR iR bxR mkR gRw bR rR
    have gDraw := ok_draw (P := l.prog) (w := w) (base := base) F9 n_int n_len n_abs
    have gOf := ok_of F10 n_len q9 gDraw k9 b9
    have gKeys := ok_keys F12 n_int n_max n_tuple n_sorted n_range q9 gDraw k9 b9 q10 gOf k10 b10
    have gStr := ok_stranger F13 n_int n_len n_list n_range q9 gDraw k9 b9 q10 gOf k10 b10
    have gLKey := ok_lkey (P := l.prog) (w := w) (base := base) F14 n_isinstance n_int n_bool
    have gLSet := ok_lset F15 ts q14 gLKey k14 b14
    have gSm := ok_same (P := l.prog) (w := w) (base := base) F11 ⟨n_isinstance, n_list, n_tuple, n_len, n_all, n_zip, n_bool, n_int, n_str⟩ q11 b11
    have gWo := ok_words (P := l.prog) (w := w) (base := base) F20 n_str
    have gLr := ok_lread F21 RC gRow XT xyTat SM gRead bS kbS
    exact ok_law (C := CR) F26 {
      bg := ⟨_, _, q8, k8, b8, ok_bag F8 n_int n_list⟩
      of := ⟨_, _, q10, k10, b10, gOf⟩
      ky := ⟨_, _, q12, k12, b12, gKeys⟩
      mak := ⟨_, _, q18, k18, b18, ok_make F18 gRow XL xyLvalue XM xyMvalue (PySem.W.exm_ref xeL xhL xtL apML) mkR gRwX bR rR kbR ⟨kb0.to, fun r q => k0_eq _ _ ▸ kb0.rel r q⟩ kbG kbC ⟨kb2.to, fun r q => k2_eq _ _ ▸ kb2.rel r q⟩⟩
      so := ⟨_, _, q25, k25, b25, ok_so F25 {
        wo := ⟨_, _, q20, k20, b20, gWo⟩
        sm := ⟨_, _, q11, k11, b11, gSm 4⟩
        st := ⟨_, _, q13, k13, b13, gStr⟩
        lk := ⟨_, _, q14, k14, b14, gLKey⟩
        lr := ⟨_, _, q21, k21, b21, gLr⟩
        bf := ⟨_, _, Me0, bm0, gBef⟩
        af := ⟨_, _, Me1, bm1, gAft⟩
        tx := ⟨_, _, Me3, bm3, gTxt⟩
        bk := ⟨_, _, Me2, bm2, gBack⟩
        sr := ⟨_, _, ma5, mf5, bm5, gStrO⟩
        rp := ⟨_, _, ma6, mf6, bm6, gRep⟩
        ln := ⟨_, _, ma8, mf8, bm8, gLenO⟩
        ct := ⟨_, _, ma7, mf7, bm7, gIn⟩
        eq := ⟨_, _, ma9, mf9, bm9, gEq⟩
        ne := rne
        nt := rnt
        T := RT
        O := NR
        nf := rnf
        nb := NB
        cint := rk_int
        cbool := rk_bool
        gC := gRow
        row := ⟨_, _, _, mkR, gRw, bR, rR⟩
        lst := n_list
        len := n_len
        tup := n_tuple
        str := n_str
        rpr := n_repr }⟩
      od := ⟨_, _, q16, k16, b16, ok_odd F16 n_str q10 gOf k10 b10 q13 gStr k13 b13⟩
      md := ⟨_, _, q19, k19, b19, ok_mdue F19 q15 gLSet k15 b15 q14 gLKey k14 b14⟩
      sm := ⟨_, _, q11, k11, b11, gSm 5⟩
      wo := ⟨_, _, q20, k20, b20, gWo⟩
      be := ⟨_, _, q24, k24, b24, ok_bent F24 n_len q9 gDraw k9 b9 q10 gOf k10 b10⟩
      lr := ⟨_, _, q21, k21, b21, gLr⟩
      rd := ⟨_, _, q22, k22, b22, ok_rdue (P := l.prog) (w := w) (base := base) F22 n_isinstance n_str n_len n_int n_tuple⟩
      ls := ⟨_, _, q15, k15, b15, gLSet⟩
      la := ⟨_, _, q23, k23, b23, ok_las F23 RT rnf XR xyRat q7 gAs k7 b7 kbAs ma9 mf9 gEq bm9⟩
      os := ⟨_, _, q17, k17, b17, fun A => ok_oddset F17 n_len n_list q10 gOf k10 b10 q15 gLSet k15 b15⟩
      T := RT
      O := NR
      nb := NB
      cint := rk_int
      cbool := rk_bool
      cstr := rk_str
      rng := n_range }
end K03


end

section
set_option Elab.async false
set_option linter.all false
open PySem PySem.W PyProof.Rows
set_option maxRecDepth 100000 in
set_option maxHeartbeats 0 in
theorem PySem.Challenge.cw_shapebetween_k03_rows_told_holds : PySem.Challenge.rw_shapebetween_k03_rows_told.Holds := by
  w_on; o_law; k_head; (case hw => w_witness2)
  k_fill
  refine SB.caller_walk (n := 63) (x := "_law_script") (sp := fun w => K03.spLaw _) rfl (by decide) rfl (fun w h Y => PySem.W.kIn_of Y) ?F (fun w H a ns hl hS => ⟨a, ns, rfl, hS, hl, fun _ => rfl⟩)
  case F =>
    intro w mg fa h KX G hmg
    refine' K03.all_mk KX G hmg ?a0 ?l0 ?c0 ?k0 ?a1 ?l1 ?c1 ?k1 ?a2 ?l2 ?c2 ?k2 ?a3 ?l3 ?c3 ?k3 ?a4 ?l4 ?c4 ?k4 ?a5 ?l5 ?c5 ?k5 ?a6 ?l6 ?c6 ?k6 ?a7 ?l7 ?c7 ?k7 ?a8 ?l8 ?c8 ?k8 ?a9 ?l9 ?c9 ?k9 ?a10 ?l10 ?c10 ?k10 ?a11 ?l11 ?c11 ?k11 ?a12 ?l12 ?c12 ?k12 ?a13 ?l13 ?c13 ?k13 ?a14 ?l14 ?c14 ?k14 ?a15 ?l15 ?c15 ?k15 ?a16 ?l16 ?c16 ?k16 ?a17 ?l17 ?c17 ?k17 ?a18 ?l18 ?c18 ?k18 ?a19 ?l19 ?c19 ?k19 ?a20 ?l20 ?c20 ?k20 ?a21 ?l21 ?c21 ?k21 ?a22 ?l22 ?c22 ?k22 ?a23 ?l23 ?c23 ?k23 ?a24 ?l24 ?c24 ?k24 ?a25 ?l25 ?c25 ?k25 ?a26 ?l26 ?c26 ?k26 ?ra ?rm1 ?ma0 ?mf0 ?lm0 ?cm0 ?km0 ?ma1 ?mf1 ?lm1 ?cm1 ?km1 ?ma2 ?mf2 ?lm2 ?cm2 ?km2 ?ma3 ?mf3 ?lm3 ?cm3 ?km3 ?ma4 ?mf4 ?lm4 ?cm4 ?km4 ?ma5 ?mf5 ?lm5 ?cm5 ?km5 ?ma6 ?mf6 ?lm6 ?cm6 ?km6 ?ma7 ?mf7 ?lm7 ?cm7 ?km7 ?ma8 ?mf8 ?lm8 ?cm8 ?km8 ?ma9 ?mf9 ?lm9 ?cm9 ?km9 ?lgi ?cgi ?kgi ?rd0 ?rd1 ?rc0 ?rc1 ?rc2 ?rc3 ?rn0 ?rn1 ?rn2 ?rt0 ?rt1 ?rt2 ?rt3 ?rm0 ?rm2 ?rm3 ?ro_NoneType ?ro_bool ?ro_int ?ro_str ?ro_list ?ro_dict ?ro_tuple ?rk_int ?rk_bool ?rk_str ?rb_NoneType ?rb_bool ?rb_int ?rb_str ?rb_list ?rb_dict ?rb_tuple ?rnf ?rne ?rnt ?sm0 ?sm1 ?sm2 ?sm3 ?sm4 ?lgs ?cgs ?kgs ?xaL ?xmL ?xoL ?xhL ?xsL ?xeL ?xtL ?xkL ?xgL ?xqL ?xiL ?xfL ?lxL ?cxL ?kxL ?xnL ?xzL ?xyLvalue ?xaM ?xmM ?xoM ?xhM ?xsM ?xeM ?xtM ?xkM ?xgM ?xqM ?xiM ?xfM ?lxM ?cxM ?kxM ?xnM ?xzM ?xyMvalue ?xaR ?xmR ?xoR ?xhR ?xsR ?xeR ?xtR ?xkR ?xgR ?xqR ?xiR ?xfR ?lxR ?cxR ?kxR ?xnR ?xzR ?xyRat ?xaT ?xmT ?xoT ?xhT ?xsT ?xeT ?xtT ?xkT ?xgT ?xqT ?xiT ?xfT ?lxT ?cxT ?kxT ?xnT ?xzT ?xyTat ?apML ?apRL ?apRM ?apTL ?apTM ?apTR ?z_int ?z_list ?z_len ?z_abs ?z_isinstance ?z_tuple ?z_all ?z_zip ?z_bool ?z_str ?z_range ?z_max ?z_sorted ?z_repr ?gk ?gd
    (case a0 => k_is)
    (case l0 => k_is)
    (case c0 => k_is)
    (case k0 => k_is)
    (case a1 => k_is)
    (case l1 => k_is)
    (case c1 => k_is)
    (case k1 => k_is)
    (case a2 => k_is)
    (case l2 => k_is)
    (case c2 => k_is)
    (case k2 => k_is)
    (case a3 => k_is)
    (case l3 => k_is)
    (case c3 => k_is)
    (case k3 => k_is)
    (case a4 => k_is)
    (case l4 => k_is)
    (case c4 => k_is)
    (case k4 => k_is)
    (case a5 => k_is)
    (case l5 => k_is)
    (case c5 => k_is)
    (case k5 => k_is)
    (case a6 => k_is)
    (case l6 => k_is)
    (case c6 => k_is)
    (case k6 => k_is)
    (case a7 => k_is)
    (case l7 => k_is)
    (case c7 => k_is)
    (case k7 => k_is)
    (case a8 => k_is)
    (case l8 => k_is)
    (case c8 => k_is)
    (case k8 => k_is)
    (case a9 => k_is)
    (case l9 => k_is)
    (case c9 => k_is)
    (case k9 => k_is)
    (case a10 => k_is)
    (case l10 => k_is)
    (case c10 => k_is)
    (case k10 => k_is)
    (case a11 => k_is)
    (case l11 => k_is)
    (case c11 => k_is)
    (case k11 => k_is)
    (case a12 => k_is)
    (case l12 => k_is)
    (case c12 => k_is)
    (case k12 => k_is)
    (case a13 => k_is)
    (case l13 => k_is)
    (case c13 => k_is)
    (case k13 => k_is)
    (case a14 => k_is)
    (case l14 => k_is)
    (case c14 => k_is)
    (case k14 => k_is)
    (case a15 => k_is)
    (case l15 => k_is)
    (case c15 => k_is)
    (case k15 => k_is)
    (case a16 => k_is)
    (case l16 => k_is)
    (case c16 => k_is)
    (case k16 => k_is)
    (case a17 => k_is)
    (case l17 => k_is)
    (case c17 => k_is)
    (case k17 => k_is)
    (case a18 => k_is)
    (case l18 => k_is)
    (case c18 => k_is)
    (case k18 => k_is)
    (case a19 => k_is)
    (case l19 => k_is)
    (case c19 => k_is)
    (case k19 => k_is)
    (case a20 => k_is)
    (case l20 => k_is)
    (case c20 => k_is)
    (case k20 => k_is)
    (case a21 => k_is)
    (case l21 => k_is)
    (case c21 => k_is)
    (case k21 => k_is)
    (case a22 => k_is)
    (case l22 => k_is)
    (case c22 => k_is)
    (case k22 => k_is)
    (case a23 => k_is)
    (case l23 => k_is)
    (case c23 => k_is)
    (case k23 => k_is)
    (case a24 => k_is)
    (case l24 => k_is)
    (case c24 => k_is)
    (case k24 => k_is)
    (case a25 => k_is)
    (case l25 => k_is)
    (case c25 => k_is)
    (case k25 => k_is)
    (case a26 => k_is)
    (case l26 => k_is)
    (case c26 => k_is)
    (case k26 => k_is)
    (case ra => k_is)
    (case rm1 => k_is)
    (case ma0 => k_is)
    (case mf0 => k_is)
    (case lm0 => k_is)
    (case cm0 => k_is)
    (case km0 => k_is)
    (case ma1 => k_is)
    (case mf1 => k_is)
    (case lm1 => k_is)
    (case cm1 => k_is)
    (case km1 => k_is)
    (case ma2 => k_is)
    (case mf2 => k_is)
    (case lm2 => k_is)
    (case cm2 => k_is)
    (case km2 => k_is)
    (case ma3 => k_is)
    (case mf3 => k_is)
    (case lm3 => k_is)
    (case cm3 => k_is)
    (case km3 => k_is)
    (case ma4 => k_is)
    (case mf4 => k_is)
    (case lm4 => k_is)
    (case cm4 => k_is)
    (case km4 => k_is)
    (case ma5 => k_is)
    (case mf5 => k_is)
    (case lm5 => k_is)
    (case cm5 => k_is)
    (case km5 => k_is)
    (case ma6 => k_is)
    (case mf6 => k_is)
    (case lm6 => k_is)
    (case cm6 => k_is)
    (case km6 => k_is)
    (case ma7 => k_is)
    (case mf7 => k_is)
    (case lm7 => k_is)
    (case cm7 => k_is)
    (case km7 => k_is)
    (case ma8 => k_is)
    (case mf8 => k_is)
    (case lm8 => k_is)
    (case cm8 => k_is)
    (case km8 => k_is)
    (case ma9 => k_is)
    (case mf9 => k_is)
    (case lm9 => k_is)
    (case cm9 => k_is)
    (case km9 => k_is)
    (case lgi => k_is)
    (case cgi => k_is)
    (case kgi => k_is)
    (case rd0 => k_is)
    (case rd1 => k_is)
    (case rc0 => k_is)
    (case rc1 => k_is)
    (case rc2 => k_is)
    (case rc3 => k_is)
    (case rn0 => k_is)
    (case rn1 => k_is)
    (case rn2 => k_is)
    (case rt0 => k_is)
    (case rt1 => k_is)
    (case rt2 => k_is)
    (case rt3 => k_is)
    (case rm0 => k_is)
    (case rm2 => k_is)
    (case rm3 => k_is)
    (case ro_NoneType => first | k_is | rfl | decide +kernel)
    (case ro_bool => first | k_is | rfl | decide +kernel)
    (case ro_int => first | k_is | rfl | decide +kernel)
    (case ro_str => first | k_is | rfl | decide +kernel)
    (case ro_list => first | k_is | rfl | decide +kernel)
    (case ro_dict => first | k_is | rfl | decide +kernel)
    (case ro_tuple => first | k_is | rfl | decide +kernel)
    (case rk_int => first | k_is | rfl | decide +kernel)
    (case rk_bool => first | k_is | rfl | decide +kernel)
    (case rk_str => first | k_is | rfl | decide +kernel)
    (case rb_NoneType => first | k_is | rfl | decide +kernel)
    (case rb_bool => first | k_is | rfl | decide +kernel)
    (case rb_int => first | k_is | rfl | decide +kernel)
    (case rb_str => first | k_is | rfl | decide +kernel)
    (case rb_list => first | k_is | rfl | decide +kernel)
    (case rb_dict => first | k_is | rfl | decide +kernel)
    (case rb_tuple => first | k_is | rfl | decide +kernel)
    (case rnf => first | k_is | rfl | decide +kernel)
    (case rne => k_is)
    (case rnt => k_is)
    (case sm0 => k_is)
    (case sm1 => k_is)
    (case sm2 => k_is)
    (case sm3 => k_is)
    (case sm4 => k_is)
    (case lgs => k_is)
    (case cgs => k_is)
    (case kgs => k_is)
    (case xaL => k_is)
    (case xmL => kx_is)
    (case xoL => kx_is)
    (case xhL => k_is)
    (case xsL => k_is)
    (case xeL => k_is)
    (case xtL => k_is)
    (case xkL => k_is)
    (case xgL => k_is)
    (case xqL => k_is)
    (case xiL => k_is)
    (case xfL => k_is)
    (case lxL => k_is)
    (case cxL => k_is)
    (case kxL => k_is)
    (case xnL => k_is)
    (case xzL => k_is)
    (case xyLvalue => k_is)
    (case xaM => k_is)
    (case xmM => kx_is)
    (case xoM => kx_is)
    (case xhM => k_is)
    (case xsM => k_is)
    (case xeM => k_is)
    (case xtM => k_is)
    (case xkM => k_is)
    (case xgM => k_is)
    (case xqM => k_is)
    (case xiM => k_is)
    (case xfM => k_is)
    (case lxM => k_is)
    (case cxM => k_is)
    (case kxM => k_is)
    (case xnM => k_is)
    (case xzM => k_is)
    (case xyMvalue => k_is)
    (case xaR => k_is)
    (case xmR => kx_is)
    (case xoR => kx_is)
    (case xhR => k_is)
    (case xsR => k_is)
    (case xeR => k_is)
    (case xtR => k_is)
    (case xkR => k_is)
    (case xgR => k_is)
    (case xqR => k_is)
    (case xiR => k_is)
    (case xfR => k_is)
    (case lxR => k_is)
    (case cxR => k_is)
    (case kxR => k_is)
    (case xnR => k_is)
    (case xzR => k_is)
    (case xyRat => k_is)
    (case xaT => k_is)
    (case xmT => kx_is)
    (case xoT => kx_is)
    (case xhT => k_is)
    (case xsT => k_is)
    (case xeT => k_is)
    (case xtT => k_is)
    (case xkT => k_is)
    (case xgT => k_is)
    (case xqT => k_is)
    (case xiT => k_is)
    (case xfT => k_is)
    (case lxT => k_is)
    (case cxT => k_is)
    (case kxT => k_is)
    (case xnT => k_is)
    (case xzT => k_is)
    (case xyTat => k_is)
    (case apML => k_is)
    (case apRL => k_is)
    (case apRM => k_is)
    (case apTL => k_is)
    (case apTM => k_is)
    (case apTR => k_is)
    (case z_int => k_is)
    (case z_list => k_is)
    (case z_len => k_is)
    (case z_abs => k_is)
    (case z_isinstance => k_is)
    (case z_tuple => k_is)
    (case z_all => k_is)
    (case z_zip => k_is)
    (case z_bool => k_is)
    (case z_str => k_is)
    (case z_range => k_is)
    (case z_max => k_is)
    (case z_sorted => k_is)
    (case z_repr => k_is)
    (case gk => k_is)
    (case gd => k_is)


end
