import PyProof.Rows.All
import Wide.All
import OpenK.AllK
import Wide.FinOn
import KE.KExcPX
import KE.KExcInit
import HandS.Base
import HandS.Call
import HandS.List
import HandS.Ends
import HandS.Exc
import HandS.ExcInit
import HandS.Words
import HandS.WordsExc
import HandS.Wide
import HandS.WordsList
import HandS.Comp
import HandS.Iter
import HandS.Zip
import HandS.IsInst
import HandS.DeepEq
import HandS.ExcField
import HandS.ExcOwn
import HandS.More
import HandS.MakeKwOnly
import PyProof.ReprRoads
import HandS.Text
import HandS.Style
import HandS.Strs
import PyProof.StrLawsRepr
import PySem.Challenge.RW_shapebetween_k02_keys_lots_and_names
import HandS.SetFor
import HandS.FStr
import PyProof.ReprBulk
import HandS.TupAny
import PyProof.Rows.StrGather
import HandS.Conv
import KE.KExcLine
import HandS.ExcIs
section
set_option Elab.async false
set_option linter.all false
set_option maxRecDepth 100000
set_option maxHeartbeats 4000000
/-! try with several clauses `except C as n`; own exception classes over any base. -/
namespace SB
open PySem PySem.Spec PyProof.Rows L2

/-- clauses, each with a name: what is wished of an exception, clause by clause -/
inductive Clauses (X : Cx) (D : Ends) (Wout : WX) : List ExceptHandler → WX → Prop
  | done : Clauses X D Wout [] Wout
  | more {x n : Str} {c : Value} {i : Nat} {ts : Addr → Value → Option Addr → TS} {b₀ : Stmt} {suite : List Stmt} {np pc : Pos} {rest : List ExceptHandler} {W : WX}
      (hi : X.N[i]? = some n) (hl : X.env.kindOf n = some .local) (hc : Names X x c)
      (hs : ∀ (a : Addr) (oe : Obj) (cls : Value) (d : Option Addr) (pn : List (Addr × Obj)), Zc cls d oe → (∃ vs, oe.data = .fields vs) → PSs (X.suite a ((a, oe) :: pn)) (b₀ :: suite) (ts a cls d))
      (r : Clauses X D Wout rest W) : Clauses X D Wout (.ExceptHandler (some (.Name x np)) (some n) (b₀ :: suite) pc :: rest) (wAs X.K c i ts W D)

section
variable {X : Cx} {body : List Stmt} {h₀ : ExceptHandler} {hds : List ExceptHandler} {pos : Pos} {tb : WX → TS} {Wout : WX}

/-- the exception at a, seen by the clauses that are left -/
theorem clauses_run {D : Ends} {pins : List (Addr × Obj)} {a : Addr} {B : Heap} {cls : Value} {d : Option Addr} {sI s' : Shared} {σ : L2.St} {H : Hp}
    (hst : X.stack = X.env :: X.outer) (hf : X.env.frame = some X.env.locals) (hN : X.N.Nodup) (tk : Takes X Wout) (J : Inv X pins σ H sI)
    (nb : ∀ b o, sI.heap.get? b = some o → b ∉ frs X.stack → B.get? b = some o) (os : s'.os = sI.os) (ag : AllBare s'.gens) (na : H a = none) :
    ∀ {hs : List ExceptHandler} {W : WX}, Clauses X D Wout hs W → ∀ h3 : Heap, HandSPX.FlyingZ B (X.env :: X.outer) a (Zc cls d) h3 → sI.heap.UpToSlots h3 → W cls d σ H →
      wpAny (model X.prog X.w) X.A (handleBy (.ref a) X.env hs) (SP X pins D) X.xe { s' with heap := h3 } := by
  intro hs W hk
  induction hk with
  | done =>
    intro h3 fl up w
    refine PX.no_clauseZ (B := B) (outer := X.outer) (Z := Zc cls d) hf fl fun h4 hh up4 => tk _ _ ?_
    exact ⟨a, B, sI, pins, σ, H, cls, d, rfl, J, nb, up.trans up4, .inr (.inr (by rw [hst]; exact hh)), na, os, ag, w⟩
  | @more x n c i ts b₀ suite np pc rest W hi hl hc hsu r ih =>
    intro h3 fl up w
    obtain ⟨b, hb, yes, no⟩ := w
    have ok := J.ok
    have J3 : Inv X pins σ H { s' with heap := h3 } := J.landed nb fl.1 up os ag
    obtain ⟨oe, vs, he, hz, hd⟩ := fl.there
    have out : a ∉ frs (X.env :: X.outer) := fun hm => by
      obtain ⟨_, o', e', hnf⟩ := fl.2.2.1.mem hm
      rw [he] at e'
      cases e'
      exact hnf _ hd
    have nL : a ≠ X.env.locals := fun z => out (List.mem_filterMap.mpr ⟨X.env, List.mem_cons_self, by rw [hf, z]⟩)
    have nF : a ∉ X.fs := fun hm => by
      obtain ⟨e, h1, h2⟩ := List.mem_filterMap.mp hm
      exact out (List.mem_filterMap.mpr ⟨e, List.mem_cons_of_mem _ h1, h2⟩)
    have S3 := J3.suite he hd na nL nF
    have asked : ∀ {Q' : Value → Shared → Prop} {E' : Value → Shared → Prop}, Q' c { s' with heap := h3 } → wpAny (model X.prog X.w) (X.A.mark (some (.ref a))) (eval (.Name x np) X.env) Q' E' { s' with heap := h3 } := fun {Q' E'} q => by
      obtain ⟨hg, hdb, hm | ⟨hm, hv, hnn⟩⟩ := hc
      · exact ld_glob (X := X.suite a ((a, oe) :: (X.pn ++ pins))) S3 hg hm q hdb
      · exact ld_blt (X := X.suite a ((a, oe) :: (X.pn ++ pins))) S3 hg hm hv q hnn hdb
    cases b with
    | false => exact PX.clause_passZ (B := B) (outer := X.outer) (Z := Zc cls d) J3.kIn (fun o z => z.1) fl hb asked (ih h3 fl up (no rfl))
    | true =>
      refine PX.clause_asZ (B := B) (outer := X.outer) (Z := Zc cls d) J3.kIn (fun o z => z.1) fl hb asked fun h4 fl4 up4 => ?_
      have J4 : Inv X pins σ H { s' with heap := h4 } := J.landed nb fl4.1 (up.trans up4) os ag
      obtain ⟨oe4, vs4, he4, hz4, hd4⟩ := HandSPX.FlyingZ.there fl4
      have S4 := J4.suite he4 hd4 na nL nF
      refine store_ok (X := X.suite a ((a, oe4) :: (X.pn ++ pins))) (v := .ref a) S4 hN hi (.inl hl) rfl (fun s5 S5 => ?_) (.inr hl)
      refine wpAny_mono ((hsu a oe4 cls d (X.pn ++ pins) hz4 ⟨_, hd4⟩).run [] s5 _ H _ S5 (yes rfl a na)) (fun f s6 hsp => ?_) (fun _ _ z => False.elim z)
      have gone : ∀ {σ6 : L2.St} {H6 : Hp} {Q : Shared → Prop}, Inv (X.suite a ((a, oe4) :: (X.pn ++ pins))) [] σ6 H6 s6 → (∀ s7, Inv X pins (σ6.set i none) H6 s7 → Q s7) →
          wpAny (model X.prog X.w) X.A (do bindName X.env n .none; unbindBehindTheSuite X.env n pc) (fun _ s7 => Q s7) X.xe s6 := fun S6 hq => gone_ok (S6.unsuite ok) hN hi hl hq
      cases f with
      | next => exact let ⟨σ6, H6, S6, q6⟩ := hsp; gone S6 fun s7 J7 => ⟨_, _, J7, q6⟩
      | brk => exact let ⟨σ6, H6, S6, q6⟩ := hsp; gone S6 fun s7 J7 => ⟨_, _, J7, q6⟩
      | cont => exact let ⟨σ6, H6, S6, q6⟩ := hsp; gone S6 fun s7 J7 => ⟨_, _, J7, q6⟩
      | ret u => exact let ⟨v6, σ6, H6, S6, r6, q6⟩ := hsp; gone S6 fun s7 J7 => ⟨_, _, _, J7, r6, q6⟩

/-- try: body except A as n: .. except B as n: .. -/
theorem ps_try_clauses (hst : X.stack = X.env :: X.outer) (hf : X.env.frame = some X.env.locals) (hN : X.N.Nodup) (tk : Takes X Wout) {wW : Ends → WX}
    (hb : ∀ (W : WX) (pn : List (Addr × Obj)) (xe : Value → Shared → Prop), Takes (X.tr pn xe) W → PassesOwn (model X.prog X.w) X.A X.env xe → PSs (X.tr pn xe) body (tb W))
    (hh : ∀ D, Clauses X D Wout (h₀ :: hds) (wW D)) : PS X (.Try body (h₀ :: hds) [] [] pos) (fun D σ H => tb (wW D) D σ H) := by
  refine ⟨fun pins s σ H D I h => ?_⟩
  have ok := I.ok
  have hfr : X.A.frames = some (X.env :: X.outer) := ok.frames.trans (congrArg some hst)
  refine wpAny_Try_except (wpAny_mono ((hb (wW D) (X.pn ++ pins) (fun e s₁ => wpAny (model X.prog X.w) X.A (noteFrame e X.env) (fun _ s₂ => wpAny (model X.prog X.w) X.A (setFlight e none)
    (fun _ s₃ => wpAny (model X.prog X.w) X.A (handleBy e X.env (h₀ :: hds)) (SP X pins D) X.xe s₃) X.xe s₂) X.xe s₁) (fun u s' xx => ?_) PassesOwn.looking).run [] s σ H D (I.toTry _) h) (fun f s1 hsp => ?_) fun e s1 he => he)
  · obtain ⟨a, B, sI, pins', σ', H', cls, d, rfl, J', nb, up, sky, na, os, ag, w⟩ := xx
    have J : Inv X pins σ' H' sI := J'.ofTry ok
    have sk : Sky B (X.env :: X.outer) a (Zc cls d) X.env.locals s'.heap := hst ▸ sky
    exact Sky.land Zc.steady hfr hf sk fun h3 fl3 up3 => clauses_run hst hf hN tk J nb os ag na (hh D) h3 fl3 (up.trans up3) w
  · cases f with
    | next => exact let ⟨σ', H', J', q⟩ := hsp; wpAny_execs_nil ⟨σ', H', J'.ofTry ok, q⟩
    | brk => exact let ⟨σ', H', J', q⟩ := hsp; ⟨σ', H', J'.ofTry ok, q⟩
    | cont => exact let ⟨σ', H', J', q⟩ := hsp; ⟨σ', H', J'.ofTry ok, q⟩
    | ret u => exact let ⟨v, σ', H', J', r, q⟩ := hsp; ⟨v, σ', H', J'.ofTry ok, r, q⟩
end
end SB

end

section
set_option Elab.async false
set_option linter.all false
set_option maxRecDepth 100000
set_option maxHeartbeats 4000000
/-! own exception classes over a built-in base, whose __init__ stores fields. -/
namespace SB
open PySem PySem.Spec PyProof.Rows L2

section
open PySem.W PySem.Calls Builtin Builtin.ObjectAttr
variable {prog : Program} {w : World} {A : Around} {E : Value → Shared → Prop} {R : Result → Shared → Prop} {hp : Heap} {g : Array GenState} {d : Drawn} {t : Nat} {os : OsState} {B : String} {bmB : List Value}
/-- the first field that is stored: the exception gets its dict -/
theorem put_first {K : W.Frag} {name : Str} {tk : Tok} {v : Value} {x C : Addr} {fv : Array Value} (SF : StoreFacts B bmB "object.__setattr__" "object") (X : K.In hp) (hx : hp.get? x = some { cls := .ref C, data := .fields fv })
    (ov : W.excOver K C bmB = true) (hdc : W.hasDictIn K C = true) (ha : W.takerIn K C name = some none)
    (hq : ∀ h' tk' dx, (∀ b o, b ≠ x → hp.get? b = some o → h'.get? b = some o) → hp.objs.size ≤ dx → dx ≠ x → h'.get? x = some { cls := .ref C, dict := some dx, data := .fields fv } →
      h'.Ns1 dx (fun y => if y = name then some v else none) → R (.ok (.ret .none)) ⟨h', g, d, tk', os⟩) :
    codeAny (model prog w) A (.call (.builtin "object.__setattr__") ⟨[.ref x, .str name tk, v], []⟩) R ⟨hp, g, d, t, os⟩ := by
  have I : W.InstAt hp x { cls := .ref C, data := .fields fv } C none := ⟨hx, rfl, rfl, trivial⟩
  have apart : x ≠ hp.objs.size := Nat.ne_of_lt (Heap.lt_size hx)
  refine W.osa_openX (s := ⟨hp, g, d, t, os⟩) SF X I ov ha fun b => ?_
  obtain ⟨cd, hcd, hh⟩ := W.any_some hdc
  have known : W.Looks (model prog w) hp (classData C) cd := W.looks_clsIn X hcd
  obtain ⟨nm, bs, mro, ns, qn, hdd, sn, sb, ab, col, del⟩ := cd
  dsimp only at hh
  subst hh
  unfold storeInOwnDict ownDictForStores
  repeat (first | with_reducible refine HandSPX.store_in_new ?_ ?_ | with_reducible refine wpAny_loadPart_at hx ?_ | with_reducible refine known.at ?_ | wp_step)
  · exact ⟨_, #[], _, (Heap.get?_update_ne _ _ _ _ apart.symm).trans (Heap.get?_push_at rfl rfl), rfl, fun e he => absurd he (by simp), fun _ => rfl⟩
  · intro h' tk' hn' hs
    have there : (hp.push { cls := .type "dict", data := .dict #[] }).get? x = some { cls := .ref C, data := .fields fv } := Heap.get?_push_of_some _ hx
    refine hq h' tk' hp.objs.size (fun b o hb ho => ?_) (Nat.le_refl _) apart.symm ?_ hn'
    · exact (hs.2 b (Nat.ne_of_lt (Heap.lt_size ho))).trans ((Heap.get?_update_ne _ _ _ _ hb).trans (Heap.get?_push_of_some _ ho))
    · exact (hs.2 x apart).trans (Heap.get?_update_self _ there rfl)
/-- a further field -/
theorem put_more {K : W.Frag} {name : Str} {tk : Tok} {v : Value} {x C dx : Addr} {fv : Array Value} {m0 : Str → Option Value} {nl : List Str} (SF : StoreFacts B bmB "object.__setattr__" "object")
    (X : K.In hp) (hx : hp.get? x = some { cls := .ref C, dict := some dx, data := .fields fv }) (hns : hp.Ns1 dx m0) (hw : Within m0 nl) (hz : nl.length ≤ 1000)
    (ov : W.excOver K C bmB = true) (hdc : W.hasDictIn K C = true) (ha : W.takerIn K C name = some none)
    (hq : ∀ h' tk', (∀ b o, b ≠ dx → hp.get? b = some o → h'.get? b = some o) → h'.Ns1 dx (fun y => if y = name then some v else m0 y) → R (.ok (.ret .none)) ⟨h', g, d, tk', os⟩) :
    codeAny (model prog w) A (.call (.builtin "object.__setattr__") ⟨[.ref x, .str name tk, v], []⟩) R ⟨hp, g, d, t, os⟩ := by
  obtain ⟨oD, esD, epD, hoD, hdD, _⟩ := hns.count hw
  have I : W.InstAt hp x { cls := .ref C, dict := some dx, data := .fields fv } C (some oD) := ⟨hx, rfl, rfl, hoD⟩
  refine W.osa_openX (s := ⟨hp, g, d, t, os⟩) SF X I ov ha fun b => ?_
  obtain ⟨cd, hcd, hh⟩ := W.any_some hdc
  have known : W.Looks (model prog w) hp (classData C) cd := W.looks_clsIn X hcd
  obtain ⟨nm, bs, mro, ns, qn, hdd, sn, sb, ab, col, del⟩ := cd
  dsimp only at hh
  subst hh
  unfold storeInOwnDict ownDictForStores
  repeat (first | with_reducible refine OEX.store_in_old hns hw hz ?_ | with_reducible refine wpAny_loadPart_at hx ?_ | with_reducible refine known.at ?_ | wp_step)
  intro h' tk' hn' hs
  exact hq h' tk' (fun b o hb ho => (hs.2 b hb).trans ho) hn'
end

/-- what the written part says of an exception class of the text -/
structure ExCls (K : PySem.W.Frag) (C : Addr) (bmB : List Value) (newId : String) : Prop where
  made : PySem.W.excInitIn K C bmB newId = true
  over : PySem.W.excOver K C bmB = true
  hd : PySem.W.hasDictIn K C = true
  sa : PySem.W.findIn K (.ref C) "__setattr__" = some (some (.builtin "object.__setattr__"))
  exC : PySem.W.subIn K (.ref C) (.type "BaseException") = some true
  tyC : PySem.W.typeIn K (.ref C) = some (.type "type")
  kC : PySem.W.keepIn K (.ref C) = true

/-- self.f = e in an exception's __init__ -/
def tPut (K : PySem.W.Frag) (C : Addr) (f : Str) (to te : TE) : TS := fun D σ H => te σ H fun y H1 => to σ H1 fun x H2 => ∃ a : Addr, x = .ref a ∧
  ((H2 a = some (exo a C none) ∧ ∀ dx, H2 dx = none → dx ≠ a → D.nx σ (upd (upd H2 dx (exd dx [(f, y)])) a (exo a C (some dx)))) ∨
    ∃ (dx : Addr) (fs : List (Str × V)), H2 a = some (exo a C (some dx)) ∧ H2 dx = some (exd dx fs) ∧ fs.length ≤ 900 ∧ D.nx σ (upd H2 dx (exd dx ((f, y) :: fs))))

section
variable {X : Cx} {o e : Expr} {es : List Expr} {to te : TE} {ta : TA} {f : Str} {p p' pos : Pos} {C : Addr} {B newId initId : String} {bmB : List Value}
theorem ps_put (SF : StoreFacts B bmB "object.__setattr__" "object") (T : ExCls X.K C bmB newId) (hno : PySem.W.findIn X.K (.ref C) f = some none) (ho : PE X o to) (he : PE X e te)
    (hs : swapsWith e (some (.Attribute o f p')) pos.line X.env = pure false := by rfl) : PS X (.Assign [.Attribute o f p'] e pos) (tPut X.K C f to te) := by
  refine ⟨fun pins s σ H D I h => ?_⟩
  refine plainObj_wpAny_Assign_Attribute (thn (he.run pins s σ H _ I h) fun v s1 ⟨y, H1, I1, r1, q1⟩ => thn (ho.run pins s1 σ H1 _ I1 q1) fun u s2 ⟨x, H2, I2, r2, a, ex, q⟩ => ?_) hs
  subst ex
  obtain rfl : u = Value.ref a := r2
  have tkr : PySem.W.takerIn X.K C f = some none := NoAttr.taker hno
  rcases q with ⟨ea, q⟩ | ⟨dx, fs, ea, ed, hl, q⟩
  · obtain ⟨t1, hat⟩ := exo_at I2.hok ea
    obtain ⟨hp, g, d, t, os⟩ := s2
    refine PySem.W.set_plain I2.kIn (ox := { cls := .ref C, dict := none, data := .fields #[.ref t1, .none, .none, .none, .bool false, .none] }) (od := none) ⟨hat, rfl, rfl, trivial⟩ T.sa ?_
    refine put_first SF I2.kIn hat T.over T.hd tkr fun h' tk' dx k dn dne hx hn => ?_
    have free : H2 dx = none := I2.hok.fresh dn
    have old : ∀ {b : Addr} {o : Obj}, hp.get? b = some o → b ≠ dx := fun q => Nat.ne_of_lt (Nat.lt_of_lt_of_le (Heap.lt_size q) dn)
    have no : ∀ {b : Addr}, H2 b = none → b ≠ a := fun n z => by rw [z, ea] at n; cases n
    have U : Un X.fs [] H2 (upd (upd H2 dx (exd dx [(f, y)])) a (exo a C (some dx))) hp h' := {
      keep := fun b o q n _ _ => k b o (no n) q
      slot := fun b o q n _ _ => ⟨o.slots, k b o (no n) q⟩
      free := fun b o q n _ => by rw [upd_ne (no n), upd_ne (old q)]; exact n
      there := fun b o q _ => by
        by_cases hb : b = a
        · subst hb
          exact ⟨_, hx⟩
        · exact ⟨o, k b o hb q⟩
      tups := fun b xs q => by rw [upd_ne (at_ne ea q exo_tup), upd_ne (ne_of_none q free)]; exact q
      frzs := fun b o v q => by rw [upd_ne (at_ne ea q exo_frz), upd_ne (ne_of_none q free)]; exact q
      tbls := fun b ps q => ⟨#[], by rw [upd_ne (at_ne ea q exo_tbl), upd_ne (ne_of_none q free), q]; simp⟩ }
    refine ⟨σ, _, I2.un (t' := tk') U fun b o q' => ?_, q dx free dne⟩
    by_cases hb : b = a
    · subst hb
      rw [upd_same] at q'
      cases q'
      exact exo_ok hx
    · rw [upd_ne hb] at q'
      by_cases hdd : b = dx
      · subst hdd
        rw [upd_same] at q'
        cases q'
        exact exd_ok hn (relO_put (fs := []) r1 fun g => True.intro)
      · rw [upd_ne hdd] at q'
        refine (I2.hok b o q').stay (fun c v hc z => k c v (hc.elim (fun hc => by rw [hc]; exact hb) fun hc => at_ne ea hc exo_own) z) (fun c hc => ?_) (fun c xs hc => ?_)
        · rw [upd_ne (at_ne ea hc exo_own), upd_ne (ne_of_none hc free)]; exact hc
        · rw [upd_ne (at_ne ea hc exo_tup), upd_ne (ne_of_none hc free)]; exact hc
  · obtain ⟨t1, hat⟩ := exo_at I2.hok ea
    obtain ⟨mA, hns, rel⟩ := exd_at I2.hok ed
    have hw := within_of rel
    obtain ⟨hp, g, d, t, os⟩ := s2
    obtain ⟨oD, _, _, hoD, _, _⟩ := hns.count hw
    refine PySem.W.set_plain I2.kIn (ox := { cls := .ref C, dict := some dx, data := .fields #[.ref t1, .none, .none, .none, .bool false, .none] }) (od := some oD) ⟨hat, rfl, rfl, hoD⟩ T.sa ?_
    refine put_more SF I2.kIn hat hns hw (by rw [List.length_map]; omega) T.over T.hd tkr fun h' tk' k hn => ?_
    have hdx : ∃ o, h'.get? dx = some o := let ⟨o, _, _, e', _⟩ := hn; ⟨o, e'⟩
    exact ⟨σ, _, I2.write (t' := tk') (x := dx) (e := dx) (o := exd dx ((f, y) :: fs)) (by rw [ed]; exact True.intro) (.inl rfl) k hdx (exd_ok hn (relO_put r1 rel)), q⟩

/-- C(e, ..), to be raised: C's own __init__ keeps sp -/
theorem pmk_exg {CX : CXT} {x : Str} {fI : Addr} {k : Nat} {fd : FuncData} {ps : List Str} {sp : Sp} {ds : List Value} {dvs : List V} (FB : ExcBaseFacts B newId initId bmB) (T : ExCls X.K C bmB newId)
    (iC : PySem.W.findIn X.K (.ref C) "__init__" = some (some (.ref fI))) (tI : PySem.W.typeIn X.K (.ref fI) = some (.type "function"))
    (F1 : FnOk X.prog X.w X.K X.mg X.base CX k fI fd ps sp) (hr : Room (k + 1) X.A) (hb : Binds X.K fd ps ds) (hd : Vals dvs ds) (hx : Passes CX X (fun _ _ _ => False)) (hg : Gl X x) (hm : X.mg x = some (.ref C)) (ha : PA X (e :: es) ta)
    (hdb : (x == ("__debug__" : Str)) = false := by decide) (he : starEach (e :: es) X.env = (false, eval e X.env) :: starEach es X.env := by rfl) (hpl : (backTo pos (starEach es X.env)).any (·.1) = false := by rfl) :
    PMk X (.Call (.Name x p) (e :: es) [] pos) (tMkO C sp dvs ta) := by
  intro pins s σ H Q I h
  refine wpAny_Call_Name_kw (ld_glob I hg hm ?_ hdb)
  refine PySem.W.callWith_K (h₀ := X.base) I.ok.mod.kin T.kC (thn (ha.run pos pins s σ H _ I h) fun us s1 ⟨vs, H1, I1, r1, hz, q1⟩ => ⟨I1.kIn, ?_⟩) he hpl
  show wpAny _ _ (call (.ref C) us) _ _ _
  obtain ⟨hp, g, dr, tk, os⟩ := s1
  obtain ⟨nm, N, qn, bs, bm, hdct, sn, sub, ab, col, dd, k0, k1, k2, k3, k5, hC, hbm⟩ := PySem.W.excInit_of I1.kIn T.made
  have grow : hp.objs.size ≤ hp.objs.size + 1 := Nat.le_succ _
  have hn : H1 (hp.objs.size + 1) = none := I1.hok.fresh grow
  have hq := q1 (hp.objs.size + 1) hn
  have keep2 : ∀ b o, hp.get? b = some o → ((hp.push (PySem.W.kdv_tup us)).push (PySem.HandSPX.excO C hp.objs.size)).get? b = some o := fun b o e => Heap.get?_push_of_some _ (Heap.get?_push_of_some _ e)
  have new : ((hp.push (PySem.W.kdv_tup us)).push (PySem.HandSPX.excO C hp.objs.size)).get? (hp.objs.size + 1) = some (PySem.HandSPX.excO C hp.objs.size) := by heap_get
  have I2 := I1.laid (t' := tk) (a := hp.objs.size + 1) (o := exo (hp.objs.size + 1) C none) keep2 grow (exo_ok new)
  have r2 : Vals (V.ref (hp.objs.size + 1) :: (vs ++ dvs)) (Value.ref (hp.objs.size + 1) :: (us ++ ds)) := .cons rfl (r1.append hd)
  have hl : (Value.ref (hp.objs.size + 1) :: us ++ ds).length = ps.length := (r2.length.symm.trans (F1.len _ _ _ _ hq))
  have hus : us.length ≤ sizeLine := by rw [← Paired.length r1, sizeLine_eq]; omega
  refine wpAny_call (PySem.HandSPX.call_own FB hbm hC (PySem.W.looks_findIn I1.kIn iC) (fun self => PySem.W.bind_fn I1.kIn self tI) hus
    (codeAny_mono (F1.run _ X.stack _ _ ⟨Value.ref (hp.objs.size + 1) :: us, []⟩ (Value.ref (hp.objs.size + 1) :: (us ++ ds)) _ _ (fun _ _ _ => False) (hr.make C us []) (I2.env0.make C us []) (hb _ (Value.ref (hp.objs.size + 1) :: us) I2.kIn hl) r2 hq) fun r s' hq' => ?_))
  cases r with
  | error er => exact hx pins σ _ _ er s' I2 hq'
  | ok fl =>
    cases fl with
    | ret u =>
      obtain ⟨v, H2, os2, bare2, un2, hok2, rv, ev, d, fs, ea, ed, hd1, q2⟩ := hq'
      subst ev
      obtain ⟨h2, g2, d2, t2, os'⟩ := s'
      exact ⟨rv, mk_end (raises_own T.exC T.tyC) I1 grow keep2 un2 hok2 os2 bare2 ea ed hd1 q2⟩
    | next => exact False.elim hq'
    | brk => exact False.elim hq'
    | cont => exact False.elim hq'
end
end SB

end

section
set_option Elab.async false
set_option linter.all false
set_option maxRecDepth 100000
set_option maxHeartbeats 4000000
/-! cuts: an assertion between two parts; what the drawing defs of a law promise. -/
namespace SB
open PySem PySem.Spec PyProof.Rows L2
section
variable {X : Cx} {st : Stmt} {rest sts : List Stmt} {e : Expr} {t u : TS} {te : TE} {tt : TT}
def tCut (t u : TS) : TS := fun D σ H => ∃ P : L2.St → Hp → Prop, t { D with nx := P } σ H ∧ ∀ σ' H', P σ' H' → u D σ' H'
/-- a block, an assertion behind its first statement -/
theorem pss_cut (h1 : PS X st t) (h2 : PSs X rest u) : PSs X (st :: rest) (tCut t u) := by
  refine ⟨fun pins s σ H D I ⟨P, h, k⟩ => ?_⟩
  refine wpAny_execs_cons (thn (h1.run pins s σ H { D with nx := P } I h) fun f s1 q => ?_)
  cases f with
  | next => exact let ⟨σ', H', I', q⟩ := q; h2.run pins s1 σ' H' D I' (k σ' H' q)
  | ret v => exact q
  | brk => exact q
  | cont => exact q
def eCut (t : TE) : TE := fun σ H Q => ∃ P : V → Hp → Prop, t σ H P ∧ ∀ v H', P v H' → Q v H'
/-- an expression, what it gives said by an assertion -/
theorem pe_cut (h : PE X e te) : PE X e (eCut te) :=
  ⟨fun pins s σ H Q I ⟨P, h1, k⟩ => thn (h.run pins s σ H P I h1) fun _ _ ⟨v, H', I', r, q⟩ => ⟨v, H', I', r, k v H' q⟩⟩
def bCut (t : TT) : TT := fun σ H Q => ∃ P : Bool → Hp → Prop, t σ H P ∧ ∀ v H', P v H' → Q v H'
theorem pt_cut (h : PT X e tt) : PT X e (bCut tt) :=
  ⟨fun pins s σ H Q I ⟨P, h1, k⟩ => thn (h.run pins s σ H P I h1) fun _ _ ⟨H', I', q⟩ => ⟨H', I', k _ H' q⟩⟩
end

/-- all that stood but what stands at b is as it was -/
def Keep (b : Addr) (H H' : Hp) : Prop := ∀ c o, H c = some o → c ≠ b → H' c = some o
theorem Keep.refl (b : Addr) (H : Hp) : Keep b H H := fun _ _ e _ => e
theorem Keep.trans {b : Addr} {H H1 H2 : Hp} (x : Keep b H H1) (y : Keep b H1 H2) : Keep b H H2 := fun c o e n => y c o (x c o e n) n
theorem Keep.upd {b : Addr} {H H1 : Hp} {o : HO} (x : Keep b H H1) : Keep b H (upd H1 b o) := fun c u e n => by rw [upd_ne n]; exact x c u e n
theorem Keep.new {b p : Addr} {H H1 : Hp} {o : HO} (x : Keep b H H1) (hp : H1 p = none) : Keep b H (L2.upd H1 p o) := fun c u e n => by rw [upd_ne (ne_of_none (x c u e n) hp)]; exact x c u e n
theorem Keep.same {b : Addr} {H H1 H2 : Hp} (x : Keep b H H1) (y : Same H1 H2) : Keep b H H2 := fun c o e n => y c o (x c o e n)
theorem Keep.ofSame {b : Addr} {H H1 : Hp} (y : Same H H1) : Keep b H H1 := fun c o e _ => y c o e
theorem Same.new {p : Addr} {H H1 : Hp} {o : HO} (x : Same H H1) (hp : H1 p = none) : Same H (L2.upd H1 p o) := fun c u e => by rw [upd_ne (ne_of_none (x c u e) hp)]; exact x c u e
/-- the bag of a law: its list of cells, the next one, the rest of a great cell, the mixed number, how many draws -/
def BagAt (H : Hp) (b : Addr) : Prop := ∃ (l : Addr) (ns : List Int) (i g m c : Int), H b = some (.lst [.ref l, .int i, .int g, .int m, .int c]) ∧ H l = some (.lst (ns.map V.int)) ∧ l ≠ b ∧ 0 ≤ i ∧ 0 ≤ g ∧ 0 ≤ m ∧ m < 2147483648
theorem BagAt.same {H H' : Hp} {b : Addr} (x : BagAt H b) (s : Same H H') : BagAt H' b := let ⟨l, ns, i, g, m, c, h1, h2, r⟩ := x; ⟨l, ns, i, g, m, c, s _ _ h1, s _ _ h2, r⟩
def spBag (K : PySem.W.Frag) : Sp := fun vs H Q _ => ∃ (a : Addr) (ns : List Int), vs = [.ref a] ∧ SqL K H a (ns.map V.int) ∧ ns.length ≤ 1000 ∧
  ∀ b H', H b = none → Same H H' → BagAt H' b → Q (.ref b) H'
def spDraw : Sp := fun vs H Q _ => ∃ (b : Addr) (top : Int), vs = [.ref b, .int top] ∧ BagAt H b ∧ 0 < top ∧ top.natAbs.log2 < 9000 ∧
  ∀ d H', 0 ≤ d → d < top → BagAt H' b → Keep b H H' → (∀ c, H c = none → H' c = none) → Q (.int d) H'
/-- one of the items of a list or a tuple -/
def spOf (K : PySem.W.Frag) : Sp := fun vs H Q _ => ∃ (b p : Addr) (xs : List V), vs = [.ref b, .ref p] ∧ BagAt H b ∧ p ≠ b ∧ (SqL K H p xs ∨ SqT K H p xs) ∧ 0 < xs.length ∧ xs.length < 2 ^ 62 ∧
  (∀ H', Keep b H H' → SqL K H p xs → SqL K H' p xs) ∧ (∀ H', Keep b H H' → SqT K H p xs → SqT K H' p xs) ∧
  ∀ v H', v ∈ xs → BagAt H' b → Keep b H H' → (∀ c, H c = none → H' c = none) → Q v H'
end SB

end

section
set_option Elab.async false
set_option linter.all false
set_option maxRecDepth 100000
set_option maxHeartbeats 4000000
namespace SB
open PySem PySem.Spec PyProof.Rows L2
/-- a list comprehension over any walk: an assertion by turns -/
theorem lc_walk {J : It} {n : Nat} {g : TG} {tt : TT} {te : TE} {vs : List Nat} {σ : L2.St} {H1 : Hp} {D : Addr} {Qd : Hp → Prop} (Pv : Nat → Hp → Prop) (h0 : Pv 0 (upd H1 D (.lst [])))
    (hgo : ∀ i H, i < n → Pv i H → J.go i H) (hst : ∀ H, Pv n H → J.stop n H)
    (hs : ∀ i x H H', i < n → Pv i H → J.yld i H x H' → g x (wipe σ vs) H' fun σ2 H2 => wipe σ2 vs = wipe σ vs ∧ tt σ2 H2 fun b H3 =>
      if b = true then te σ2 H3 fun y H4 => ∃ acc, H4 D = some (.lst acc) ∧ acc.length < sizeLine ∧ Pv (i + 1) (upd H4 D (.lst (acc ++ [y]))) else Pv (i + 1) H3)
    (hd : ∀ H, Pv n H → Qd H) :
    ∃ W : Nat → Nat → Hp → Prop, (∃ m, W 0 m (upd H1 D (.lst []))) ∧ ∀ i m H, W i m H →
      (J.stop i H ∧ Qd H) ∨ (J.go i H ∧ ∃ Nx : Hp → Prop, (∀ H', Nx H' → ∃ m', m' < m ∧ W (i + 1) m' H') ∧ ∀ x H', J.yld i H x H' → g x (wipe σ vs) H' fun σ2 H2 => wipe σ2 vs = wipe σ vs ∧ tt σ2 H2 fun b H3 =>
        if b = true then te σ2 H3 fun y H4 => ∃ acc, H4 D = some (.lst acc) ∧ acc.length < sizeLine ∧ Nx (upd H4 D (.lst (acc ++ [y]))) else Nx H3) := by
  refine ⟨fun i m H => i + m = n ∧ Pv i H, ⟨n, by omega, h0⟩, fun i m H ⟨e, p⟩ => ?_⟩
  cases m with
  | zero =>
    obtain rfl : i = n := by omega
    exact .inl ⟨hst H p, hd H p⟩
  | succ m => exact .inr ⟨hgo i H (by omega) p, Pv (i + 1), fun H' p' => ⟨m, by omega, by omega, p'⟩, fun x H' y => hs i x H H' (by omega) p y⟩

/-- values that `_law_same` finds to be the same, n levels deep -/
def Leaf (H : Hp) (x y : V) : Prop := (x = y ∧ flatV x = true) ∨ ∃ a kvs, x = .ref a ∧ y = .ref a ∧ H a = some (.dK kvs) ∧ ∀ p ∈ kvs, valV kvs p.1 = some p.2 ∧ flatB p.2 = true
def Alike (K : PySem.W.Frag) (H : Hp) : Nat → V → V → Prop
  | 0 => fun x y => Leaf H x y
  | n + 1 => fun x y => Leaf H x y ∨ (∃ a b xs ys, x = .ref a ∧ y = .ref b ∧ SqL K H a xs ∧ SqL K H b ys ∧ xs.length < sizeLine ∧ Paired (Alike K H n) xs ys) ∨
      ∃ a b xs ys, x = .ref a ∧ y = .ref b ∧ SqT K H a xs ∧ SqT K H b ys ∧ xs.length < sizeLine ∧ Paired (Alike K H n) xs ys
theorem sqT_same {K : PySem.W.Frag} {H H' : Hp} {a : Addr} {xs : List V} (e : Same H H') (h : SqT K H a xs) : SqT K H' a xs := by
  rcases h with h | h
  · rcases h with h | ⟨o, h⟩
    · exact .inl (.inl (e _ _ h))
    · exact .inl (.inr ⟨o, e _ _ h⟩)
  · exact .inr h
theorem paired_imp {α β : Type} {F G : α → β → Prop} (h : ∀ a b, F a b → G a b) : ∀ {xs : List α} {ys : List β}, Paired F xs ys → Paired G xs ys
  | _, _, .nil => .nil
  | _, _, .cons a t => .cons (h _ _ a) (paired_imp h t)
theorem Leaf.same {H H' : Hp} {x y : V} (s : Same H H') (h : Leaf H x y) : Leaf H' x y := by
  rcases h with h | ⟨a, kvs, h1, h2, h3, h4⟩
  · exact .inl h
  · exact .inr ⟨a, kvs, h1, h2, s _ _ h3, h4⟩
theorem Alike.same {K : PySem.W.Frag} {H H' : Hp} (s : Same H H') : ∀ {n : Nat} {x y : V}, Alike K H n x y → Alike K H' n x y
  | 0, x, y, h => Leaf.same s h
  | n + 1, x, y, h => by
    rcases h with h | ⟨a, b, xs, ys, e1, e2, h1, h2, hz, h3⟩ | ⟨a, b, xs, ys, e1, e2, h1, h2, hz, h3⟩
    · exact .inl (Leaf.same s h)
    · exact .inr (.inl ⟨a, b, xs, ys, e1, e2, s.seq h1, s.seq h2, hz, paired_imp (fun _ _ q => Alike.same s q) h3⟩)
    · exact .inr (.inr ⟨a, b, xs, ys, e1, e2, sqT_same s h1, sqT_same s h2, hz, paired_imp (fun _ _ q => Alike.same s q) h3⟩)
theorem Alike.succ {K : PySem.W.Frag} {H : Hp} : ∀ {n : Nat} {x y : V}, Alike K H n x y → Alike K H (n + 1) x y
  | 0, x, y, h => .inl h
  | n + 1, x, y, h => by
    rcases h with h | ⟨a, b, xs, ys, e1, e2, h1, h2, hz, h3⟩ | ⟨a, b, xs, ys, e1, e2, h1, h2, hz, h3⟩
    · exact .inl h
    · exact .inr (.inl ⟨a, b, xs, ys, e1, e2, h1, h2, hz, paired_imp (fun _ _ q => Alike.succ q) h3⟩)
    · exact .inr (.inr ⟨a, b, xs, ys, e1, e2, h1, h2, hz, paired_imp (fun _ _ q => Alike.succ q) h3⟩)
theorem paired_len {α β : Type} {F : α → β → Prop} : ∀ {xs : List α} {ys : List β}, Paired F xs ys → xs.length = ys.length
  | _, _, .nil => rfl
  | _, _, .cons _ t => congrArg (· + 1) (paired_len t)
theorem paired_at {α β : Type} {F : α → β → Prop} : ∀ {xs : List α} {ys : List β} {i : Nat} {x : α} {y : β}, Paired F xs ys → xs[i]? = some x → ys[i]? = some y → F x y
  | _, _, 0, x, y, .cons a _, h1, h2 => by
    cases Option.some.inj h1
    cases Option.some.inj h2
    exact a
  | _, _, i + 1, x, y, .cons _ t, h1, h2 => paired_at (i := i) t (by simpa using h1) (by simpa using h2)
  | _, _, _, _, _, .nil, h1, _ => by simp at h1
def spSame (K : PySem.W.Frag) : Nat → Sp
  | 0 => fun _ _ _ _ => False
  | n + 1 => fun vs H Q _ => ∃ x y, vs = [x, y] ∧ Alike K H n x y ∧ ∀ H', Same H H' → Q (.bl true) H'
/-- the types -/
theorem ty_list {K : PySem.W.Frag} {H : Hp} {a : Addr} {xs : List V} (h : SqL K H a xs) : TyX K H (.ref a) (.type "list") := by
  rcases h with (h | ⟨o, h⟩) | ⟨o, its, n, h, hc, _⟩
  · exact .base (.lst h)
  · exact .base (.frz h)
  · exact .kList h hc
theorem ty_tup {K : PySem.W.Frag} {H : Hp} {a : Addr} {xs : List V} (h : SqT K H a xs) : TyX K H (.ref a) (.type "tuple") := by
  rcases h with (h | ⟨o, h⟩) | ⟨o, its, n, h, hc, _⟩
  · exact .base (.tup h)
  · exact .fTuple h
  · exact .kTuple h hc
/-- the built-in type of a value -/
inductive Ty (K : PySem.W.Frag) (H : Hp) (x : V) (T : String) : Prop where
  | mk (h : TyX K H x (.type T)) : Ty K H x T
end SB

end

section
set_option Elab.async false
set_option linter.all false
set_option maxRecDepth 100000
set_option maxHeartbeats 4000000
namespace SB
open PySem PySem.Spec PyProof.Rows L2
theorem tyX_same {K : PySem.W.Frag} {H H' : Hp} {x : V} {t : Value} (s : Same H H') (h : TyX K H x t) : TyX K H' x t := by
  cases h with
  | base h =>
    refine .base ?_
    cases h with
    | non => exact .non
    | bl b => exact .bl b
    | int i => exact .int i
    | str z => exact .str z
    | flt z => exact .flt z
    | lst e => exact .lst (s _ _ e)
    | frz e => exact .frz (s _ _ e)
    | tup e => exact .tup (s _ _ e)
    | dK e => exact .dK (s _ _ e)
    | dT e => exact .dT (s _ _ e)
    | ins e cl ha hn ht hm => exact .ins (s _ _ e) cl ha hn ht hm
  | byt b => exact .byt b
  | set e => exact .set (s _ _ e)
  | kList e c => exact .kList e c
  | kTuple e c => exact .kTuple e c
  | kDict e c => exact .kDict e c
  | fTuple e => exact .fTuple (s _ _ e)
  | fDict e => exact .fDict (s _ _ e)
/-- isinstance(x, (list, tuple)); isinstance(x, T) -/
abbrev tIsLT (K : PySem.W.Frag) (i : Nat) : TE := tCB (rIsiT K) (tCons (tVar i) (tCons (tTup (tCons (tC (.ty "list")) (tCons (tC (.ty "tuple")) tNil))) tNil))
abbrev tIs (K : PySem.W.Frag) (i : Nat) (T : String) : TE := tCB (rIsi K) (tCons (tVar i) (tCons (tC (.ty T)) tNil))
theorem rd_isLT {K : PySem.W.Frag} {i : Nat} {σ : L2.St} {H : Hp} {Q : VK} {x : V} {T : String} {b : Bool} (e : σ[i]? = some (some x)) (ty : TyX K H x (.type T)) (hk : PySem.W.kitAny K (.type T) [.type "list", .type "tuple"] = some b)
    (k : ∀ H', Same H H' → Q (.bl b) H') : tIsLT K i σ H Q :=
  ⟨x, e, (by show 2 ≤ sizeLine; decide), fun p hp => ⟨x, p, _, _, _, b, rfl, upd_same, .cons (.ty _) (.cons (.ty _) .nil), tyX_same (Same.new (Same.refl H) hp) ty, hk, k _ (Same.new (Same.refl H) hp)⟩⟩
theorem rd_is {K : PySem.W.Frag} {i : Nat} {σ : L2.St} {H : Hp} {Q : VK} {x : V} {T U : String} {b : Bool} (e : σ[i]? = some (some x)) (ty : TyX K H x (.type U)) (hk : kitB U T = some b)
    (k : Q (.bl b) H) : tIs K i T σ H Q :=
  ⟨x, e, x, .ty T, _, _, b, rfl, .ty T, ty, kit_ty hk, k⟩
theorem lt_of {K : PySem.W.Frag} {U : String} {b c : Bool} (h1 : kitB U "list" = some b) (h2 : kitB U "tuple" = some c) : PySem.W.kitAny K (.type U) [.type "list", .type "tuple"] = some (b || c) := by
  refine kitAny_cons (kit_ty h1) (fun hb => kitAny_cons (kit_ty h2) (fun hc => ?_) (fun hc => ?_)) (fun hb => ?_)
  · rw [hb, hc]; exact kitAny_nil
  · rw [hb, hc]; rfl
  · rw [hb]; rfl
end SB

end

section
set_option Elab.async false
set_option linter.all false
set_option maxRecDepth 100000
set_option maxHeartbeats 4000000
namespace SB
open PySem PySem.Spec PyProof.Rows L2
section
variable {X : Cx} {CX : CXT} {x : Str} {f : Addr} {k : Nat} {fd : FuncData} {ps ks : List Str} {sp : Sp} {g : List Value → List Value → List Value} {gV : List V → List V → List V} {E : L2.St → XK} {kws : List Keyword} {p pos : Pos} {tk : TA}
/-- f(k = e, ..): what is raised is wished for at the caller's slots -/
def tKW (sp : Sp) (gV : List V → List V → List V) (E : L2.St → XK) (tk : TA) : TE := fun σ H Q => tk σ H fun zs H2 => sp (gV [] zs) H2 Q (E σ)
theorem pe_callKW (F : FnOk X.prog X.w X.K X.mg X.base CX k f fd ps sp) (hr : Room k X.A) (hg : Gl X x) (hm : X.mg x = some (.ref f)) (hk : PySem.W.keepIn X.K (.ref f) = true) (hb : KBinds X.K fd ps ks g gV) (hx : ∀ σ, PassesAt CX X σ (E σ))
    (hkw : PK X kws tk) (hall : (backToKw pos (keywordEach kws X.env)).all (·.1.isSome) = true := by rfl) (hks : (backToKw pos (keywordEach kws X.env)).filterMap (·.1) = ks := by rfl)
    (hdb : (x == ("__debug__" : Str)) = false := by decide)
    (hpl : ((backTo pos (starEach [] X.env)).any (·.1) || (backToKw pos (keywordEach kws X.env)).any (·.1.isNone)) = false := by rfl) :
    PE X (.Call (.Name x p) [] kws pos) (tKW sp gV E tk) := by
  refine ⟨fun pins s σ H Q I h => ?_⟩
  refine wpAny_Call_Name_kw (ld_glob I hg hm ?_ hdb)
  refine PySem.W.callWith_KW0 (h₀ := X.base) I.ok.mod.kin hk hall ?_ hpl
  refine thn (hkw.run pos pins s σ H _ I h) fun ws s2 ⟨zs, H2, I2, rz, q2⟩ => ⟨I2.kIn, ?_⟩
  rw [hks]
  have r2 := hb.rel (vs := []) .nil rz
  have hl : (g [] ws).length = ps.length := r2.length.symm.trans (F.len _ _ _ _ q2)
  refine wpAny_call (codeAny_mono (F.run X.A X.stack s2 H2 ⟨[], ks.zip ws⟩ (g [] ws) (gV [] zs) Q (E σ) hr I2.env0 (hb.to s2 [] ws I2.kIn hl) r2 q2) fun r s' hq => ?_)
  cases r with
  | error e => exact hx σ pins H2 s2 e s' I2 hq
  | ok fl =>
    cases fl with
    | ret u => exact I2.after hq
    | next => exact False.elim hq
    | brk => exact False.elim hq
    | cont => exact False.elim hq
end
/-- what an __init__ of an exception promises: its fields, the last one first -/
def spX (C : Addr) (n : Nat) (fs : List V → List (Str × V)) : Sp := fun vs H Q _ => ∃ (a : Addr) (ws : List V), vs = .ref a :: ws ∧ ws.length = n ∧ H a = some (exo a C none) ∧
  ∀ d H', H d = none → d ≠ a → H' a = some (exo a C (some d)) → H' d = some (exd d (fs ws)) → (∀ c, c ≠ a → c ≠ d → H' c = H c) → Q .non H'
/-- raise C(..): the exception with its dict at d -/
theorem rd_raise {C : Addr} {n : Nat} {fs : List V → List (Str × V)} {vs : List V} {H1 : Hp} {Q : XK} (hl : vs.length = n) (hn : n ≤ 1000) (k : ∀ d, H1 d = none → Q (.ref C) (some d) (upd H1 d (.xd (fs vs)))) :
    vs.length ≤ 1000 ∧ ∀ a, H1 a = none → spX C n fs (.ref a :: (vs ++ [])) (upd H1 a (exo a C none))
      (fun v H2 => v = .non ∧ ∃ (d : Addr) (fs : List (Str × V)), H2 a = some (exo a C (some d)) ∧ H2 d = some (exd d fs) ∧ H1 d = none ∧ Q (.ref C) (some d) (upd (del H2 a) d (.xd fs))) (fun _ _ _ => False) := by
  refine ⟨by omega, fun a ha => ⟨a, vs, by rw [List.append_nil], hl, upd_same, fun d H' hd hda h1 h2 h3 => ⟨rfl, d, fs vs, h1, h2, ?_, ?_⟩⟩⟩
  · rw [upd_ne hda] at hd; exact hd
  · rw [upd_ne hda] at hd
    have e : upd (del H' a) d (.xd (fs vs)) = upd H1 d (.xd (fs vs)) := by
      funext c
      by_cases hc : c = d
      · rw [hc, upd_same, upd_same]
      · rw [upd_ne hc, upd_ne hc]
        by_cases hca : c = a
        · rw [hca, del_same, ha]
        · rw [del_ne hca, h3 c hca hc, upd_ne hca]
    rw [e]
    exact k d hd
/-- all that a text's exception class is asked for -/
structure XFacts (K : PySem.W.Frag) (mg : Str → Option Value) (name : Str) (C fI : Addr) (bmB : List Value) (newId : String) : Prop where
  T : ExCls K C bmB newId
  F : XfC K C
  g : mg name = some (.ref C)
  iC : PySem.W.findIn K (.ref C) "__init__" = some (some (.ref fI))
  tI : PySem.W.typeIn K (.ref fI) = some (.type "function")
  nC : PySem.W.findIn K (.ref C) "code" = some none
  me : PySem.W.exmOne K (.ref C) (.ref C) = some true
end SB

end

section
set_option Elab.async false
set_option linter.all false
set_option maxRecDepth 100000
set_option maxHeartbeats 4000000
/-! repr of data; the law's own def at the caller, where no guard stands. -/
namespace SB
open PySem PySem.Spec PyProof.Rows L2
def keyD : Key → PyData
  | .inl i => .int i
  | .inr x => .str x
def flatD : V → PyData
  | .bl b => .bool b
  | .int i => .int i
  | .str x => .str x
  | _ => .none
inductive Sh (K : PySem.W.Frag) (H : Hp) : V → PyData → Prop
  | dp {v : V} {d : PyData} (h : Dp K H v d) (hd : d.hasDict = false) : Sh K H v d
  | dct {a : Addr} {kvs : List (Key × V)} (h : H a = some (.dK kvs)) (hf : ∀ p ∈ kvs, flatV p.2 = true) : Sh K H (.ref a) (.dict (kvs.map fun p => (keyD p.1, flatD p.2)))
theorem reads_flat {h : Heap} {v : V} {u : Value} (r : RelV v u) (f : flatV v = true) : Reads h u (flatD v) [] := by
  cases v with
  | non => cases (show u = Value.none from r); exact .none
  | bl b => cases (show u = Value.bool b from r); exact .bool b
  | int i => obtain ⟨t, rfl⟩ := (show ∃ t, u = Value.int i t from r); exact .int i t
  | str x => obtain ⟨t, rfl⟩ := (show ∃ t, u = Value.str x t from r); exact .str x t
  | byt q => cases f
  | flt q => cases f
  | ref q => cases f
  | ty q => cases f
theorem reads_kvs {P : Program} {w : World} {h : Heap} : ∀ {kvs : List (Key × V)} {vs : List (Key × Value)} {es : List DictEntry}, KV kvs vs → Pairs (mixKind P w) es vs → (∀ p ∈ kvs, flatV p.2 = true) →
    ReadsAll h (es.map (·.key)) ((kvs.map fun p => (keyD p.1, flatD p.2)).map (·.1)) [] ∧ ReadsAll h (es.map (·.val)) ((kvs.map fun p => (keyD p.1, flatD p.2)).map (·.2)) []
  | [], _, _, .nil, .nil, _ => ⟨.nil, .nil⟩
  | (k, v) :: kvs, (k', u) :: vs, e :: es, .cons ⟨h1, h2⟩ t, .cons p1 p2 p3, f => by
    obtain ⟨i1, i2⟩ := reads_kvs (P := P) (w := w) (h := h) t p3 fun p hp => f p (List.mem_cons_of_mem _ hp)
    have hk : Reads h e.key (keyD k) [] := by
      have h1' : k = k' := h1
      subst h1'
      have p1' : keyIs k e.key = true := p1
      rcases keyIs_shape p1' with ⟨i, t, e1, e2⟩ | ⟨x, t, e1, e2⟩
      · rw [e1, e2]; exact .int i t
      · rw [e1, e2]; exact .str x t
    have hv : Reads h e.val (flatD v) [] := by
      have p2' : e.val = u := p2
      rw [p2']
      exact reads_flat h2 (f _ (List.mem_cons_self ..))
    exact ⟨ReadsAll.cons (as := []) (bs := []) hk i1, ReadsAll.cons (as := []) (bs := []) hv i2⟩
section
variable {X : Cx}
theorem sh_reads {pins : List (Addr × Obj)} {σ : L2.St} {H : Hp} {s : Shared} (I : Inv X pins σ H s) {v : V} {u : Value} {d : PyData} (h : Sh X.K H v d) (r : RelV v u) : ∃ as, Reads s.heap u d as ∧ (d.hasDict = true → sysModules ∉ as) := by
  cases h with
  | dp h hd =>
    obtain ⟨as, q⟩ := Dp.reads I _ _ _ h r
    exact ⟨as, q, fun z => by rw [hd] at z; cases z⟩
  | @dct a kvs h hf =>
    cases (show u = Value.ref a from r)
    obtain ⟨hz, hs, vs, kv, o, es, ep, ho, ⟨hc, _⟩, hd, _, hp, _⟩ := I.hok a _ h
    obtain ⟨i1, i2⟩ := reads_kvs (h := s.heap) kv hp hf
    refine ⟨_, Reads.dict (as := []) (bs := []) ho hc hd i1 i2, fun _ hm => ?_⟩
    have e : sysModules = a := by simpa using hm
    rw [e] at hs
    simp at hs
/-- repr(x): its text, by the data alone -/
def rRepr (K : PySem.W.Frag) : List V → Hp → VK → Prop := fun xs H Q => ∃ v d, xs = [v] ∧ Sh K H v d ∧ d.showable = true ∧ d.shown.length ≤ sizeLine ∧ d.depth ≤ 8 ∧ Q (.str d.shown) H
theorem cr_repr (hg : X.A.guards = some []) (hu : X.A.units + 40 < cLine) : CallR X (.builtin "repr") (rRepr X.K) := by
  intro pins s σ H xs us Q I r h
  obtain ⟨v, d, rfl, sh, hs, hz, hd, q⟩ := h
  obtain ⟨u, rfl, ru⟩ := vals1 r
  have fin : ∀ (h' : Heap) (t : Tok) (tk : Nat), (∀ b o, s.heap.get? b = some o → h'.get? b = some o) → EP X pins σ Q (.str d.shown t) { s with heap := h', toks := tk } := fun h' t tk k => ⟨.str d.shown, H, I.kept k, ⟨t, rfl⟩, q⟩
  obtain ⟨as, rd, hsm⟩ := sh_reads I sh ru
  cases rd with
  | none => exact P.repr_of_none (fin s.heap _ _ fun _ _ e => e)
  | bool b => exact P.repr_of_bool (fin s.heap _ _ fun _ _ e => e)
  | int i t => exact P.repr_of_int (by simpa [PyData.showable] using hs) (fin s.heap _ _ fun _ _ e => e)
  | str x t => exact P.repr_of_str (fin s.heap _ _ fun _ _ e => e) hz
  | list a1 a2 a3 a4 => exact repr_of_reads' (.list a1 a2 a3 a4) hs hsm hg (by omega) (fun _ _ e => e) (fun h' t tk k => fin h' t tk k) hz
  | tuple a1 a2 a3 a4 => exact repr_of_reads' (.tuple a1 a2 a3 a4) hs hsm hg (by omega) (fun _ _ e => e) (fun h' t tk k => fin h' t tk k) hz
  | dict a1 a2 a3 a4 a5 => exact repr_of_reads' (.dict a1 a2 a3 a4 a5) hs hsm hg (by omega) (fun _ _ e => e) (fun h' t tk k => fin h' t tk k) hz
end
end SB

end

section
set_option Elab.async false
set_option linter.all false
set_option maxRecDepth 100000
set_option maxHeartbeats 4000000
/-! the law's own def, entered where the row calls it (callerA): there no frame and no guard stands. -/
namespace SB
open PySem PySem.Spec PyProof.Rows L2
/-- what a def of one name keeps when it is entered at the caller -/
structure AtCaller (P : Program) (w : World) (K : PySem.W.Frag) (mg : Str → Option Value) (base : Heap) (f : Addr) (fd : FuncData) (x : Str) (sp : Sp) : Prop where
  run : ∀ (s : Shared) (H : Hp) (u : Value) (v : V) (Q : VK), Env0 P w K mg base callerA [] s H → RelV v u → BindsTo s fd ⟨[u], []⟩ [(x, u)] → sp [v] H Q (fun _ _ _ => False) →
    codeAny (model P w) callerA (.call (.ref f) ⟨[u], []⟩) (CR CX0 [] P w H s Q (fun _ _ _ => False)) s
theorem caller_ok {P : Program} {w : World} {K : PySem.W.Frag} {mg : Str → Option Value} {base : Heap} {k : Nat} {f : Addr} {fd : FuncData} {nm qual x : Str} {st : Stmt} {N : List Str} {sp : Sp} (F : Fun K nm qual st f fd) (S : FnScope N [x] (defScope st)) (room : Room (k + 1) callerA)
    (hbody : ∀ (cdv : Value) (s : Shared) (H : Hp) (v : V) (Q : VK), Room k (callerA.deeper (PyProof.Rows.envOfC qual (defScope st) s.heap.objs.size f cdv)) → sp [v] H Q (fun _ _ _ => False) →
      ∃ t, PSs (cxOf CX0 P w K mg base N qual (defScope st) f cdv callerA [] s H (fun _ _ _ => False)).nox (defBody st) t ∧ t { nx := fun _ H' => Q .non H', rt := Q } (L2.start N [v]) H) : AtCaller P w K mg base f fd x sp := by
  obtain ⟨⟨oc, od, kV, doc, pm, an, cdv, ct, osl, rfl, lk, hcd⟩, _⟩ := F
  refine ⟨fun s H u v Q e0 ruv hb hsp => ?_⟩
  have KX : K.In s.heap := e0.mod.kin.keeps fun b o e => (e0.bs b o e).1
  have lim : s.heap.NoLimit := e0.mod.nolimit.keeps fun b o e => (e0.bs b o e).1
  have kinds : ∀ y ∈ [(x, u)], (defScope st).names.lookup y.1 = some .local ∨ ((defScope st).names.lookup y.1 = some .cell ∧ ((cellsFrom (s.heap.objs.size + 1) (defScope st).names []).lookup y.1).isSome = true) := fun y hy => by
    obtain rfl := List.mem_singleton.mp hy
    rcases S.par x (List.mem_singleton.mpr rfl) with q | q
    · exact .inl q
    · exact .inr ⟨q, PySem.W.cellsFrom_some _ _ _ (.inl q)⟩
  refine codeAny_call_function room.depth (KX _ _ lk) rfl S.co S.gen rfl (PySem.W.codeRec_of KX hcd) (hb _ _ _ _ ?_)
  refine wpAny_newFunctionEnv_cells S.kind kinds fun env he s1 y => ?_
  subst he
  refine ⟨lim.keeps y.toInCall.keep, codeAny_func ?_⟩
  obtain ⟨t, ht, hq⟩ := hbody cdv s H v Q (room.deeper _) hsp
  have I : Inv (cxOf CX0 P w K mg base N qual (defScope st) f cdv callerA [] s H (fun _ _ _ => False)) [] (L2.start N [v]) H s1 := inv_start S room.hd e0 rfl (.cons ruv .nil) y
  refine wpAny_mono ((PSs.nox ht).run [] s1 (L2.start N [v]) H _ I hq) (fun fl s' hs => ?_) fun e s' hs => hs
  have out : ∀ {σ' : L2.St} {H' : Hp} {v' : V} {u' : Value}, Inv (cxOf CX0 P w K mg base N qual (defScope st) f cdv callerA [] s H (fun _ _ _ => False)) [] σ' H' s' → RelV v' u' → Q v' H' → CE [] P w H s Q u' s' :=
    fun {_ H' v' _} J rv q => ⟨v', H', J.os, J.bare, J.base, J.hok, rv, q⟩
  cases fl with
  | ret u' => exact let ⟨_, _, _, J, rv, q⟩ := hs; out J rv q
  | next => exact let ⟨_, _, J, q⟩ := hs; out (v' := V.non) (u' := Value.none) J rfl q
  | brk => exact let ⟨_, _, _, q⟩ := hs; False.elim q
  | cont => exact let ⟨_, _, _, q⟩ := hs; False.elim q

/-- the row's call, from that -/
theorem caller_call {P : Program} {w : World} {K : PySem.W.Frag} {mg mb : Str → Option Value} {fa a : Addr} {fd : FuncData} {x : Str} {sp : Sp} {s₁ : Shared} {vs : List Value} {ns : List Int}
    (KX : K.In s₁.heap) (hns : s₁.heap.Ns mainGlobals mg) (hb : s₁.heap.Ns builtinsNs mb) (hbb : ∀ x : Str, x ≠ "__name__" → mb x = bootBuiltins x) (hlim : s₁.heap.NoLimit) (hg : s₁.gens = #[])
    (ha : s₁.heap.get? a = some { cls := .type "list", data := .seq vs.toArray }) (hi : IntsAre vs ns) (hl : ns.length ≤ sizeLine)
    (F : ∀ base : Heap, K.In base → base.Ns mainGlobals mg → AtCaller P w K mg base fa fd x sp) (hbind : ∀ (s : Shared) (u : Value), BindsTo s fd ⟨[u], []⟩ [(x, u)])
    (hsp : ∀ H : Hp, SqL K H a (ns.map V.int) → sp [.ref a] H (fun v _ => v = .bl true) fun _ _ _ => False) :
    codeAny (model P w) callerA (.call (.ref fa) ⟨[.ref a], []⟩) (fun r s' => r = .ok (.ret (.bool true)) ∧ OldK s₁.heap s'.heap ∧ s'.os = s₁.os ∧ AllBare s'.gens) s₁ := by
  have rv := vals_ints hi
  have same_len := hi.length
  -- H tracks the script at most, and as it stands
  have go : ∀ H : Hp, (∀ b, H b = none ∨ (b = a ∧ ∃ o xs, H b = some (.frz o (.lst xs)))) → (H a ≠ none → K.lookup a = none) → SqL K H a (ns.map V.int) → HOk P w H s₁.heap →
      codeAny (model P w) callerA (.call (.ref fa) ⟨[.ref a], []⟩) (fun r s' => r = .ok (.ret (.bool true)) ∧ OldK s₁.heap s'.heap ∧ s'.os = s₁.os ∧ AllBare s'.gens) s₁ := by
    intro H only own hS hok
    have isA : ∀ {b : Addr}, H b ≠ none → b = a := fun {b} z => (only b).elim (fun q => absurd q z) And.left
    have bare : ∀ {b : Addr} {m : Str → Option Value}, s₁.heap.Ns b m → (hidT s₁.heap H).Ns b m := fun {b m} ⟨o, es, ep, e, d, r⟩ => ⟨o, es, ep, hidT_get e (by
      cases q : H b with
      | none => rfl
      | some u =>
        obtain rfl := isA (b := b) (by rw [q]; simp)
        rw [ha] at e
        cases e
        have d' : Data.seq vs.toArray _ = Data.dict es ep := d
        cases d'), d, r⟩
    have inK : K.In (hidT s₁.heap H) := fun b o e => hidT_get (KX b o e) (by
      cases q : H b with
      | none => rfl
      | some u =>
        obtain rfl := isA (b := b) (by rw [q]; simp)
        rw [own (by rw [q]; simp)] at e
        cases e)
    have M : Mod K mg (hidT s₁.heap H) := ⟨inK, bare hns, ⟨mb, bare hb, hbb⟩, let ⟨mc, h1, h2⟩ := hlim; ⟨mc, bare h1, h2⟩⟩
    have e0 : Env0 P w K mg (hidT s₁.heap H) callerA [] s₁ H := ⟨rfl, M, fun b o e => of_hidT e, Nat.le_of_eq (hidT_size _ _), trivial, fun b hb => absurd (show b ∈ ([] : List Addr) from hb) (by simp), hok, .of_eq hg⟩
    refine codeAny_mono ((F _ inK (bare hns)).run s₁ H (.ref a) (.ref a) _ e0 rfl (hbind s₁ (.ref a)) (hsp H hS)) fun r s' h => ?_
    match r, h with
    | .ok (.ret u), ⟨v, H', os, bg, un, hok', r', q⟩ =>
      have q' : v = .bl true := q
      subst q'
      obtain rfl : u = Value.bool true := r'
      refine ⟨rfl, OldK.of_keep fun b o e => ?_, os, bg⟩
      rcases only b with z | ⟨_, ob, xs, z⟩
      · exact un.keep b o e z (fun y => absurd (show b ∈ ([] : List Addr) from y) (by simp)) (by simp)
      · obtain ⟨e1, _⟩ := hok b _ z
        obtain ⟨e2, _⟩ := hok' b _ (un.frzs b ob _ z)
        rw [e] at e1
        cases e1
        exact e2
    | .error e, h => exact False.elim h
  cases hk : K.lookup a with
  | some o =>
    have e := KX a o hk
    rw [ha] at e
    cases e
    exact go (fun _ => none) (fun _ => .inl rfl) (fun z => absurd rfl z) (.inr ⟨_, vs.toArray, _, hk, rfl, rfl, rfl, by rw [List.size_toArray, same_len]; exact hl, by simpa using rv⟩) (fun b u z => nomatch (show (none : Option HO) = some u from z))
  | none =>
    have at_ : ∀ b, b ≠ a → (if b = a then some (HO.frz { cls := .type "list", data := .seq vs.toArray } (.lst (ns.map V.int))) else none) = none := fun b hb => if_neg hb
    refine go (fun b => if b = a then some (.frz { cls := .type "list", data := .seq vs.toArray } (.lst (ns.map V.int))) else none) (fun b => ?_) (fun _ => hk) (.inl (.inr ⟨{ cls := .type "list", data := .seq vs.toArray }, if_pos rfl⟩)) (fun b u z => ?_)
    · by_cases hb : b = a
      · exact .inr ⟨hb, _, _, if_pos hb⟩
      · exact .inl (at_ b hb)
    · by_cases hb : b = a
      · cases (if_pos hb).symm.trans z
        subst hb
        exact ⟨ha, by rw [List.length_map]; exact hl, vs, _, rv, ha⟩
      · cases (at_ b hb).symm.trans z
theorem caller_walk {l : PySem.W.OpenLaw} {n : Nat} {q : Program} {loose : List Str} {XP : (Str → Option Value) → Heap → Prop} {YP : World → Heap → Prop} {d : DefRec} {K : Params → PySem.W.Frag} {sp : World → Sp} {x : Str}
    (hn : l.most = some n) (hn2 : n ≤ sizeLine) (hdf : d.params.defaults = []) (hY : ∀ (w : World) (h : Heap), YP w h → (K w.params).In h)
    (F : ∀ (w : World) (mg : Str → Option Value) (fa : Addr) (h : Heap), (K w.params).In h → h.Ns mainGlobals mg → mg d.name = some (.ref fa) →
      ∃ fd : FuncData, (∀ (s : Shared) (u : Value), BindsTo s fd ⟨[u], []⟩ [(x, u)]) ∧ ∀ base : Heap, (K w.params).In base → base.Ns mainGlobals mg → AtCaller l.prog w (K w.params) mg base fa fd x (sp w))
    (hsp : ∀ (w : World) (H : Hp) (a : Addr) (ns : List Int), ns.length ≤ n → SqL (K w.params) H a (ns.map V.int) → sp w [.ref a] H (fun v _ => v = .bl true) fun _ _ _ => False) :
    PySem.W.WalkO q loose XP YP l.row.toRowW d [] (fun f vs => PySem.call f vs) := by
  refine Att.attach_call hn hdf fun w s₀ s₁ mg mb fa o pm cd doc a vs ns G Y ho hd hcd hmg hobj hints hlen hg => ?_
  obtain ⟨fd, hb, hF⟩ := F w mg fa _ (hY w _ Y) G.T.g hmg
  exact caller_call (hY w _ Y) G.T.g G.T.b G.T.builtins G.T.nolimit hg hobj hints (Nat.le_trans hlen hn2) hF hb fun H hS => hsp w H a ns hlen hS
end SB

end

section
set_option Elab.async false
set_option linter.all false
set_option maxRecDepth 100000
set_option maxHeartbeats 4000000
/-! small texts; a text read backward. -/
namespace SB
open PySem PySem.Spec PyProof.Rows L2
/-- a small text -/
def Sm (n : Nat) (z : Str) : Prop := z.length ≤ n ∧ ∀ c ∈ z.cps.toList, c < 1114112
theorem Sm.app {m n : Nat} {x y : Str} (a : Sm m x) (b : Sm n y) : Sm (m + n) (x ++ y) := by
  refine ⟨by rw [Str.length_append]; exact Nat.add_le_add a.1 b.1, fun c hc => ?_⟩
  rw [Str.cps_append, Array.toList_append, List.mem_append] at hc
  exact hc.elim (a.2 c) (b.2 c)
theorem Sm.cut {n : Nat} {z : Str} (a : Sm n z) (lo hi : Option Int) : Sm n (cutS z lo hi) := by
  refine ⟨Nat.le_trans (cutS_length z lo hi) a.1, fun c hc => a.2 c ?_⟩
  unfold cutS at hc
  exact List.mem_of_mem_drop (List.mem_of_mem_take (by simpa using hc))
theorem Sm.mono {m n : Nat} {z : Str} (a : Sm m z) (h : m ≤ n) : Sm n z := ⟨Nat.le_trans a.1 h, a.2⟩
theorem Sm.repr {n : Nat} {z : Str} (a : Sm n z) : (reprText z).length ≤ 10 * n + 2 := by
  have := PySem.StrLaws.reprText_len z fun c hc => Nat.lt_of_lt_of_le (a.2 c hc) (by decide)
  have := a.1
  omega
theorem Sm.line {n : Nat} {z : Str} (a : Sm n z) (h : n ≤ 1000000) : z.length ≤ sizeLine := by
  have := a.1
  rw [sizeLine_eq]
  omega
/-- t[::-1]: some text, no longer, of the same signs -/
def tRevS (te : TE) : TE := fun σ H Q => te σ H fun x H1 => ∃ z n, x = .str z ∧ Sm n z ∧ n ≤ 1000000 ∧ ∀ y, Sm n y → Q (.str y) H1
theorem back_len (n : Nat) : (Builtin.Str.strSliceIndices none none (-1) n).length ≤ n := by
  unfold Builtin.Str.strSliceIndices sliceRange
  simp only [List.length_map, List.length_range]
  split
  · split <;> omega
  · split
    · have e : ((n : Int) - 1 - -1 - -1 - 1) / - -1 = (n : Int) := by
        rw [show - (-1 : Int) = 1 from rfl, Int.ediv_one]
        omega
      simp_all
    · omega
theorem pe_revS {X : Cx} {e : Expr} {te : TE} {k : Nat} {p1 p2 p3 pos : Pos} (he : PE X e te) : PE X (.Subscript e (.Slice none none (some (.UnaryOp .USub (.Constant (.int 1) k p1) p2)) p3) pos) (tRevS te) := by
  refine ⟨fun pins s σ H Q I h => ?_⟩
  refine Subscript_ (thn (he.run pins s σ H _ I h) fun v s1 ⟨x, H1, I1, r1, z, n, ex, sm, hn, q⟩ => ?_)
  subst ex
  obtain ⟨t, rfl⟩ := r1
  have step : PO X (some (.UnaryOp .USub (.Constant (.int 1) k p1) p2)) (tPart (tUn (rU fun i => .int (-i)) (tC (.int 1)))) := po_some (pe_un un_neg pe_int)
  refine wpAny_Slice (thn (po_none.run pins s1 σ H1 (fun o H2 => o = none ∧ H2 = H1) I1 ⟨rfl, rfl⟩) fun vl s2 ⟨l, H2, I2, pl, el, e2⟩ => ?_)
  subst el e2
  refine thn (po_none.run pins s2 σ H2 (fun o H3 => o = none ∧ H3 = H2) I2 ⟨rfl, rfl⟩) fun vu s3 ⟨u, H3, I3, pu, eu, e3⟩ => ?_
  subst eu e3
  refine thn (step.run pins s3 σ H3 (fun o H4 => o = some (-1) ∧ H4 = H3) I3 ⟨1, rfl, -1, rfl, rfl, rfl⟩) fun vs s4 ⟨o, H4, I4, ps, eo, e4⟩ => ?_
  subst eo e4
  have I5 : Inv X pins σ H4 { s4 with heap := s4.heap.push { cls := .type "slice", data := .fields #[vl, vu, vs] } } := I4.kept (t' := s4.toks) fun b ob q => Heap.get?_push_of_some _ q
  show wpAny (model X.prog X.w) X.A (subscriptTail e (.Slice none none (some (.UnaryOp .USub (.Constant (.int 1) k p1) p2)) p3) (.str z t) (.ref s4.heap.objs.size)) (EP X pins σ Q) X.xe { s4 with heap := s4.heap.push { cls := .type "slice", data := .fields #[vl, vu, vs] } }
  refine tail_any (ops := [.str z t, .ref s4.heap.objs.size]) (typeIs_str _ _ _) (F.slot_str_getitem.lookup) ?_ (by with_unfolding_all rfl)
  cases pl
  cases pu
  cases ps with
  | int _ t' =>
    refine wpAny_getItem_str_slice (l := none) (u := none) (st := some (-1, t')) ⟨_, Heap.get?_push_size _ rfl, rfl, rfl⟩ rfl ?_
    show Made.post (if ((-1 : Int) == 1 && (Builtin.Str.strSliceIndices none none (-1) z.length).length == z.length) = true then Made.val (.str z t)
      else Made.str ⟨((Builtin.Str.strSliceIndices none none (-1) z.length).filterMap (z.cps[·]?)).toArray⟩) _ _
    rw [if_neg (by simp)]
    have sm' : Sm n (⟨((Builtin.Str.strSliceIndices none none (-1) z.length).filterMap (z.cps[·]?)).toArray⟩ : Str) := by
      refine ⟨?_, fun c hc => ?_⟩
      · show ((Builtin.Str.strSliceIndices none none (-1) z.length).filterMap (z.cps[·]?)).toArray.size ≤ n
        rw [List.size_toArray]
        exact Nat.le_trans (List.length_filterMap_le _ _) (Nat.le_trans (back_len _) sm.1)
      · have hc' : c ∈ (Builtin.Str.strSliceIndices none none (-1) z.length).filterMap (z.cps[·]?) := by simpa using hc
        obtain ⟨i, _, hi⟩ := List.mem_filterMap.mp hc'
        exact sm.2 c (Array.mem_toList_iff.mpr (Array.mem_of_getElem? hi))
    exact ⟨sm'.line hn, .str _, H4, I5.tok _, ⟨_, rfl⟩, q _ sm'⟩
end SB

end

section
set_option Elab.async false
set_option linter.all false
set_option maxRecDepth 100000
set_option maxHeartbeats 4000000
/-! a tuple whose object is known (its methods may be called); values that a law may draw. -/
namespace SB
open PySem PySem.Spec PyProof.Rows L2
def tTupF (t : TA) : TE := fun σ H Q => t σ H fun xs H1 => xs.length ≤ sizeLine ∧ ∀ p o, H1 p = none → o.dict = none → o.cls = .type "tuple" → Q (.ref p) (upd H1 p (.frz o (.tup xs)))
section
variable {X : Cx} {es : List Expr} {t : TA} {pos : Pos}
theorem pe_tupF {x1} (h : PA X es t) : PE X (.Tuple es x1 pos) (tTupF t) := by
  refine ⟨fun pins s σ H Q I hq => ?_⟩
  refine wpAny_Tuple_spliced (thn (h.run pos pins s σ H _ I hq) fun us s1 ⟨xs, H1, I1, r, z, q⟩ => ⟨by rw [← r.length]; exact z, ?_⟩)
  have free : H1 s1.heap.objs.size = none := I1.hok.fresh (Nat.le_refl _)
  refine ⟨.ref s1.heap.objs.size, upd H1 s1.heap.objs.size (.frz _ (.tup xs)), I1.laid (t' := s1.toks) (fun b u e => Heap.get?_push_of_some _ e) (Nat.le_refl _) ⟨Heap.get?_push_size _ rfl, z, us, r, ⟨_, Heap.get?_push_size _ rfl, rfl, _, rfl⟩⟩, rfl, q _ _ free rfl rfl⟩
/-- t.index(z), t such a tuple of texts -/
def tTix (to te : TE) : TE := fun σ H Q => to σ H fun x H1 => (∃ p o u, x = .ref p ∧ H1 p = some (.frz o u) ∧ o.dict = none ∧ o.cls = .type "tuple") ∧ te σ H1 fun y H2 =>
  ∃ (p : Addr) (o : Obj) (ys : List Str) (z : Str) (j : Nat), x = .ref p ∧ y = .str z ∧ H2 p = some (.frz o (.tup (ys.map V.str))) ∧ ys[j]? = some z ∧ (∀ m, m < j → ys[m]? ≠ some z) ∧ Q (.int (j : Nat)) H2
theorem pe_tix {o e : Expr} {to te : TE} {apos cpos : Pos} (ho : PE X o to) (he : PE X e te)
    (hbase : attributeBase o "index" X.env (eval o X.env) = eval o X.env := by rfl)
    (hfew : ((backTo cpos (starEach [e] X.env)).all (fun x => !x.1) && (backToKw cpos (keywordEach [] X.env)).all (fun x => x.1.isSome)
      && decide ([e].length + ([] : List Keyword).length + (if ([] : List Keyword).isEmpty then 0 else 1) < 30)) = true := by rfl)
    (hline : (apos.endLine == cpos.line) = true := by rfl) (hs : starEach [e] X.env = (false, eval e X.env) :: starEach [] X.env := by rfl) :
    PE X (.Call (.Attribute o "index" apos) [e] [] cpos) (tTix to te) := by
  refine ⟨fun pins s σ H Q I h => ?_⟩
  refine wpAny_Call_method_late hbase hfew hline rfl (thn (ho.run pins s σ H _ I h) fun v s1 ⟨x, H1, I1, r1, ⟨p, ob, u, ex, hp, hd, hc⟩, q1⟩ => ?_)
  subst ex
  cases r1
  obtain ⟨at_, _⟩ := I1.hok p _ hp
  refine ⟨"tuple", _, PySem.F.plainAttrs_tuple, PySem.F.slot_tuple_index, PySem.F.type_tuple_index, ⟨ob, at_, hc⟩, fun a e' => by cases e'; exact ⟨ob, at_, hd⟩, ?_⟩
  have hA := (pa_cons (X := X) he pa_nil hs).run cpos pins s1 σ H1 (fun vs H2 => match vs with
    | [y] => ∃ (p' : Addr) (o' : Obj) (ys : List Str) (z : Str) (j : Nat), V.ref p = .ref p' ∧ y = .str z ∧ H2 p' = some (.frz o' (.tup (ys.map V.str))) ∧ ys[j]? = some z ∧ (∀ m, m < j → ys[m]? ≠ some z) ∧ Q (.int (j : Nat)) H2
    | _ => False) I1 q1
  rw [hs] at hA ⊢
  refine Calls.callWith_builtin rfl (Calls.evalArgs_plain ?_)
  refine thn hA fun us s2 ⟨vs, H2, I2, r2, q2⟩ => ?_
  match vs, r2, q2 with
  | [y], r2, ⟨p', o', ys, z, j, e1, e2, h1, h2, h3, q⟩ =>
    cases e1
    subst e2
    exact mt_tup_index pins s2 σ H2 (.ref p) [.str z] _ us Q I2 rfl r2 ⟨p, ys, z, j, rfl, rfl, .inl (.inr ⟨o', h1⟩), h2, h3, q⟩
end

/-- a datum whose repr is small -/
def okD (d : PyData) : Bool := d.showable && decide (d.shown.length ≤ 100000) && decide (d.depth ≤ 8) && !d.hasDict
theorem okD_all {d : PyData} (h : okD d = true) : d.showable = true ∧ d.shown.length ≤ sizeLine ∧ d.depth ≤ 8 ∧ d.hasDict = false := by
  unfold okD at h
  simp only [Bool.and_eq_true, decide_eq_true_eq, Bool.not_eq_true'] at h
  obtain ⟨⟨⟨h1, h2⟩, h3⟩, h4⟩ := h
  exact ⟨h1, by rw [sizeLine_eq]; omega, h3, h4⟩
/-- a value that a law has drawn: it is the same as itself, it has a repr, it is a text or none -/
structure GV (K : PySem.W.Frag) (H : Hp) (v : V) (d : PyData) : Prop where
  al : Alike K H 1 v v
  sh : Sh K H v d
  kd : (∃ z, v = .str z) ∨ ∃ T, TyX K H v (.type T) ∧ kitB T "str" = some false
/-- .. whatever is drawn later -/
def Drawn (b : Addr) (K : PySem.W.Frag) (H : Hp) (v : V) : Prop := ∃ d : PyData, d.showable = true ∧ d.shown.length ≤ sizeLine ∧ d.depth ≤ 8 ∧ ∀ H', Keep b H H' → GV K H' v d
theorem Drawn.keep {b : Addr} {K : PySem.W.Frag} {H H' : Hp} {v : V} (g : Drawn b K H v) (k : Keep b H H') : Drawn b K H' v :=
  let ⟨d, h1, h2, h3, h4⟩ := g
  ⟨d, h1, h2, h3, fun H2 k2 => h4 H2 (k.trans k2)⟩
/-- a value without an object -/
inductive Plain : V → Prop
  | non : Plain .non
  | bl (b : Bool) : Plain (.bl b)
  | int (i : Int) (h : i.natAbs.log2 < 1920) : Plain (.int i)
  | str (z : Str) (h : Sm 1000 z) : Plain (.str z)
theorem Plain.drawn {b : Addr} {K : PySem.W.Frag} {H : Hp} {v : V} (p : Plain v) : Drawn b K H v := by
  cases p with
  | non => exact ⟨.none, by decide, by decide, by decide, fun H' _ => ⟨.inl (.inl ⟨rfl, rfl⟩), .dp .non (by decide), .inr ⟨_, .base .non, by decide +kernel⟩⟩⟩
  | bl c => exact ⟨.bool c, by simp [PyData.showable], by cases c <;> decide, by simp [PyData.depth], fun H' _ => ⟨.inl (.inl ⟨rfl, rfl⟩), .dp (.bl c) (by simp [PyData.hasDict]), .inr ⟨_, .base (.bl c), by decide +kernel⟩⟩⟩
  | int i h => exact ⟨.int i, by simpa [PyData.showable] using h, int_text_fits h, by simp [PyData.depth], fun H' _ => ⟨.inl (.inl ⟨rfl, rfl⟩), .dp (.int i) (by simp [PyData.hasDict]), .inr ⟨_, .base (.int i), by decide +kernel⟩⟩⟩
  | str z h => exact ⟨.str z, by simp [PyData.showable], (by
      have := h.repr
      show (reprText z).length ≤ sizeLine
      rw [sizeLine_eq]
      omega), by simp [PyData.depth], fun H' _ => ⟨.inl (.inl ⟨rfl, rfl⟩), .dp (.str z) (by simp [PyData.hasDict]), .inl ⟨z, rfl⟩⟩⟩
theorem dpAll_strs {K : PySem.W.Frag} {H : Hp} : ∀ zs : List Str, DpAll K H (zs.map V.str) (zs.map PyData.str)
  | [] => .nil
  | z :: zs => .cons (.str z) (dpAll_strs zs)
theorem leaf_strs {H : Hp} : ∀ zs : List Str, Paired (Leaf H) (zs.map V.str) (zs.map V.str)
  | [] => .nil
  | z :: zs => .cons (.inl ⟨rfl, rfl⟩) (leaf_strs zs)
theorem drawn_lst {b p : Addr} {K : PySem.W.Frag} {H : Hp} {zs : List Str} (hp : H p = some (.lst (zs.map V.str))) (hb : p ≠ b) (ok : okD (.list (zs.map .str)) = true) (hl : zs.length < sizeLine) : Drawn b K H (.ref p) :=
  let ⟨h1, h2, h3, h4⟩ := okD_all ok
  ⟨_, h1, h2, h3, fun H' k => ⟨.inr (.inl ⟨p, p, _, _, rfl, rfl, SqL.of (k _ _ hp hb), SqL.of (k _ _ hp hb), by rw [List.length_map]; exact hl, leaf_strs zs⟩), .dp (.lst (SqL.of (k _ _ hp hb)) (dpAll_strs zs)) h4, .inr ⟨_, ty_list (SqL.of (k _ _ hp hb)), by decide +kernel⟩⟩⟩
theorem drawn_tup {b p : Addr} {K : PySem.W.Frag} {H : Hp} {zs : List Str} (hp : ∀ H', Keep b H H' → SqT K H' p (zs.map V.str)) (ok : okD (.tuple (zs.map .str)) = true) (hl : zs.length < sizeLine) : Drawn b K H (.ref p) :=
  let ⟨h1, h2, h3, h4⟩ := okD_all ok
  ⟨_, h1, h2, h3, fun H' k => ⟨.inr (.inr ⟨p, p, _, _, rfl, rfl, hp H' k, hp H' k, by rw [List.length_map]; exact hl, leaf_strs zs⟩), .dp (.tup (hp H' k) (dpAll_strs zs)) h4, .inr ⟨_, ty_tup (hp H' k), by decide +kernel⟩⟩⟩
theorem drawn_dct {b p : Addr} {K : PySem.W.Frag} {H : Hp} {kvs : List (Key × V)} (hp : H p = some (.dK kvs)) (hb : p ≠ b) (hf : ∀ q ∈ kvs, valV kvs q.1 = some q.2 ∧ flatB q.2 = true ∧ flatV q.2 = true)
    (h1 : (PyData.dict (kvs.map fun q => (keyD q.1, flatD q.2))).showable = true) (h2 : (PyData.dict (kvs.map fun q => (keyD q.1, flatD q.2))).shown.length ≤ sizeLine) (h3 : (PyData.dict (kvs.map fun q => (keyD q.1, flatD q.2))).depth ≤ 8) : Drawn b K H (.ref p) :=
  ⟨_, h1, h2, h3, fun H' k => ⟨.inl (.inr ⟨p, kvs, rfl, rfl, k _ _ hp hb, fun q hq => ⟨(hf q hq).1, (hf q hq).2.1⟩⟩), .dct (k _ _ hp hb) fun q hq => (hf q hq).2.2, .inr ⟨_, .base (.dK (k _ _ hp hb)), by decide +kernel⟩⟩⟩
end SB

end

section
set_option Elab.async false
set_option linter.all false
set_option maxRecDepth 100000
set_option maxHeartbeats 4000000
namespace SB
open PySem PySem.Spec PyProof.Rows L2
theorem seqL_keep {K : PySem.W.Frag} {H H' : Hp} {b p : Addr} {xs : List V} (k : Keep b H H') (n : p ≠ b) (h : SqL K H p xs) : SqL K H' p xs := by
  rcases h with (h | ⟨o, h⟩) | h
  · exact .inl (.inl (k _ _ h n))
  · exact .inl (.inr ⟨o, k _ _ h n⟩)
  · exact .inr h
theorem seqT_keep {K : PySem.W.Frag} {H H' : Hp} {b p : Addr} {xs : List V} (k : Keep b H H') (n : p ≠ b) (h : SqT K H p xs) : SqT K H' p xs := by
  rcases h with (h | ⟨o, h⟩) | h
  · exact .inl (.inl (k _ _ h n))
  · exact .inl (.inr ⟨o, k _ _ h n⟩)
  · exact .inr h
theorem of_seq {K : PySem.W.Frag} {H : Hp} {b p : Addr} {xs : List V} {Q : VK} {E : XK} (B : BagAt H b) (n : p ≠ b) (hs : SqL K H p xs ∨ SqT K H p xs) (h0 : 0 < xs.length) (h1 : xs.length < 2 ^ 62)
    (k : ∀ v H', v ∈ xs → BagAt H' b → Keep b H H' → (∀ c, H c = none → H' c = none) → Q v H') : spOf K [.ref b, .ref p] H Q E :=
  ⟨b, p, xs, rfl, B, n, hs, h0, h1, fun H' kk h => seqL_keep kk n h, fun H' kk h => seqT_keep kk n h, k⟩
theorem BagAt.new {H : Hp} {b p : Addr} {o : HO} (B : BagAt H b) (hp : H p = none) : BagAt (upd H p o) b := B.same (Same.new (Same.refl H) hp)
theorem BagAt.at {H : Hp} {b : Addr} (B : BagAt H b) : ∃ xs, H b = some (.lst xs) := let ⟨l, ns, i, g, m, c, h, _⟩ := B; ⟨_, h⟩
theorem BagAt.ne {H : Hp} {b p : Addr} (B : BagAt H b) (hp : H p = none) : p ≠ b := fun e => by
  obtain ⟨xs, h⟩ := B.at
  rw [e, h] at hp
  cases hp
/-- a table of texts -/
theorem look_at : ∀ (l : List (Str × Int)) {z : Str} {i : Int}, l.lookup z = some i → ∃ j : Nat, (l.map (·.1))[j]? = some z ∧ (l.map (·.2))[j]? = some i ∧ ∀ m : Nat, m < j → (l.map (·.1))[m]? ≠ some z
  | [], z, i, h => by cases h
  | (k, v) :: l, z, i, h => by
    by_cases e : z = k
    · subst e
      have : some v = some i := by simpa [List.lookup] using h
      cases this
      exact ⟨0, rfl, rfl, fun m hm => absurd hm (by omega)⟩
    · have h' : l.lookup z = some i := by
        have e' : (z == k) = false := by simpa using e
        simpa [List.lookup, e'] using h
      obtain ⟨j, h1, h2, h3⟩ := look_at l h'
      refine ⟨j + 1, h1, h2, fun m hm => ?_⟩
      cases m with
      | zero => exact fun q => e (Option.some.inj q).symm
      | succ m => exact h3 m (by omega)
theorem look_none : ∀ (l : List (Str × Int)) {z : Str}, l.lookup z = none → inV (.str z) ((l.map (·.1)).map V.str) = false
  | [], z, h => rfl
  | (k, v) :: l, z, h => by
    by_cases e : z = k
    · subst e
      simp [List.lookup] at h
    · have e' : (z == k) = false := by simpa using e
      have h' : l.lookup z = none := by simpa [List.lookup, e'] using h
      have ih := look_none l h'
      show (eqV (.str k) (.str z) || inV (.str z) ((l.map (·.1)).map V.str)) = false
      rw [ih]
      show ((k == z) || false) = false
      have : (k == z) = false := by simpa using fun q => e q.symm
      rw [this]
      rfl
theorem look_in : ∀ (l : List (Str × Int)) {z : Str} {i : Int}, l.lookup z = some i → inV (.str z) ((l.map (·.1)).map V.str) = true
  | [], z, i, h => by cases h
  | (k, v) :: l, z, i, h => by
    show (eqV (.str k) (.str z) || inV (.str z) ((l.map (·.1)).map V.str)) = true
    by_cases e : z = k
    · subst e
      show ((z == z) || _) = true
      simp
    · have e' : (z == k) = false := by simpa using e
      rw [look_in l (z := z) (i := i) (by simpa [List.lookup, e'] using h), Bool.or_true]
theorem look_mem : ∀ (l : List (Str × Int)) {z : Str}, z ∈ l.map (·.1) → ∃ i, l.lookup z = some i
  | [], z, h => by simp at h
  | (k, v) :: l, z, h => by
    by_cases e : z = k
    · subst e
      exact ⟨v, by simp [List.lookup]⟩
    · have e' : (z == k) = false := by simpa using e
      obtain ⟨i, hi⟩ := look_mem l (z := z) (by simpa [e] using h)
      exact ⟨i, by simpa [List.lookup, e'] using hi⟩
theorem look_val : ∀ (l : List (Str × Int)) {z : Str} {i : Int}, l.lookup z = some i → i ∈ l.map (·.2)
  | [], z, i, h => by cases h
  | (k, v) :: l, z, i, h => by
    by_cases e : z = k
    · subst e
      have : some v = some i := by simpa [List.lookup] using h
      cases this
      exact List.mem_cons_self ..
    · have e' : (z == k) = false := by simpa using e
      exact List.mem_cons_of_mem _ (look_val l (z := z) (by simpa [List.lookup, e'] using h))
def smB (z : Str) : Bool := decide (z.length ≤ 100) && z.cps.toList.all fun c => decide (c < 1114112)
theorem smB_ok {z : Str} (h : smB z = true) : Sm 100 z := by
  unfold smB at h
  simp only [Bool.and_eq_true, decide_eq_true_eq, List.all_eq_true] at h
  exact h
end SB

end

section
set_option Elab.async false
set_option linter.all false
set_option maxRecDepth 100000
set_option maxHeartbeats 4000000
/-! the bag with its list of cells named; what drawing from it promises. -/
namespace SB
open PySem PySem.Spec PyProof.Rows L2
/-- the bag at b, its cells at l -/
def BagL (H : Hp) (b l : Addr) : Prop := ∃ (ns : List Int) (i g m c : Int), H b = some (.lst [.ref l, .int i, .int g, .int m, .int c]) ∧ H l = some (.lst (ns.map V.int)) ∧ l ≠ b ∧ 0 ≤ i ∧ 0 ≤ g ∧ 0 ≤ m ∧ m < 2147483648
theorem BagL.same {H H' : Hp} {b l : Addr} (x : BagL H b l) (s : Same H H') : BagL H' b l := let ⟨ns, i, g, m, c, h1, h2, r⟩ := x; ⟨ns, i, g, m, c, s _ _ h1, s _ _ h2, r⟩
theorem BagL.new {H : Hp} {b l p : Addr} {o : HO} (B : BagL H b l) (hp : H p = none) : BagL (upd H p o) b l := B.same (Same.new (Same.refl H) hp)
theorem BagL.ne {H : Hp} {b l p : Addr} (B : BagL H b l) (hp : H p = none) : p ≠ b := fun e => by
  obtain ⟨ns, i, g, m, c, h, _⟩ := B
  rw [e, h] at hp
  cases hp
theorem BagL.nl {H : Hp} {b l p : Addr} (B : BagL H b l) (hp : H p = none) : p ≠ l := fun e => by
  obtain ⟨ns, i, g, m, c, _, h, _⟩ := B
  rw [e, h] at hp
  cases hp
/-- something that is no bag changes -/
theorem BagL.put {H : Hp} {b l p : Addr} {o : HO} (B : BagL H b l) (n1 : p ≠ b) (n2 : p ≠ l) : BagL (upd H p o) b l :=
  let ⟨ns, i, g, m, c, h1, h2, r⟩ := B
  ⟨ns, i, g, m, c, by rw [upd_ne (fun e => n1 e.symm)]; exact h1, by rw [upd_ne (fun e => n2 e.symm)]; exact h2, r⟩
def spBagL (K : PySem.W.Frag) : Sp := fun vs H Q _ => ∃ (a : Addr) (ns : List Int), vs = [.ref a] ∧ SqL K H a (ns.map V.int) ∧ ns.length ≤ 1000 ∧
  ∀ b l H', H b = none → H l = none → Same H H' → BagL H' b l → Q (.ref b) H'
def spDrawL : Sp := fun vs H Q _ => ∃ (b l : Addr) (top : Int), vs = [.ref b, .int top] ∧ BagL H b l ∧ 0 < top ∧ top.natAbs.log2 < 9000 ∧
  ∀ d H', 0 ≤ d → d < top → BagL H' b l → Keep b H H' → (∀ c, H c = none → H' c = none) → Q (.int d) H'
/-- one of the items of a list or a tuple -/
def spOfL (K : PySem.W.Frag) : Sp := fun vs H Q _ => ∃ (b l p : Addr) (xs : List V), vs = [.ref b, .ref p] ∧ BagL H b l ∧ p ≠ b ∧ (SqL K H p xs ∨ SqT K H p xs) ∧ 0 < xs.length ∧ xs.length < 2 ^ 62 ∧
  ∀ v H', v ∈ xs → BagL H' b l → Keep b H H' → (∀ c, H c = none → H' c = none) → Q v H'
theorem of_seqL {K : PySem.W.Frag} {H : Hp} {b l p : Addr} {xs : List V} {Q : VK} {E : XK} (B : BagL H b l) (n : p ≠ b) (hs : SqL K H p xs ∨ SqT K H p xs) (h0 : 0 < xs.length) (h1 : xs.length < 2 ^ 62)
    (k : ∀ v H', v ∈ xs → BagL H' b l → Keep b H H' → (∀ c, H c = none → H' c = none) → Q v H') : spOfL K [.ref b, .ref p] H Q E :=
  ⟨b, l, p, xs, rfl, B, n, hs, h0, h1, k⟩
theorem log_small {top : Int} (h0 : 0 < top) (h1 : top < 2 ^ 62) : top.natAbs.log2 < 9000 := by
  have h : top.natAbs < 2 ^ 62 := by omega
  have h2 : top.natAbs ≠ 0 := by omega
  exact Nat.lt_of_lt_of_le ((Nat.log2_lt h2).mpr h) (by decide)
end SB

end

section
set_option Elab.async false
set_option linter.all false
set_option maxRecDepth 100000
set_option maxHeartbeats 4000000
namespace K02
open PySem L2 SB
def top (i : Nat) : Stmt := PySem.Challenge.pw_shapebetween_k02_keys_lots_and_names.main.body.getD i (.Pass ⟨0, 0, 0, 0⟩)
abbrev s_wall : Stmt := top 0
abbrev N_wall : List Str := ["k"]
theorem sc_wall : FnScope ["k"] ["k"] (defScope s_wall) := ⟨rfl, rfl, rfl, by decide +kernel, rfl, by decide +kernel, by decide +kernel⟩
-- wall: k:0
abbrev s_InvalidLot_init : Stmt := inClass (top 4) 0
abbrev N_InvalidLot_init : List Str := ["self", "value"]
theorem sc_InvalidLot_init : FnScope ["self", "value"] ["self", "value"] (defScope s_InvalidLot_init) := ⟨rfl, rfl, rfl, by decide +kernel, rfl, by decide +kernel, by decide +kernel⟩
-- InvalidLot_init: self:0 value:1
abbrev s_InvalidMark_init : Stmt := inClass (top 5) 0
abbrev N_InvalidMark_init : List Str := ["self", "value"]
theorem sc_InvalidMark_init : FnScope ["self", "value"] ["self", "value"] (defScope s_InvalidMark_init) := ⟨rfl, rfl, rfl, by decide +kernel, rfl, by decide +kernel, by decide +kernel⟩
-- InvalidMark_init: self:0 value:1
abbrev s_InvalidText_init : Stmt := inClass (top 6) 0
abbrev N_InvalidText_init : List Str := ["self", "at"]
theorem sc_InvalidText_init : FnScope ["self", "at"] ["self", "at"] (defScope s_InvalidText_init) := ⟨rfl, rfl, rfl, by decide +kernel, rfl, by decide +kernel, by decide +kernel⟩
-- InvalidText_init: self:0 at:1
abbrev s_UnknownKey_init : Stmt := inClass (top 7) 0
abbrev N_UnknownKey_init : List Str := ["self", "key"]
theorem sc_UnknownKey_init : FnScope ["self", "key"] ["self", "key"] (defScope s_UnknownKey_init) := ⟨rfl, rfl, rfl, by decide +kernel, rfl, by decide +kernel, by decide +kernel⟩
-- UnknownKey_init: self:0 key:1
abbrev s_is_number : Stmt := top 9
abbrev N_is_number : List Str := ["value"]
theorem sc_is_number : FnScope ["value"] ["value"] (defScope s_is_number) := ⟨rfl, rfl, rfl, by decide +kernel, rfl, by decide +kernel, by decide +kernel⟩
-- is_number: value:0
abbrev s_is_key : Stmt := top 15
abbrev N_is_key : List Str := ["value"]
theorem sc_is_key : FnScope ["value"] ["value"] (defScope s_is_key) := ⟨rfl, rfl, rfl, by decide +kernel, rfl, by decide +kernel, by decide +kernel⟩
-- is_key: value:0
abbrev s_is_key_set : Stmt := top 16
abbrev N_is_key_set : List Str := ["value", "at", "key"]
theorem sc_is_key_set : FnScope ["value", "at", "key"] ["value"] (defScope s_is_key_set) := ⟨rfl, rfl, rfl, by decide +kernel, rfl, by decide +kernel, by decide +kernel⟩
-- is_key_set: value:0(cell) at:1 key:2
abbrev s_is_lot : Stmt := top 17
abbrev N_is_lot : List Str := ["value"]
theorem sc_is_lot : FnScope ["value"] ["value"] (defScope s_is_lot) := ⟨rfl, rfl, rfl, by decide +kernel, rfl, by decide +kernel, by decide +kernel⟩
-- is_lot: value:0
abbrev s_is_name : Stmt := top 18
abbrev N_is_name : List Str := ["value", "sign"]
theorem sc_is_name : FnScope ["value", "sign"] ["value"] (defScope s_is_name) := ⟨rfl, rfl, rfl, by decide +kernel, rfl, by decide +kernel, by decide +kernel⟩
-- is_name: value:0 sign:1
abbrev s_lives_in : Stmt := top 19
abbrev N_lives_in : List Str := ["living", "value"]
theorem sc_lives_in : FnScope ["living", "value"] ["living", "value"] (defScope s_lives_in) := ⟨rfl, rfl, rfl, by decide +kernel, rfl, by decide +kernel, by decide +kernel⟩
-- lives_in: living:0 value:1
abbrev s_check_lives : Stmt := top 20
abbrev N_check_lives : List Str := ["living", "value"]
theorem sc_check_lives : FnScope ["living", "value"] ["living", "value"] (defScope s_check_lives) := ⟨rfl, rfl, rfl, by decide +kernel, rfl, by decide +kernel, by decide +kernel⟩
-- check_lives: living:0 value:1
abbrev s_stretch_between : Stmt := top 21
abbrev N_stretch_between : List Str := ["living", "one", "other", "least", "greatest", "key"]
theorem sc_stretch_between : FnScope ["living", "one", "other", "least", "greatest", "key"] ["living", "one", "other"] (defScope s_stretch_between) := ⟨rfl, rfl, rfl, by decide +kernel, rfl, by decide +kernel, by decide +kernel⟩
-- stretch_between: living:0 one:1 other:2 least:3(cell) greatest:4(cell) key:5
abbrev s_neighbours_of : Stmt := top 22
abbrev N_neighbours_of : List Str := ["living", "key", "lesser", "greater", "other"]
theorem sc_neighbours_of : FnScope ["living", "key", "lesser", "greater", "other"] ["living", "key"] (defScope s_neighbours_of) := ⟨rfl, rfl, rfl, by decide +kernel, rfl, by decide +kernel, by decide +kernel⟩
-- neighbours_of: living:0 key:1(cell) lesser:2 greater:3 other:4
abbrev s_key_of_word : Stmt := top 23
abbrev N_key_of_word : List Str := ["word", "sign"]
theorem sc_key_of_word : FnScope ["word", "sign"] ["word"] (defScope s_key_of_word) := ⟨rfl, rfl, rfl, by decide +kernel, rfl, by decide +kernel, by decide +kernel⟩
-- key_of_word: word:0 sign:1
abbrev s_Row_init : Stmt := inClass (top 25) 0
abbrev N_Row_init : List Str := ["self", "lot", "coming", "going"]
theorem sc_Row_init : FnScope ["self", "lot", "coming", "going"] ["self", "lot", "coming", "going"] (defScope s_Row_init) := ⟨rfl, rfl, rfl, by decide +kernel, rfl, by decide +kernel, by decide +kernel⟩
-- Row_init: self:0 lot:1 coming:2 going:3
abbrev s_Row_lot_before : Stmt := inClass (top 25) 1
abbrev N_Row_lot_before : List Str := ["self"]
theorem sc_Row_lot_before : FnScope ["self"] ["self"] (defScope s_Row_lot_before) := ⟨rfl, rfl, rfl, by decide +kernel, rfl, by decide +kernel, by decide +kernel⟩
-- Row_lot_before: self:0
abbrev s_Row_lot_after : Stmt := inClass (top 25) 2
abbrev N_Row_lot_after : List Str := ["self"]
theorem sc_Row_lot_after : FnScope ["self"] ["self"] (defScope s_Row_lot_after) := ⟨rfl, rfl, rfl, by decide +kernel, rfl, by decide +kernel, by decide +kernel⟩
-- Row_lot_after: self:0
abbrev s_Row_backward : Stmt := inClass (top 25) 3
abbrev N_Row_backward : List Str := ["self"]
theorem sc_Row_backward : FnScope ["self"] ["self"] (defScope s_Row_backward) := ⟨rfl, rfl, rfl, by decide +kernel, rfl, by decide +kernel, by decide +kernel⟩
-- Row_backward: self:0
abbrev s_Row_text : Stmt := inClass (top 25) 4
abbrev N_Row_text : List Str := ["self", "key"]
theorem sc_Row_text : FnScope ["self", "key"] ["self"] (defScope s_Row_text) := ⟨rfl, rfl, rfl, by decide +kernel, rfl, by decide +kernel, by decide +kernel⟩
-- Row_text: self:0(cell) key:1
abbrev s_Row_read : Stmt := inClass (top 25) 5
abbrev N_Row_read : List Str := ["text", "lot", "marks", "word", "sign", "key"]
theorem sc_Row_read : FnScope ["text", "lot", "marks", "word", "sign", "key"] ["text"] (defScope s_Row_read) := ⟨rfl, rfl, rfl, by decide +kernel, rfl, by decide +kernel, by decide +kernel⟩
-- Row_read: text:0 lot:1 marks:2 word:3 sign:4 key:5
abbrev s_Row_sign : Stmt := inClass (top 25) 6
abbrev N_Row_sign : List Str := ["self", "key"]
theorem sc_Row_sign : FnScope ["self", "key"] ["self", "key"] (defScope s_Row_sign) := ⟨rfl, rfl, rfl, by decide +kernel, rfl, by decide +kernel, by decide +kernel⟩
-- Row_sign: self:0 key:1
abbrev s_Row_str : Stmt := inClass (top 25) 7
abbrev N_Row_str : List Str := ["self"]
theorem sc_Row_str : FnScope ["self"] ["self"] (defScope s_Row_str) := ⟨rfl, rfl, rfl, by decide +kernel, rfl, by decide +kernel, by decide +kernel⟩
-- Row_str: self:0
abbrev s_Row_repr : Stmt := inClass (top 25) 8
abbrev N_Row_repr : List Str := ["self"]
theorem sc_Row_repr : FnScope ["self"] ["self"] (defScope s_Row_repr) := ⟨rfl, rfl, rfl, by decide +kernel, rfl, by decide +kernel, by decide +kernel⟩
-- Row_repr: self:0
abbrev s_Row_iter : Stmt := inClass (top 25) 9
abbrev N_Row_iter : List Str := ["self"]
theorem sc_Row_iter : FnScope ["self"] ["self"] (defScope s_Row_iter) := ⟨rfl, rfl, rfl, by decide +kernel, rfl, by decide +kernel, by decide +kernel⟩
-- Row_iter: self:0
abbrev s_Row_contains : Stmt := inClass (top 25) 10
abbrev N_Row_contains : List Str := ["self", "key"]
theorem sc_Row_contains : FnScope ["self", "key"] ["self", "key"] (defScope s_Row_contains) := ⟨rfl, rfl, rfl, by decide +kernel, rfl, by decide +kernel, by decide +kernel⟩
-- Row_contains: self:0 key:1
abbrev s_Row_len : Stmt := inClass (top 25) 11
abbrev N_Row_len : List Str := ["self"]
theorem sc_Row_len : FnScope ["self"] ["self"] (defScope s_Row_len) := ⟨rfl, rfl, rfl, by decide +kernel, rfl, by decide +kernel, by decide +kernel⟩
-- Row_len: self:0
abbrev s_Row_eq : Stmt := inClass (top 25) 12
abbrev N_Row_eq : List Str := ["self", "other"]
theorem sc_Row_eq : FnScope ["self", "other"] ["self", "other"] (defScope s_Row_eq) := ⟨rfl, rfl, rfl, by decide +kernel, rfl, by decide +kernel, by decide +kernel⟩
-- Row_eq: self:0 other:1
abbrev s_split_sign : Stmt := top 26
abbrev N_split_sign : List Str := ["word"]
theorem sc_split_sign : FnScope ["word"] ["word"] (defScope s_split_sign) := ⟨rfl, rfl, rfl, by decide +kernel, rfl, by decide +kernel, by decide +kernel⟩
-- split_sign: word:0
abbrev s_l_bag : Stmt := top 28
abbrev N_l_bag : List Str := ["_law_script", "_law_mixed", "_law_cell"]
theorem sc_l_bag : FnScope ["_law_script", "_law_mixed", "_law_cell"] ["_law_script"] (defScope s_l_bag) := ⟨rfl, rfl, rfl, by decide +kernel, rfl, by decide +kernel, by decide +kernel⟩
-- l_bag: _law_script:0 _law_mixed:1 _law_cell:2
abbrev s_l_draw : Stmt := top 29
abbrev N_l_draw : List Str := ["_law_bag_here", "_law_top", "_law_cell", "_law_digit", "_law_seed"]
theorem sc_l_draw : FnScope ["_law_bag_here", "_law_top", "_law_cell", "_law_digit", "_law_seed"] ["_law_bag_here", "_law_top"] (defScope s_l_draw) := ⟨rfl, rfl, rfl, by decide +kernel, rfl, by decide +kernel, by decide +kernel⟩
-- l_draw: _law_bag_here:0 _law_top:1 _law_cell:2 _law_digit:3 _law_seed:4
abbrev s_l_of : Stmt := top 30
abbrev N_l_of : List Str := ["_law_bag_here", "_law_some"]
theorem sc_l_of : FnScope ["_law_bag_here", "_law_some"] ["_law_bag_here", "_law_some"] (defScope s_l_of) := ⟨rfl, rfl, rfl, by decide +kernel, rfl, by decide +kernel, by decide +kernel⟩
-- l_of: _law_bag_here:0 _law_some:1
abbrev s_l_same : Stmt := top 31
abbrev N_l_same : List Str := ["_law_found", "_law_due", "_law_p", "_law_q"]
theorem sc_l_same : FnScope ["_law_found", "_law_due", "_law_p", "_law_q"] ["_law_found", "_law_due"] (defScope s_l_same) := ⟨rfl, rfl, rfl, by decide +kernel, rfl, by decide +kernel, by decide +kernel⟩
-- l_same: _law_found:0 _law_due:1 _law_p:2 _law_q:3
abbrev s_l_keys : Stmt := top 32
abbrev N_l_keys : List Str := ["_law_bag_here", "_law_many", "_law_wide", "_law_low", "_law_found", "_law_n", "_law_d", "_law_turn"]
theorem sc_l_keys : FnScope ["_law_bag_here", "_law_many", "_law_wide", "_law_low", "_law_found", "_law_n", "_law_d", "_law_turn"] ["_law_bag_here", "_law_many"] (defScope s_l_keys) := ⟨rfl, rfl, rfl, by decide +kernel, rfl, by decide +kernel, by decide +kernel⟩
-- l_keys: _law_bag_here:0 _law_many:1 _law_wide:2 _law_low:3 _law_found:4 _law_n:5 _law_d:6 _law_turn:7
abbrev s_l_stranger : Stmt := top 33
abbrev N_l_stranger : List Str := ["_law_bag_here", "_law_ks", "_law_found", "_law_turn"]
theorem sc_l_stranger : FnScope ["_law_bag_here", "_law_ks", "_law_found", "_law_turn"] ["_law_bag_here", "_law_ks"] (defScope s_l_stranger) := ⟨rfl, rfl, rfl, by decide +kernel, rfl, by decide +kernel, by decide +kernel⟩
-- l_stranger: _law_bag_here:0 _law_ks:1 _law_found:2 _law_turn:3
abbrev s_l_is_key : Stmt := top 34
abbrev N_l_is_key : List Str := ["_law_v"]
theorem sc_l_is_key : FnScope ["_law_v"] ["_law_v"] (defScope s_l_is_key) := ⟨rfl, rfl, rfl, by decide +kernel, rfl, by decide +kernel, by decide +kernel⟩
-- l_is_key: _law_v:0
abbrev s_l_is_set : Stmt := top 35
abbrev N_l_is_set : List Str := ["_law_v", "_law_n", "_law_p"]
theorem sc_l_is_set : FnScope ["_law_v", "_law_n", "_law_p"] ["_law_v"] (defScope s_l_is_set) := ⟨rfl, rfl, rfl, by decide +kernel, rfl, by decide +kernel, by decide +kernel⟩
-- l_is_set: _law_v:0(cell) _law_n:1 _law_p:2
abbrev s_l_odd : Stmt := top 36
abbrev N_l_odd : List Str := ["_law_bag_here", "_law_ks", "_law_more", "_law_fresh", "_law_menu", "_law_near_here"]
theorem sc_l_odd : FnScope ["_law_bag_here", "_law_ks", "_law_more", "_law_fresh", "_law_menu", "_law_near_here"] ["_law_bag_here", "_law_ks", "_law_more"] (defScope s_l_odd) := ⟨rfl, rfl, rfl, by decide +kernel, rfl, by decide +kernel, by decide +kernel⟩
-- l_odd: _law_bag_here:0 _law_ks:1 _law_more:2 _law_fresh:3 _law_menu:4 _law_near_here:5
abbrev s_l_is_name : Stmt := top 37
abbrev N_l_is_name : List Str := ["_law_v", "_law_low", "_law_c"]
theorem sc_l_is_name : FnScope ["_law_v", "_law_low", "_law_c"] ["_law_v"] (defScope s_l_is_name) := ⟨rfl, rfl, rfl, by decide +kernel, rfl, by decide +kernel, by decide +kernel⟩
-- l_is_name: _law_v:0 _law_low:1(cell) _law_c:2
abbrev s_l_word : Stmt := top 38
abbrev N_l_word : List Str := ["_law_bag_here", "_law_signs", "_law_found", "_law_c", "_law_n"]
theorem sc_l_word : FnScope ["_law_bag_here", "_law_signs", "_law_found", "_law_c", "_law_n"] ["_law_bag_here"] (defScope s_l_word) := ⟨rfl, rfl, rfl, by decide +kernel, rfl, by decide +kernel, by decide +kernel⟩
-- l_word: _law_bag_here:0(cell) _law_signs:1(cell) _law_found:2 _law_c:3 _law_n:4
abbrev s_l_number : Stmt := top 39
abbrev N_l_number : List Str := ["_law_bag_here"]
theorem sc_l_number : FnScope ["_law_bag_here"] ["_law_bag_here"] (defScope s_l_number) := ⟨rfl, rfl, rfl, by decide +kernel, rfl, by decide +kernel, by decide +kernel⟩
-- l_number: _law_bag_here:0
abbrev s_l_tuple : Stmt := top 40
abbrev N_l_tuple : List Str := ["_law_bag_here", "_law_ks", "_law_odd_here", "_law_n", "_law_p", "_law_menu"]
theorem sc_l_tuple : FnScope ["_law_bag_here", "_law_ks", "_law_odd_here", "_law_n", "_law_p", "_law_menu"] ["_law_bag_here", "_law_ks"] (defScope s_l_tuple) := ⟨rfl, rfl, rfl, by decide +kernel, rfl, by decide +kernel, by decide +kernel⟩
-- l_tuple: _law_bag_here:0 _law_ks:1 _law_odd_here:2 _law_n:3 _law_p:4 _law_menu:5
abbrev s_l_stretch : Stmt := top 41
abbrev N_l_stretch : List Str := ["_law_ks", "_law_p", "_law_q", "_law_named", "e"]
theorem sc_l_stretch : FnScope ["_law_ks", "_law_p", "_law_q", "_law_named", "e"] ["_law_ks", "_law_p", "_law_q", "_law_named"] (defScope s_l_stretch) := ⟨rfl, rfl, rfl, by decide +kernel, rfl, by decide +kernel, by decide +kernel⟩
-- l_stretch: _law_ks:0 _law_p:1 _law_q:2 _law_named:3 e:4
abbrev s_l_stretch_due : Stmt := top 42
abbrev N_l_stretch_due : List Str := ["_law_ks", "_law_p", "_law_q", "_law_v", "_law_k"]
theorem sc_l_stretch_due : FnScope ["_law_ks", "_law_p", "_law_q", "_law_v", "_law_k"] ["_law_ks", "_law_p", "_law_q"] (defScope s_l_stretch_due) := ⟨rfl, rfl, rfl, by decide +kernel, rfl, by decide +kernel, by decide +kernel⟩
-- l_stretch_due: _law_ks:0 _law_p:1(cell) _law_q:2(cell) _law_v:3 _law_k:4
abbrev s_l_near : Stmt := top 43
abbrev N_l_near : List Str := ["_law_ks", "_law_p", "_law_lower_y", "_law_upper_y", "_law_k"]
theorem sc_l_near : FnScope ["_law_ks", "_law_p", "_law_lower_y", "_law_upper_y", "_law_k"] ["_law_ks", "_law_p"] (defScope s_l_near) := ⟨rfl, rfl, rfl, by decide +kernel, rfl, by decide +kernel, by decide +kernel⟩
-- l_near: _law_ks:0 _law_p:1(cell) _law_lower_y:2 _law_upper_y:3 _law_k:4
abbrev s_l_judged : Stmt := top 44
abbrev N_l_judged : List Str := ["_law_v", "_law_named"]
theorem sc_l_judged : FnScope ["_law_v", "_law_named"] ["_law_v", "_law_named"] (defScope s_l_judged) := ⟨rfl, rfl, rfl, by decide +kernel, rfl, by decide +kernel, by decide +kernel⟩
-- l_judged: _law_v:0 _law_named:1
abbrev s_law : Stmt := top 45
abbrev N_law : List Str := ["_law_script", "_law_bag_here", "_law_turn", "_law_ks", "_law_n", "_law_v", "_law_due", "_law_kept", "_law_p", "_law_q", "_law_k", "_law_odd_here", "_law_worse", "_law_s", "_law_t", "_law_told", "_law_long_y", "_law_bent"]
theorem sc_law : FnScope ["_law_script", "_law_bag_here", "_law_turn", "_law_ks", "_law_n", "_law_v", "_law_due", "_law_kept", "_law_p", "_law_q", "_law_k", "_law_odd_here", "_law_worse", "_law_s", "_law_t", "_law_told", "_law_long_y", "_law_bent"] ["_law_script"] (defScope s_law) := ⟨rfl, rfl, rfl, by decide +kernel, rfl, by decide +kernel, by decide +kernel⟩
-- law: _law_script:0 _law_bag_here:1 _law_turn:2 _law_ks:3 _law_n:4 _law_v:5 _law_due:6 _law_kept:7 _law_p:8 _law_q:9 _law_k:10 _law_odd_here:11 _law_worse:12 _law_s:13 _law_t:14 _law_told:15 _law_long_y:16 _law_bent:17
section
variable {P : Program} {w : World} {K : PySem.W.Frag} {mg : Str → Option Value} {base : Heap}
theorem ok_bag {f : Addr} {fd : FuncData} (F : Fun K "_law_bag" "_law_bag" s_l_bag f fd) (gInt : mg "int" = none) (gLst : mg "list" = none) : FnOk P w K mg base CX0 1 f fd ["_law_script"] (spBagL K) := by
  refine F.ok sc_l_bag (fun vs H Q E h => ?_) (fun cdv A outer s H vs Q E hr h => ?_)
  · obtain ⟨a, ns, rfl, _⟩ := h
    rfl
  · obtain ⟨a, ns, rfl, hS, hlen, k⟩ := h
    refine ⟨_, pss_cons (ps_set (i := 1) sc_l_bag.nd rfl (Or.inl rfl) pe_int)
      (pss_cut (ps_for PassesOwn.never rfl (pi_list (pe_slice sl_list (pv 0) po_none (po_some pe_int))) (pg_name (i := 2) sc_l_bag.nd rfl (Or.inl rfl))
        (pss_one (ps_set (i := 1) sc_l_bag.nd rfl (Or.inl rfl) (pe_op op_mod (pe_callTy call_int1 (by rfl) gInt (by decide +kernel) (pa_cons (pe_op op_add (pe_op op_add (pe_op op_mul (pv 1) pe_int)
          (pe_op op_mul (pe_op op_mod (pe_callTy call_int1 (by rfl) gInt (by decide +kernel) (pa_cons (pv 2) pa_nil)) pe_int) pe_int)) pe_int) pa_nil)) pe_int))))
      (pss_one (ps_ret (pe_lst (pa_cons (pe_callTy call_list_of (by rfl) gLst (by decide +kernel) (pa_cons (pe_slice sl_list (pv 0) po_none (po_some pe_int)) pa_nil))
        (pa_cons pe_int (pa_cons pe_int (pa_cons (pv 1) (pa_cons pe_int pa_nil))))))))), ?_⟩
    have cut63 : cutV (ns.map V.int) none (some 63) = (ns.take 63).map V.int := by
      have e : HT.sIx (ns.map V.int).length (ns.map V.int).length (some 63) = min 63 (ns.map V.int).length := HT.sIx_nat _ _ 63
      unfold cutV
      rw [HT.sIx_none, e, Nat.sub_zero, List.drop_zero, List.map_take, ← List.take_eq_take_min]
    refine ⟨fun σ H' => ∃ (m : Int) (z : Option V), σ = [some (.ref a), some (.int m), z] ∧ Same H H' ∧ 0 ≤ m ∧ m < 2147483648, ?_, ?_⟩
    · refine ⟨_, rfl, _, rfl, a, _, rfl, hS, fun p hp => ?_⟩
      rw [cut63]
      have s1 : Same H (upd H p (.lst ((ns.take 63).map V.int))) := Same.new (Same.refl H) hp
      refine ⟨p, rfl, ⟨_, SqL.of upd_same⟩, for_list (K := K) (a := p) (xs := (ns.take 63).map V.int) (fun i σ H' => ∃ (m : Int) (z : Option V), σ = [some (.ref a), some (.int m), z] ∧ Same (upd H p (.lst ((ns.take 63).map V.int))) H' ∧ 0 ≤ m ∧ m < 2147483648)
        ⟨12039, none, rfl, Same.refl _, by decide, by decide⟩ (fun i σ H' _ ⟨m, z, _, s2, _⟩ => s2.seq (SqL.of upd_same)) ?_ ?_⟩
      · rintro i x σ H' hi ⟨m, z, rfl, s2, h0, h1⟩
        obtain ⟨n, rfl⟩ : ∃ n : Int, x = .int n := by
          rw [List.getElem?_map] at hi
          cases e : (ns.take 63)[i]? with
          | none => rw [e] at hi; cases hi
          | some n => rw [e] at hi; exact ⟨n, (Option.some.inj hi).symm⟩
        refine ⟨_, rfl, _, _, rfl, rfl, Or.inr ⟨by decide, by decide⟩, ?_⟩
        refine ⟨_, rfl, .inl ⟨_, rfl, _, _, rfl, rfl, (by show (0 : Int) < 1000639; decide), _, _, rfl, rfl, Or.inr ⟨by decide, by decide⟩, _, _, rfl, rfl, _, _, rfl, rfl, .inl ⟨_, rfl, _, _, rfl, rfl, (by show (0 : Int) < 2147483579; decide), ?_⟩⟩⟩
        refine ⟨_, _, rfl, s2, Int.emod_nonneg _ (by decide), ?_⟩
        have := Int.emod_lt_of_pos (m * 48271 + n % 1000639 * 883 + 59) (show (0 : Int) < 2147483579 by decide)
        omega
      · rintro σ H' ⟨m, z, rfl, s2, h0, h1⟩
        exact ⟨m, z, rfl, s1.trans s2, h0, h1⟩
    · rintro σ H' ⟨m, z, rfl, s2, h0, h1⟩
      refine ⟨_, rfl, _, rfl, a, _, rfl, s2.seq hS, fun p hp => ?_⟩
      rw [cut63]
      refine ⟨p, _, rfl, .inl (SqL.of upd_same), fun l hl => ?_⟩
      refine ⟨_, rfl, (by show 5 ≤ sizeLine; decide), fun b hb => ?_⟩
      have sp := Same.new s2 (o := .lst ((ns.take 63).map V.int)) hp
      have sl := Same.new sp (o := .lst ((ns.take 63).map V.int)) hl
      have nlb : l ≠ b := ne_of_none upd_same hb
      refine k b l _ (sl.free hb) (sp.free hl) (Same.new sl hb) ⟨ns.take 63, 0, 0, m, 0, upd_same, ?_, nlb, by decide, by decide, h0, h1⟩
      rw [upd_ne nlb, upd_same]
theorem ok_draw {f : Addr} {fd : FuncData} (F : Fun K "_law_draw" "_law_draw" s_l_draw f fd) (gInt : mg "int" = none) (gLen : mg "len" = none) (gAbs : mg "abs" = none) : FnOk P w K mg base CX0 1 f fd ["_law_bag_here", "_law_top"] spDrawL := by
  refine F.ok sc_l_draw (fun vs H Q E h => ?_) (fun cdv A outer s H vs Q E hr h => ?_)
  · obtain ⟨a, l, top, rfl, _⟩ := h
    rfl
  · obtain ⟨b, l, top, rfl, B, t0, t1, k⟩ := h
    have nd := sc_l_draw.nd
    refine ⟨_, pss_cons (ps_asg (pe_op op_add (pe_ix ix_list (pv 0) pe_int (fun _ _ => rfl)) pe_int) (pg_sub (pv 0) pe_int set_list))
      (pss_cut (ps_if (PW.pt (pw_and (pt_cmpR op_eq (pe_ix ix_list (pv 0) pe_int (fun _ _ => rfl)) pe_int (nomark _))
          (pw_and1 (pt_cmpR op_lt (pe_ix ix_list (pv 0) pe_int (fun _ _ => rfl)) (pe_callB call_len_seq (by rfl) gLen PySem.boot_len (pa_cons (pe_ix ix_list (pv 0) pe_int (fun _ _ => rfl)) pa_nil)) (nomark _)))))
        (pss_cons (ps_set (i := 2) nd rfl (Or.inl rfl) (pe_callTy call_int1 (by rfl) gInt (by decide +kernel) (pa_cons (pe_ix ix_list (pe_ix ix_list (pv 0) pe_int (fun _ _ => rfl)) (pe_ix ix_list (pv 0) pe_int (fun _ _ => rfl)) (fun _ _ => rfl)) pa_nil)))
        (pss_cons (ps_asg (pe_op op_add (pe_ix ix_list (pv 0) pe_int (fun _ _ => rfl)) pe_int) (pg_sub (pv 0) pe_int set_list))
        (pss_one (ps_if (pt_cmpR op_ge (pe_callB call_abs (by rfl) gAbs (by decide +kernel) (pa_cons (pv 2) pa_nil)) (pe_op op_pow pe_int pe_int) (nomark _))
          (pss_one (ps_asg (pe_callB call_abs (by rfl) gAbs (by decide +kernel) (pa_cons (pv 2) pa_nil)) (pg_sub (pv 0) pe_int set_list)))
          (pss_one (ps_asg (pe_op op_mod (pe_callTy call_int1 (by rfl) gInt (by decide +kernel) (pa_cons (pe_op op_add (pe_op op_add (pe_op op_mul (pe_ix ix_list (pv 0) pe_int (fun _ _ => rfl)) pe_int)
            (pe_op op_mul (pe_op op_mod (pe_callTy call_int1 (by rfl) gInt (by decide +kernel) (pa_cons (pv 2) pa_nil)) pe_int) pe_int)) pe_int) pa_nil)) pe_int) (pg_sub (pv 0) pe_int set_list)))))))
        pss_nil)
      (pss_cons (ps_if (pt_cmpR op_gt (pe_ix ix_list (pv 0) pe_int (fun _ _ => rfl)) pe_int (nomark _))
        (pss_cons (ps_set (i := 3) nd rfl (Or.inl rfl) (pe_op op_mod (pe_callTy call_int1 (by rfl) gInt (by decide +kernel) (pa_cons (pe_ix ix_list (pv 0) pe_int (fun _ _ => rfl)) pa_nil)) (pv 1)))
        (pss_cons (ps_asg (pe_op op_fdivW (pe_ix ix_list (pv 0) pe_int (fun _ _ => rfl)) (pv 1)) (pg_sub (pv 0) pe_int set_list))
        (pss_one (ps_ret (pv 3))))) pss_nil)
      (pss_cons (ps_set (i := 4) nd rfl (Or.inl rfl) (pe_callTy call_int1 (by rfl) gInt (by decide +kernel) (pa_cons (pe_ix ix_list (pv 0) pe_int (fun _ _ => rfl)) pa_nil)))
      (pss_cons (ps_asg (pe_op op_mod (pe_callTy call_int1 (by rfl) gInt (by decide +kernel) (pa_cons (pe_op op_add (pe_op op_add (pe_op op_add (pe_op op_pow (pv 4) pe_int) (pe_op op_mul (pv 4) pe_int))
            (pe_op op_mul (pe_ix ix_list (pv 0) pe_int (fun _ _ => rfl)) pe_int)) pe_int) pa_nil)) pe_int) (pg_sub (pv 0) pe_int set_list))
      (pss_one (ps_ret (pe_op op_mod (pe_callTy call_int1 (by rfl) gInt (by decide +kernel) (pa_cons (pe_op op_add (pe_op op_fdiv (pe_ix ix_list (pv 0) pe_int (fun _ _ => rfl)) pe_int)
            (pe_op op_mul (pe_op op_mod (pe_callTy call_int1 (by rfl) gInt (by decide +kernel) (pa_cons (pe_ix ix_list (pv 0) pe_int (fun _ _ => rfl)) pa_nil)) pe_int) pe_int)) pa_nil)) (pv 1)))))))), ?_⟩
    obtain ⟨ns, i, g, m, c, hb, hl, nlb, i0, g0, m0, m1⟩ := B
    refine ⟨_, rfl, b, _, _, _, rfl, rfl, SqL.of hb, rfl, _, _, rfl, rfl, _, rfl, b, _, _, _, rfl, rfl, hb, rfl, ?_⟩
    -- the first draws of a cell
    have hl1 : ∀ o, upd H b o l = some (.lst (ns.map V.int)) := fun o => by rw [upd_ne nlb]; exact hl
    have up2 : ∀ (H' : Hp) (o : HO), Keep b H H' → (∀ c, H c = none → H' c = none) → Keep b H (upd H' b o) ∧ (∀ c, H c = none → upd H' b o c = none) := fun H' o kk fr =>
      ⟨kk.upd, fun c hc => by rw [upd_ne (fun e => by rw [e, hb] at hc; cases hc)]; exact fr c hc⟩
    obtain ⟨kk0, fr0⟩ := up2 H (HO.lst [.ref l, .int i, .int g, .int m, .int (c + 1)]) (Keep.refl b H) (fun c hc => hc)
    refine ⟨fun σ H' => ∃ (i g m : Int) (z : Option V), σ = [some (.ref b), some (.int top), z, none, none] ∧ H' b = some (.lst [.ref l, .int i, .int g, .int m, .int (c + 1)]) ∧ 0 ≤ i ∧ 0 ≤ g ∧ 0 ≤ m ∧ m < 2147483648 ∧ Keep b H H' ∧ (∀ c, H c = none → H' c = none), ?_, ?_⟩
    · refine ⟨_, rfl, b, _, _, _, rfl, rfl, SqL.of upd_same, rfl, rfl, _, rfl, ?_⟩
      refine ite2 (fun hg => ?_) (fun hg => ?_)
      · refine ⟨_, rfl, b, _, _, _, rfl, rfl, SqL.of upd_same, rfl, _, rfl, b, _, _, _, rfl, rfl, SqL.of upd_same, rfl, _, _, rfl, .inl (SqL.of (hl1 _)), _, _, rfl, rfl, _, rfl, ?_⟩
        refine ite2 (fun hi => ?_) (fun hi => ?_)
        · have hi' : i < ((ns.map V.int).length : Int) := of_decide_eq_true hi
          rw [List.length_map] at hi'
          obtain ⟨n, hn⟩ : ∃ n, ns[i.toNat]? = some n := ⟨ns[i.toNat]'(by omega), List.getElem?_eq_getElem (by omega)⟩
          have hat : atI (ns.map V.int) i = some (.int n) := at_of (j := i.toNat) (by omega) (by rw [List.getElem?_map, hn]; rfl)
          refine ⟨_, rfl, b, _, _, _, rfl, rfl, SqL.of upd_same, rfl, _, rfl, b, _, _, _, rfl, rfl, SqL.of upd_same, rfl, l, _, _, _, rfl, rfl, SqL.of (hl1 _), hat, .inl ⟨_, rfl, ?_⟩⟩
          refine ⟨_, rfl, b, _, _, _, rfl, rfl, SqL.of upd_same, rfl, _, _, rfl, rfl, _, rfl, b, _, _, _, rfl, rfl, upd_same, rfl, ?_⟩
          obtain ⟨kk1, fr1⟩ := up2 _ (HO.lst [.ref l, .int (i + 1), .int g, .int m, .int (c + 1)]) kk0 fr0
          refine ⟨_, rfl, _, rfl, _, _, rfl, rfl, ⟨by decide, by decide, by decide⟩, _, _, rfl, rfl, _, rfl, ?_⟩
          refine ite2 (fun hbig => ?_) (fun hbig => ?_)
          · refine ⟨_, rfl, _, rfl, _, rfl, b, _, _, _, rfl, rfl, upd_same, rfl, ?_⟩
            obtain ⟨kk2, fr2⟩ := up2 _ (HO.lst [.ref l, .int (i + 1), .int (if n < 0 then -n else n), .int m, .int (c + 1)]) kk1 fr1
            refine ⟨i + 1, if n < 0 then -n else n, m, _, rfl, upd_same, by omega, ?_, m0, m1, kk2, fr2⟩
            split <;> omega
          · refine ⟨_, rfl, b, _, _, _, rfl, rfl, SqL.of upd_same, rfl, _, _, rfl, rfl, Or.inr ⟨by decide, by decide⟩, _, rfl, .inl ⟨_, rfl, _, _, rfl, rfl, (by show (0 : Int) < 1000639; decide), _, _, rfl, rfl, Or.inr ⟨by decide, by decide⟩,
              _, _, rfl, rfl, _, _, rfl, rfl, .inl ⟨_, rfl, _, _, rfl, rfl, (by show (0 : Int) < 2147483587; decide), _, rfl, b, _, _, _, rfl, rfl, upd_same, rfl, ?_⟩⟩⟩
            obtain ⟨kk2, fr2⟩ := up2 _ (HO.lst [.ref l, .int (i + 1), .int g, .int ((m * 43889 + n % 1000639 * 773 + 31) % 2147483587), .int (c + 1)]) kk1 fr1
            have e1 := Int.emod_nonneg (m * 43889 + n % 1000639 * 773 + 31) (show (2147483587 : Int) ≠ 0 by decide)
            have e2 := Int.emod_lt_of_pos (m * 43889 + n % 1000639 * 773 + 31) (show (0 : Int) < 2147483587 by decide)
            exact ⟨i + 1, g, _, _, rfl, upd_same, by omega, g0, e1, by omega, kk2, fr2⟩
        · exact ⟨i, g, m, _, rfl, upd_same, i0, g0, m0, m1, kk0, fr0⟩
      · refine iteF ?_
        exact ⟨i, g, m, _, rfl, upd_same, i0, g0, m0, m1, kk0, fr0⟩
    · rintro σ H1 ⟨i, g, m, z, rfl, hb1, i0, g0, m0, m1, kk, fr⟩
      have hl2 : H1 l = some (.lst (ns.map V.int)) := kk _ _ hl nlb
      refine ⟨_, rfl, b, _, _, _, rfl, rfl, SqL.of hb1, rfl, _, _, rfl, rfl, _, rfl, ?_⟩
      refine ite2 (fun hg => ?_) (fun hg => ?_)
      · refine ⟨_, rfl, b, _, _, _, rfl, rfl, SqL.of hb1, rfl, .inl ⟨_, rfl, _, rfl, _, _, rfl, rfl, t0, ?_⟩⟩
        refine ⟨_, rfl, b, _, _, _, rfl, rfl, SqL.of hb1, rfl, _, rfl, _, _, rfl, rfl, ⟨t0, t1⟩, _, rfl, b, _, _, _, rfl, rfl, hb1, rfl, ?_⟩
        refine ⟨_, rfl, ?_⟩
        obtain ⟨kk2, fr2⟩ := up2 _ (HO.lst [.ref l, .int i, .int (g / top), .int m, .int (c + 1)]) kk fr
        refine k (g % top) _ (Int.emod_nonneg _ (by omega)) (Int.emod_lt_of_pos _ t0) ⟨ns, i, g / top, m, c + 1, upd_same, by rw [upd_ne nlb]; exact hl2, nlb, i0, Int.ediv_nonneg g0 (by omega), m0, m1⟩ kk2 fr2
      · refine ⟨_, rfl, b, _, _, _, rfl, rfl, SqL.of hb1, rfl, .inl ⟨_, rfl, ?_⟩⟩
        refine ⟨_, rfl, _, _, rfl, rfl, ⟨by decide, by decide, by omega⟩, _, rfl, _, _, rfl, rfl, Or.inr ⟨by decide, by decide⟩, _, _, rfl, rfl, _, rfl, b, _, _, _, rfl, rfl, SqL.of hb1, rfl, _, _, rfl, rfl, Or.inr ⟨by decide, by decide⟩,
          _, _, rfl, rfl, _, _, rfl, rfl, .inl ⟨_, rfl, _, _, rfl, rfl, (by show (0 : Int) < 2147483549; decide), _, rfl, b, _, _, _, rfl, rfl, hb1, rfl, ?_⟩⟩
        have e1 := Int.emod_nonneg (m ^ (3 : Int).toNat + m * 47111 + (c + 1) * 110323 + 60089) (show (2147483549 : Int) ≠ 0 by decide)
        have e2 := Int.emod_lt_of_pos (m ^ (3 : Int).toNat + m * 47111 + (c + 1) * 110323 + 60089) (show (0 : Int) < 2147483549 by decide)
        obtain ⟨kk2, fr2⟩ := up2 _ (HO.lst [.ref l, .int i, .int g, .int ((m ^ (3 : Int).toNat + m * 47111 + (c + 1) * 110323 + 60089) % 2147483549), .int (c + 1)]) kk fr
        refine ⟨_, rfl, b, _, _, _, rfl, rfl, SqL.of upd_same, rfl, _, _, rfl, rfl, ⟨by decide, by decide⟩, _, rfl, b, _, _, _, rfl, rfl, SqL.of upd_same, rfl, .inl ⟨_, rfl, _, _, rfl, rfl, (by show (0 : Int) < 8017; decide), _, _, rfl, rfl, Or.inr ⟨by decide, by decide⟩,
          _, _, rfl, rfl, .inl ⟨_, rfl, _, rfl, _, _, rfl, rfl, t0, ?_⟩⟩⟩
        refine k _ _ (Int.emod_nonneg _ (by omega)) (Int.emod_lt_of_pos _ t0) ⟨ns, i, g, _, c + 1, ?_, by rw [upd_ne nlb]; exact hl2, nlb, i0, g0, e1, by omega⟩ kk2 fr2
        exact upd_same
theorem log2_small {n : Nat} (h : n < 2 ^ 62) : n.log2 < 9000 := by
  by_cases h0 : n = 0
  · subst h0; decide
  · exact Nat.lt_of_lt_of_le ((Nat.log2_lt h0).mpr h) (by decide)
theorem ok_of {f fD : Addr} {fd fdD : FuncData} (F : Fun K "_law_of" "_law_of" s_l_of f fd) (gLen : mg "len" = none) (gD : mg "_law_draw" = some (.ref fD)) (FD : FnOk P w K mg base CX0 1 fD fdD ["_law_bag_here", "_law_top"] spDrawL)
    (kD : PySem.W.keepIn K (.ref fD) = true) (bD : Binds K fdD ["_law_bag_here", "_law_top"] []) : FnOk P w K mg base CX0 2 f fd ["_law_bag_here", "_law_some"] (spOfL K) := by
  refine F.ok sc_l_of (fun vs H Q E h => ?_) (fun cdv A outer s H vs Q E hr h => ?_)
  · obtain ⟨a, l, p, xs, rfl, _⟩ := h
    rfl
  · obtain ⟨b, l, p, xs, rfl, B, npb, hs, h0, h1, k⟩ := h
    refine ⟨_, pss_one (ps_ret (pe_ix ix_seq (pv 1) (pe_call FD hr (by rfl) gD kD bD .nil pass0 (pa_cons (pv 0) (pa_cons (pe_callB call_len_seq (by rfl) gLen PySem.boot_len (pa_cons (pv 1) pa_nil)) pa_nil))) (fun _ _ => rfl))), ?_⟩
    refine ⟨_, rfl, _, rfl, _, rfl, p, xs, rfl, hs, b, l, (xs.length : Int), rfl, B, by omega, ?_, fun d H' d0 d1 B' kk fr => ?_⟩
    · rw [Int.natAbs_natCast]
      exact log2_small h1
    · obtain ⟨v, hv⟩ : ∃ v, xs[d.toNat]? = some v := ⟨xs[d.toNat]'(by omega), List.getElem?_eq_getElem (by omega)⟩
      have hat : atI xs d = some v := at_of (j := d.toNat) (by omega) hv
      have hq : Q v H' := k v H' (List.mem_of_getElem? hv) B' kk fr
      rcases hs with hs | hs
      · exact .inl ⟨p, xs, d, v, rfl, rfl, seqL_keep kk npb hs, hat, hq⟩
      · exact .inr (.inl ⟨p, xs, d, v, rfl, rfl, seqT_keep kk npb hs, hat, hq⟩)
end
end K02

end

section
set_option Elab.async false
set_option linter.all false
set_option maxRecDepth 100000
set_option maxHeartbeats 4000000
/-! key sets: small facts about lists of whole numbers. -/
namespace SB
open PySem PySem.Spec PyProof.Rows L2
theorem flat_ints (ks : List Int) : (ks.map V.int).all flatV = true := by
  induction ks with
  | nil => rfl
  | cons a r ih => rw [List.map_cons, List.all_cons, ih]; rfl
theorem inV_ints (z : Int) : ∀ ks : List Int, inV (.int z) (ks.map V.int) = decide (z ∈ ks)
  | [] => by simp [inV]
  | a :: r => by
    show (eqV (.int a) (.int z) || inV (.int z) (r.map V.int)) = decide (z ∈ a :: r)
    rw [inV_ints z r]
    show ((a == z) || decide (z ∈ r)) = decide (z ∈ a :: r)
    by_cases h : z = a
    · subst h; simp
    · have h' : (a == z) = false := by simpa using fun e => h e.symm
      rw [h', Bool.false_or]
      simp [h]
theorem mem_ints {ks : List Int} {v : V} (h : v ∈ ks.map V.int) : ∃ k, v = .int k ∧ k ∈ ks := by
  obtain ⟨k, hk, rfl⟩ := List.mem_map.mp h
  exact ⟨k, rfl, hk⟩
/-- different items within a list are no more than its items -/
theorem nodup_le : ∀ (l1 l2 : List Int), l1.Nodup → (∀ x ∈ l1, x ∈ l2) → l1.length ≤ l2.length
  | [], _, _, _ => Nat.zero_le _
  | x :: l1, l2, hn, h => by
    have hx : x ∈ l2 := h x List.mem_cons_self
    have hn' := List.nodup_cons.mp hn
    have ih := nodup_le l1 (l2.erase x) hn'.2 fun y hy => by
      have ne : y ≠ x := fun e => hn'.1 (e ▸ hy)
      exact (List.mem_erase_of_ne ne).mpr (h y (List.mem_cons_of_mem _ hy))
    rw [List.length_erase_of_mem hx] at ih
    have : 0 < l2.length := List.length_pos_of_mem hx
    show l1.length + 1 ≤ l2.length
    omega
theorem mod_inj {w d : Int} (hw : 0 < w) {i j : Nat} (hj : (j : Int) < w) (hij : i ≤ j) (h : (d + (j : Int)) % w = (d + (i : Int)) % w) : i = j := by
  have h1 := Int.emod_eq_emod_iff_emod_sub_eq_zero.mp h
  have e : d + (j : Int) - (d + (i : Int)) = ((j - i : Nat) : Int) := by omega
  rw [e] at h1
  rw [Int.emod_eq_of_lt (by omega) (by omega)] at h1
  omega
/-- so many places in a row, round about -/
theorem mod_list {w d low : Int} (hw : 0 < w) : ∀ n : Nat, (n : Int) ≤ w → (((List.range n).map fun j : Nat => low + (d + (j : Int)) % w)).Nodup
  | 0, _ => by simp
  | n + 1, h => by
    rw [List.range_succ, List.map_append]
    refine List.nodup_append.mpr ⟨mod_list hw n (by omega), by simp, fun a ha b hb e => ?_⟩
    obtain ⟨j, hj, rfl⟩ := List.mem_map.mp ha
    have hj' : j < n := List.mem_range.mp hj
    simp only [List.map_cons, List.map_nil, List.mem_singleton] at hb
    subst hb
    have := mod_inj (w := w) (d := d) hw (i := j) (j := n) (by omega) (by omega) (by omega)
    omega
/-- a key set -/
structure KSet (ks : List Int) : Prop where
  up : ks.Pairwise (· < ·)
  lo : ∀ k ∈ ks, 0 ≤ k
  hi : ∀ k ∈ ks, k ≤ 999
theorem kset_sort {fs ks : List Int} (hp : ks.Perm fs) (hs : ks.Pairwise (· ≤ ·)) (hn : fs.Nodup) (h0 : ∀ k ∈ fs, 0 ≤ k) (h1 : ∀ k ∈ fs, k ≤ 999) : KSet ks where
  up := by
    have hn' : ks.Nodup := hp.symm.nodup hn
    exact (hs.and hn').imp fun ⟨a, b⟩ => by omega
  lo k h := h0 k (hp.mem_iff.mp h)
  hi k h := h1 k (hp.mem_iff.mp h)
end SB

end

section
set_option Elab.async false
set_option linter.all false
set_option maxRecDepth 100000
set_option maxHeartbeats 4000000
namespace K02
open PySem L2 SB
/-- a key that may be strange to a key set -/
def spStr (K : PySem.W.Frag) : Sp := fun vs H Q _ => ∃ (b l p : Addr) (ks : List Int), vs = [.ref b, .ref p] ∧ BagL H b l ∧ p ≠ b ∧ SqT K H p (ks.map V.int) ∧ ks.length ≤ 1000 ∧ (∀ k ∈ ks, 0 ≤ k ∧ k ≤ 999) ∧
  ∀ (k : Int) H', 0 ≤ k → k ≤ 999 → BagL H' b l → Keep b H H' → Q (.int k) H'
/-- a key set of so many keys -/
def spKeys (K : PySem.W.Frag) : Sp := fun vs H Q _ => ∃ (b l : Addr) (n : Nat), vs = [.ref b, .int n] ∧ BagL H b l ∧ n ≤ 60 ∧
  ∀ p ks H', KSet ks → ks.length = n → H p = none → H' p = some (.tup (ks.map V.int)) → BagL H' b l → Keep b H H' → Q (.ref p) H'
section
variable {P : Program} {w : World} {K : PySem.W.Frag} {mg : Str → Option Value} {base : Heap}
theorem ok_stranger {f fD fO : Addr} {fd fdD fdO : FuncData} (F : Fun K "_law_stranger" "_law_stranger" s_l_stranger f fd) (gInt : mg "int" = none) (gLen : mg "len" = none) (gLst : mg "list" = none) (gRng : mg "range" = none)
    (gD : mg "_law_draw" = some (.ref fD)) (FD : FnOk P w K mg base CX0 1 fD fdD ["_law_bag_here", "_law_top"] spDrawL) (kD : PySem.W.keepIn K (.ref fD) = true) (bD : Binds K fdD ["_law_bag_here", "_law_top"] [])
    (gO : mg "_law_of" = some (.ref fO)) (FO : FnOk P w K mg base CX0 2 fO fdO ["_law_bag_here", "_law_some"] (spOfL K)) (kO : PySem.W.keepIn K (.ref fO) = true) (bO : Binds K fdO ["_law_bag_here", "_law_some"] []) :
    FnOk P w K mg base CX0 3 f fd ["_law_bag_here", "_law_ks"] (spStr K) := by
  refine F.ok sc_l_stranger (fun vs H Q E h => ?_) (fun cdv A outer s H vs Q E hr h => ?_)
  · obtain ⟨b, l, p, xs, rfl, _⟩ := h
    rfl
  · obtain ⟨b, l, p, ks, rfl, B, npb, hs, hl, hk, k⟩ := h
    have nd := sc_l_stranger.nd
    refine ⟨_, pss_cons (ps_set (i := 2) nd rfl (Or.inl rfl) (pe_call FO (hr.mono (by decide)) (by rfl) gO kO bO .nil pass0 (pa_cons (pv 0) (pa_cons (pe_op op_cat (pe_callTy call_list_of (by rfl) gLst (by decide +kernel) (pa_cons (pv 1) pa_nil))
        (pe_lst (pa_cons pe_int (pa_cons pe_int (pa_cons (pe_call FD (hr.mono (by decide)) (by rfl) gD kD bD .nil pass0 (pa_cons (pv 0) (pa_cons pe_int pa_nil))) pa_nil))))) pa_nil))))
      (pss_cons (ps_for PassesOwn.never rfl (pi_range1 (by rfl) gRng (pa_cons (pe_op op_add (pe_callB call_len_seq (by rfl) gLen PySem.boot_len (pa_cons (pv 1) pa_nil)) pe_int) pa_nil)) (pg_name (i := 3) nd rfl (Or.inl rfl))
        (pss_cons (ps_if (pt_cmpR op_notIn_seq (pv 2) (pv 1) (by rfl)) (pss_one ps_break) pss_nil)
        (pss_one (ps_set (i := 2) nd rfl (Or.inl rfl) (pe_op op_mod (pe_callTy call_int1 (by rfl) gInt (by decide +kernel) (pa_cons (pe_op op_add (pv 2) pe_int) pa_nil)) pe_int)))))
      (pss_one (ps_ret (pv 2)))), ?_⟩
    refine ⟨_, rfl, _, rfl, p, _, rfl, .inr hs, fun q1 hq1 => ?_⟩
    have n1 := B.ne hq1
    refine ⟨_, rfl, b, l, _, rfl, B.new hq1, by decide, by decide, fun d H1 d0 d1 B1 k1 _ => ?_⟩
    refine ⟨(by show 3 ≤ sizeLine; decide), fun q2 hq2 => ?_⟩
    have e1 : upd H1 q2 (.lst [.int 0, .int 999, .int d]) q1 = some (.lst (ks.map V.int)) := by
      have := k1 _ _ (upd_same (H := H) (a := q1) (o := .lst (ks.map V.int))) n1
      rw [upd_ne (ne_of_none this hq2)]
      exact this
    have K2 : Keep b H (upd H1 q2 (.lst [.int 0, .int 999, .int d])) := ((Keep.new (Keep.refl b H) hq1).trans k1).new hq2
    refine ⟨q1, q2, _, _, rfl, rfl, e1, upd_same, (by rw [List.length_map, sizeLine_eq]; show ks.length + 3 ≤ _; omega), fun q3 hq3 => ?_⟩
    have B3 := (B1.new (o := .lst [.int 0, .int 999, .int d]) hq2).new (o := .lst (ks.map V.int ++ [.int 0, .int 999, .int d])) hq3
    have K3 := K2.new (o := .lst (ks.map V.int ++ [.int 0, .int 999, .int d])) hq3
    refine of_seqL (E := E0) B3 ((B1.new hq2).ne hq3) (.inl (SqL.of upd_same)) (by rw [List.length_append]; show 0 < _ + 3; omega) (by rw [List.length_append, List.length_map]; show _ + 3 < _; omega) fun v H4 hv B4 k4 _ => ?_
    have K4 := K3.trans k4
    obtain ⟨k0, rfl, a0, a1⟩ : ∃ k0 : Int, v = .int k0 ∧ 0 ≤ k0 ∧ k0 ≤ 999 := by
      rcases List.mem_append.mp hv with hv | hv
      · obtain ⟨z, rfl, hz⟩ := mem_ints hv
        exact ⟨z, rfl, hk z hz⟩
      · simp only [List.mem_cons, List.not_mem_nil, or_false] at hv
        rcases hv with rfl | rfl | rfl
        · exact ⟨0, rfl, by decide, by decide⟩
        · exact ⟨999, rfl, by decide, by decide⟩
        · exact ⟨d, rfl, d0, by omega⟩
    have hs4 : ∀ {H' : Hp}, Keep b H H' → SqT K H' p (ks.map V.int) := fun kk => seqT_keep kk npb hs
    refine ⟨_, rfl, p, _, rfl, .inr (hs4 K4), _, _, rfl, rfl, _, rfl, (by rw [List.length_map]; omega), (by rw [List.length_map]; omega), ?_⟩
    refine for_range (n := ((((ks.map V.int).length : Nat) : Int) + 1).toNat) (fun i σ H' => ∃ k1 z, σ = [some (.ref b), some (.ref p), some (.int k1), z] ∧ 0 ≤ k1 ∧ k1 ≤ 999 ∧ BagL H' b l ∧ Keep b H H')
      ⟨k0, none, rfl, a0, a1, B4, K4⟩ ?_ ?_
    · rintro i σ H' hi ⟨k1, z, rfl, c0, c1, B', kk⟩
      refine ⟨_, rfl, _, rfl, p, _, rfl, .inr (hs4 kk), rfl, flat_ints ks, _, rfl, ite2 (fun h => ?_) (fun h => ?_)⟩
      · exact ⟨_, rfl, k k1 H' c0 c1 B' kk⟩
      · refine ⟨_, rfl, _, _, rfl, rfl, .inl ⟨_, rfl, _, _, rfl, rfl, (by show (0 : Int) < 1000; decide), ?_⟩⟩
        refine ⟨_, _, rfl, Int.emod_nonneg _ (by decide), ?_, B', kk⟩
        have := Int.emod_lt_of_pos (k1 + 1) (show (0 : Int) < 1000 by decide)
        omega
    · rintro σ H' ⟨k1, z, rfl, c0, c1, B', kk⟩
      exact ⟨_, rfl, k k1 H' c0 c1 B' kk⟩
theorem ok_keys {f fD fO : Addr} {fd fdD fdO : FuncData} (F : Fun K "_law_keys" "_law_keys" s_l_keys f fd) (gInt : mg "int" = none) (gMax : mg "max" = none) (gTup : mg "tuple" = none) (gSrt : mg "sorted" = none) (gRng : mg "range" = none)
    (gD : mg "_law_draw" = some (.ref fD)) (FD : FnOk P w K mg base CX0 1 fD fdD ["_law_bag_here", "_law_top"] spDrawL) (kD : PySem.W.keepIn K (.ref fD) = true) (bD : Binds K fdD ["_law_bag_here", "_law_top"] [])
    (gO : mg "_law_of" = some (.ref fO)) (FO : FnOk P w K mg base CX0 2 fO fdO ["_law_bag_here", "_law_some"] (spOfL K)) (kO : PySem.W.keepIn K (.ref fO) = true) (bO : Binds K fdO ["_law_bag_here", "_law_some"] []) :
    FnOk P w K mg base CX0 3 f fd ["_law_bag_here", "_law_many"] (spKeys K) := by
  refine F.ok sc_l_keys (fun vs H Q E h => ?_) (fun cdv A outer s H vs Q E hr h => ?_)
  · obtain ⟨b, l, n, rfl, _⟩ := h
    rfl
  · obtain ⟨b, l, n, rfl, B, hn, k⟩ := h
    have nd := sc_l_keys.nd
    have hr2 : Room 2 _ := hr.mono (by decide)
    have hr1 : Room 1 _ := hr.mono (by decide)
    refine ⟨_, pss_cut (ps_set (i := 2) nd rfl (Or.inl rfl) (pe_callB (call_max2 rfl) (by rfl) gMax (by decide +kernel) (pa_cons pe_int (pa_cons (pe_call FO hr2 (by rfl) gO kO bO .nil pass0 (pa_cons (pv 0) (pa_cons (pe_lst (pa_cons (pv 1) (pa_cons (pe_op op_add (pv 1) pe_int) (pa_cons (pe_op op_add (pv 1) pe_int) (pa_cons pe_int (pa_cons pe_int pa_nil)))))) pa_nil))) pa_nil))))
      (pss_cut (ps_set (i := 3) nd rfl (Or.inl rfl) (pe_call FO hr2 (by rfl) gO kO bO .nil pass0 (pa_cons (pv 0) (pa_cons (pe_lst (pa_cons pe_int (pa_cons (pe_op op_sub pe_int (pv 2)) (pa_cons (pe_call FD hr1 (by rfl) gD kD bD .nil pass0 (pa_cons (pv 0) (pa_cons (pe_op op_sub pe_int (pv 2)) pa_nil))) pa_nil)))) pa_nil))))
      (pss_cons (ps_set (i := 4) nd rfl (Or.inl rfl) (pe_lst pa_nil))
      (pss_cons (ps_for PassesOwn.never rfl (pi_range1 (by rfl) gRng (pa_cons (pv 1) pa_nil)) (pg_name (i := 5) nd rfl (Or.inl rfl))
        (pss_cons (ps_set (i := 6) nd rfl (Or.inl rfl) (pe_call FD hr1 (by rfl) gD kD bD .nil pass0 (pa_cons (pv 0) (pa_cons (pv 2) pa_nil))))
        (pss_cut (ps_for PassesOwn.never rfl (pi_range1 (by rfl) gRng (pa_cons (pv 1) pa_nil)) (pg_name (i := 7) nd rfl (Or.inl rfl))
          (pss_cons (ps_if (pt_cmpR op_notIn_seq (pe_op op_add (pv 3) (pv 6)) (pv 4) (by rfl)) (pss_one ps_break) pss_nil)
          (pss_one (ps_set (i := 6) nd rfl (Or.inl rfl) (pe_op op_mod (pe_callTy call_int1 (by rfl) gInt (by decide +kernel) (pa_cons (pe_op op_add (pv 6) pe_int) pa_nil)) (pv 2))))))
        (pss_one (ps_expr (pe_bm PySem.F.plainAttrs_list PySem.F.slot_list_append PySem.F.type_list_append mt_append (pv 4) (pa_cons (pe_op op_add (pv 3) (pv 6)) pa_nil)))))))
      (pss_one (ps_ret (pe_callTy call_tuple_of (by rfl) gTup (by decide +kernel) (pa_cons (pe_callB cr_sorted (by rfl) gSrt (by decide +kernel) (pa_cons (pv 4) pa_nil)) pa_nil))))))), ?_⟩
    refine ⟨fun σ H' => ∃ wd : Int, σ = [some (.ref b), some (.int n), some (.int wd), none, none, none, none, none] ∧ 1 ≤ wd ∧ wd ≤ 1000 ∧ (n : Int) ≤ wd ∧ BagL H' b l ∧ Keep b H H', ?_, ?_⟩
    · refine ⟨_, rfl, _, rfl, _, rfl, _, _, rfl, rfl, _, rfl, _, _, rfl, rfl, (by show 5 ≤ sizeLine; decide), fun q1 hq1 => ?_⟩
      refine of_seqL (E := E0) (B.new hq1) (B.ne hq1) (.inl (SqL.of upd_same)) (by show 0 < 5; decide) (by show 5 < 2 ^ 62; decide) fun v H1 hv B1 k1 _ => ?_
      obtain ⟨z, rfl, z0, z1⟩ : ∃ z : Int, v = .int z ∧ (n : Int) ≤ z ∧ z ≤ 1000 := by
        simp only [List.mem_cons, List.not_mem_nil, or_false] at hv
        rcases hv with rfl | rfl | rfl | rfl | rfl
        · exact ⟨_, rfl, by omega, by omega⟩
        · exact ⟨_, rfl, by omega, by omega⟩
        · exact ⟨_, rfl, by omega, by omega⟩
        · exact ⟨_, rfl, by omega, by omega⟩
        · exact ⟨_, rfl, by omega, by omega⟩
      refine ⟨_, _, rfl, _, rfl, ?_, ?_, ?_, B1, (Keep.new (Keep.refl b H) hq1).trans k1⟩ <;> (split <;> omega)
    · rintro σ H1 ⟨wd, rfl, w1, w2, w3, B1, K1⟩
      refine ⟨fun σ H' => ∃ lo : Int, σ = [some (.ref b), some (.int n), some (.int wd), some (.int lo), none, none, none, none] ∧ 0 ≤ lo ∧ lo + wd ≤ 1000 ∧ BagL H' b l ∧ Keep b H H', ?_, ?_⟩
      · refine ⟨_, rfl, _, rfl, _, _, rfl, rfl, _, rfl, _, rfl, _, _, rfl, rfl, b, l, _, rfl, B1, by omega, log_small (by omega) (by omega), fun d H2 d0 d1 B2 k2 _ => ?_⟩
        refine ⟨(by show 3 ≤ sizeLine; decide), fun q1 hq1 => ?_⟩
        refine of_seqL (E := E0) (B2.new hq1) (B2.ne hq1) (.inl (SqL.of upd_same)) (by show 0 < 3; decide) (by show 3 < 2 ^ 62; decide) fun v H3 hv B3 k3 _ => ?_
        obtain ⟨z, rfl, z0, z1⟩ : ∃ z : Int, v = .int z ∧ 0 ≤ z ∧ z + wd ≤ 1000 := by
          simp only [List.mem_cons, List.not_mem_nil, or_false] at hv
          rcases hv with rfl | rfl | rfl
          · exact ⟨_, rfl, by omega, by omega⟩
          · exact ⟨_, rfl, by omega, by omega⟩
          · exact ⟨_, rfl, by omega, by omega⟩
        exact ⟨z, rfl, z0, z1, B3, ((K1.trans k2).new hq1).trans k3⟩
      · rintro σ H2 ⟨lo, rfl, l0, l1, B2, K2⟩
        have wn : ∀ {x y : Int}, x % wd < wd := fun {x y} => Int.emod_lt_of_pos x (by omega)
        refine ⟨(by decide), fun D hD => ?_⟩
        have nb := B2.ne hD
        have nl := B2.nl hD
        have hDH : H D = none := by
          cases e : H D with
          | none => rfl
          | some o => rw [K2 _ _ e nb] at hD; cases hD
        refine ⟨_, rfl, _, rfl, by omega, by omega, ?_⟩
        refine for_range (n := n) (fun i σ H' => ∃ (fs : List Int) (z5 z6 z7 : Option V), σ = [some (.ref b), some (.int n), some (.int wd), some (.int lo), some (.ref D), z5, z6, z7] ∧ fs.length = i ∧ fs.Nodup ∧ (∀ x ∈ fs, lo ≤ x ∧ x < lo + wd) ∧ H' D = some (.lst (fs.map V.int)) ∧ BagL H' b l ∧ Keep b H H')
          ⟨[], none, none, none, rfl, rfl, List.nodup_nil, (fun x hx => by cases hx), upd_same, B2.new hD, K2.new hD⟩ ?_ ?_
        · rintro i σ H' hi ⟨fs, z5, z6, z7, rfl, hfl, hfn, hfr, hf, B', kk⟩
          refine ⟨_, rfl, _, rfl, b, l, _, rfl, B', by omega, log_small (by omega) (by omega), fun d0 H3 e0 e1 B3 k3 _ => ?_⟩
          have hf3 := k3 _ _ hf nb
          refine ⟨fun σ H' => H' = H3 ∧ ∃ (d : Int) (z7 : Option V), σ = [some (.ref b), some (.int n), some (.int wd), some (.int lo), some (.ref D), some (.int (0 + i)), some (.int d), z7] ∧ 0 ≤ d ∧ d < wd ∧ lo + d ∉ fs, ?_, ?_⟩
          · refine ⟨_, rfl, _, rfl, by omega, by omega, ?_⟩
            have z0 : (d0 + ((0 : Nat) : Int)) % wd = d0 := by
              rw [Int.emod_eq_of_lt] <;> simp <;> omega
            refine for_range (n := n) (fun t σ H' => H' = H3 ∧ ∃ z7 : Option V, σ = [some (.ref b), some (.int n), some (.int wd), some (.int lo), some (.ref D), some (.int (0 + i)), some (.int ((d0 + (t : Int)) % wd)), z7] ∧ ∀ j : Nat, j < t → lo + (d0 + (j : Int)) % wd ∈ fs)
              ⟨rfl, _, by rw [z0]; rfl, fun j hj => absurd hj (by omega)⟩ ?_ ?_
            · rintro t σ H' ht ⟨rfl, z7, rfl, hin⟩
              refine ⟨_, rfl, _, rfl, _, _, rfl, rfl, _, rfl, D, _, rfl, .inl (SqL.of hf3), rfl, flat_ints fs, _, rfl, ?_⟩
              have e : (if true = true then !inV (V.int (lo + (d0 + (t : Int)) % wd)) (fs.map V.int) else inV (V.int (lo + (d0 + (t : Int)) % wd)) (fs.map V.int)) = !decide (lo + (d0 + (t : Int)) % wd ∈ fs) := by
                rw [if_pos rfl, inV_ints]
              rw [e]
              by_cases hm : lo + (d0 + (t : Int)) % wd ∈ fs
              · rw [decide_eq_true hm]
                refine iteF ?_
                refine ⟨_, rfl, _, _, rfl, rfl, .inl ⟨_, rfl, _, rfl, _, _, rfl, rfl, by omega, ?_⟩⟩
                have en : ((d0 + (t : Int)) % wd + 1) % wd = (d0 + ((t + 1 : Nat) : Int)) % wd := by
                  rw [Int.emod_add_emod, show d0 + (t : Int) + 1 = d0 + ((t + 1 : Nat) : Int) by omega]
                refine ⟨rfl, some (.int (0 + (t : Int))), by rw [← en]; rfl, fun j hj => ?_⟩
                by_cases hjt : j = t
                · subst hjt; exact hm
                · exact hin j (by omega)
              · rw [decide_eq_false hm]
                refine iteT ?_
                exact ⟨rfl, _, _, rfl, Int.emod_nonneg _ (by omega), wn (y := 0), hm⟩
            · rintro σ H' ⟨rfl, z7, rfl, hin⟩
              exfalso
              have := nodup_le _ fs (mod_list (w := wd) (d := d0) (low := lo) (by omega) n w3) fun x hx => by
                obtain ⟨j, hj, rfl⟩ := List.mem_map.mp hx
                exact hin j (List.mem_range.mp hj)
              rw [List.length_map, List.length_range] at this
              omega
          · rintro σ H' ⟨rfl, d, z7, rfl, f0, f1, hm⟩
            refine ⟨_, rfl, .inl ⟨rfl, _, SqL.of hf3⟩, _, rfl, _, rfl, _, _, rfl, rfl, D, _, _, rfl, rfl, hf3, ?_, ?_⟩
            · rw [List.length_map, hfl, sizeLine_eq]; omega
            · refine ⟨fs ++ [lo + d], _, _, _, rfl, by rw [List.length_append, hfl]; rfl, ?_, ?_, ?_, B3.put nb nl, ?_⟩
              · refine List.nodup_append.mpr ⟨hfn, by simp, fun a ha b' hb' e => ?_⟩
                simp only [List.mem_singleton] at hb'
                exact hm (by rw [← hb', ← e]; exact ha)
              · intro x hx
                rcases List.mem_append.mp hx with hx | hx
                · exact hfr x hx
                · simp only [List.mem_singleton] at hx
                  omega
              · rw [upd_same, List.map_append]; rfl
              · intro c o e nc
                rw [upd_ne (ne_of_none e hDH)]
                exact k3 _ _ (kk _ _ e nc) nc
        · rintro σ H' ⟨fs, z5, z6, z7, rfl, hfl, hfn, hfr, hf, B', kk⟩
          refine ⟨_, rfl, D, fs, rfl, SqL.of hf, by omega, fun ks q hp hs hq => ?_⟩
          refine ⟨q, _, rfl, .inl ⟨SqL.of upd_same, fun t ht => ?_⟩⟩
          have htH : H t = none := by
            cases e : H t with
            | none => rfl
            | some o =>
              have tb : t ≠ b := fun z => by
                subst z
                exact (B'.new (o := .lst (ks.map V.int)) hq).ne ht rfl
              rw [upd_ne (ne_of_none (kk _ _ e tb) hq), kk _ _ e tb] at ht
              cases ht
          refine k t ks _ (kset_sort hp hs hfn (fun k hk => ?_) (fun k hk => ?_)) (by rw [hp.length_eq, hfl]) htH upd_same ((B'.new hq).new ht) ((kk.new hq).new ht)
          · have := hfr k hk; omega
          · have := hfr k hk; omega
end
end K02

end

section
set_option Elab.async false
set_option linter.all false
set_option maxRecDepth 100000
set_option maxHeartbeats 4000000
/-! what a text may be asked about any value: whether it is a number, a key, a key set. -/
namespace SB
open PySem PySem.Spec PyProof.Rows L2
/-- a whole number that is no bool, or something else -/
inductive NV (K : PySem.W.Frag) (H : Hp) : V → Option Int → Prop
  | int (i : Int) : NV K H (.int i) (some i)
  | no {v : V} (t : Value) (b1 b2 : Bool) (ty : TyX K H v t) (h1 : PySem.W.kitOne K t (.type "int") = some b1) (h2 : PySem.W.kitOne K t (.type "bool") = some b2) (h : (b1 && !b2) = false) : NV K H v none
theorem NV.same {K : PySem.W.Frag} {H H' : Hp} {v : V} {o : Option Int} (s : ∀ t, TyX K H v t → TyX K H' v t) (n : NV K H v o) : NV K H' v o := by
  cases n with
  | int i => exact .int i
  | no t b1 b2 ty h1 h2 h => exact .no t b1 b2 (s t ty) h1 h2 h
theorem tyX_sm {K : PySem.W.Frag} {H H' : Hp} {x : V} {t : Value} (s : Same H H') (h : TyX K H x t) : TyX K H' x t := by
  cases h with
  | base h =>
    refine .base ?_
    cases h with
    | non => exact .non
    | bl b => exact .bl b
    | int i => exact .int i
    | str z => exact .str z
    | flt z => exact .flt z
    | lst e => exact .lst (s _ _ e)
    | frz e => exact .frz (s _ _ e)
    | tup e => exact .tup (s _ _ e)
    | dK e => exact .dK (s _ _ e)
    | dT e => exact .dT (s _ _ e)
    | ins e cl ha hn ht hm => exact .ins (s _ _ e) cl ha hn ht hm
  | byt b => exact .byt b
  | set e => exact .set (s _ _ e)
  | kList e c => exact .kList e c
  | kTuple e c => exact .kTuple e c
  | kDict e c => exact .kDict e c
  | fTuple e => exact .fTuple (s _ _ e)
  | fDict e => exact .fDict (s _ _ e)
theorem NV.sm {K : PySem.W.Frag} {H H' : Hp} {v : V} {o : Option Int} (s : Same H H') (n : NV K H v o) : NV K H' v o := n.same fun _ => tyX_sm s
def keyB : Option Int → Bool
  | some i => decide (0 ≤ i) && decide (i ≤ 999)
  | none => false
/-- pairs of neighbours that rise -/
def upL : List (Option Int) → List Bool
  | some a :: some b :: r => decide (a < b) :: upL (some b :: r)
  | _ :: b :: r => true :: upL (b :: r)
  | _ => []
def setB (os : List (Option Int)) : Bool := os.all keyB && (upL os).all id
theorem upL_len : ∀ os : List (Option Int), (upL os).length = os.length - 1
  | [] => rfl
  | [a] => by cases a <;> rfl
  | some a :: some b :: r => by
    show (upL (some b :: r)).length + 1 = _
    rw [upL_len (some b :: r)]; rfl
  | some a :: none :: r => by
    show (upL (none :: r)).length + 1 = _
    rw [upL_len (none :: r)]; rfl
  | none :: b :: r => by
    show (upL (b :: r)).length + 1 = _
    rw [upL_len (b :: r)]; rfl
theorem upL_at : ∀ {ks : List Int} {i : Nat} {a b : Int}, ks[i]? = some a → ks[i + 1]? = some b → (upL (ks.map some))[i]? = some (decide (a < b))
  | x :: y :: r, 0, a, b, h1, h2 => by
    have e1 : x = a := by simpa using h1
    have e2 : y = b := by simpa using h2
    subst e1 e2
    rfl
  | x :: y :: r, i + 1, a, b, h1, h2 => by
    show (upL ((y :: r).map some))[i]? = _
    exact upL_at (ks := y :: r) (by simpa using h1) (by simpa using h2)
  | [x], 0, a, b, h1, h2 => by simp at h2
  | [x], i + 1, a, b, h1, h2 => by simp at h1
  | [], i, a, b, h1, h2 => by simp at h1
theorem setB_ks {ks : List Int} (h : KSet ks) : setB (ks.map some) = true := by
  unfold setB
  rw [Bool.and_eq_true]
  refine ⟨?_, ?_⟩
  · rw [List.all_eq_true]
    intro o ho
    obtain ⟨k, hk, rfl⟩ := List.mem_map.mp ho
    have a := h.lo k hk
    have b := h.hi k hk
    simp [keyB, a, b]
  · have hu := h.up
    clear h
    induction ks with
    | nil => rfl
    | cons a r ih =>
      cases r with
      | nil => rfl
      | cons b r =>
        have hp := List.pairwise_cons.mp hu
        show (decide (a < b) && (upL ((b :: r).map some)).all id) = true
        rw [ih hp.2, decide_eq_true (hp.1 b List.mem_cons_self)]
        rfl
/-- all keys: whole numbers, all of them -/
theorem keys_all {K : PySem.W.Frag} {H : Hp} : ∀ {xs : List V} {os : List (Option Int)}, Paired (NV K H) xs os → os.all keyB = true → ∃ ks : List Int, xs = ks.map V.int ∧ os = ks.map some
  | _, _, .nil, _ => ⟨[], rfl, rfl⟩
  | _, _, .cons (a := x) (b := o) a t, h => by
    rw [List.all_cons, Bool.and_eq_true] at h
    obtain ⟨ks, e1, e2⟩ := keys_all t h.2
    cases a with
    | int i => exact ⟨i :: ks, by rw [e1]; rfl, by rw [e2]; rfl⟩
    | no => cases h.1
/-- a tuple, or not; whether it is a key set -/
def SV (K : PySem.W.Frag) (H : Hp) (v : V) (r : Bool) : Prop := (∃ t, TyX K H v t ∧ PySem.W.kitOne K t (.type "tuple") = some false ∧ r = false) ∨
  ∃ a xs os, v = .ref a ∧ SqT K H a xs ∧ xs.length ≤ 2000 ∧ Paired (NV K H) xs os ∧ r = setB os
theorem SV.sm {K : PySem.W.Frag} {H H' : Hp} {v : V} {r : Bool} (s : Same H H') (n : SV K H v r) : SV K H' v r := by
  rcases n with ⟨t, h1, h2, h3⟩ | ⟨a, xs, os, h1, h2, hz, h3, h4⟩
  · exact .inl ⟨t, tyX_sm s h1, h2, h3⟩
  · exact .inr ⟨a, xs, os, h1, sqT_same s h2, hz, paired_imp (fun _ _ q => q.sm s) h3, h4⟩
def spNum (K : PySem.W.Frag) : Sp := fun vs H Q _ => ∃ v o, vs = [v] ∧ NV K H v o ∧ Q (.bl o.isSome) H
def spKey (K : PySem.W.Frag) : Sp := fun vs H Q _ => ∃ v o, vs = [v] ∧ NV K H v o ∧ Q (.bl (keyB o)) H
def spSet (K : PySem.W.Frag) : Sp := fun vs H Q _ => ∃ v r, vs = [v] ∧ SV K H v r ∧ ∀ H', Same H H' → Q (.bl r) H'
/-- a tuple, or not; whether it is a lot -/
def LV (K : PySem.W.Frag) (H : Hp) (v : V) (r : Bool) : Prop := (∃ t, TyX K H v t ∧ PySem.W.kitOne K t (.type "tuple") = some false ∧ r = false) ∨
  ∃ a xs os, v = .ref a ∧ SqT K H a xs ∧ xs.length ≤ 2000 ∧ Paired (NV K H) xs os ∧ r = (setB os && decide (0 < xs.length))
theorem LV.sm {K : PySem.W.Frag} {H H' : Hp} {v : V} {r : Bool} (s : Same H H') (n : LV K H v r) : LV K H' v r := by
  rcases n with ⟨t, h1, h2, h3⟩ | ⟨a, xs, os, h1, h2, hz, h3, h4⟩
  · exact .inl ⟨t, tyX_sm s h1, h2, h3⟩
  · exact .inr ⟨a, xs, os, h1, sqT_same s h2, hz, paired_imp (fun _ _ q => q.sm s) h3, h4⟩
def spLot (K : PySem.W.Frag) : Sp := fun vs H Q _ => ∃ v r, vs = [v] ∧ LV K H v r ∧ ∀ H', Same H H' → Q (.bl r) H'
/-- whether a value lives -/
def liveB (ks : List Int) : Option Int → Bool
  | some i => keyB (some i) && decide (i ∈ ks)
  | none => false
def spLive (K : PySem.W.Frag) : Sp := fun vs H Q _ => ∃ p ks v o, vs = [.ref p, v] ∧ SqT K H p (ks.map V.int) ∧ NV K H v o ∧ Q (.bl (liveB ks o)) H
theorem liveB_key {ks : List Int} (h : KSet ks) (i : Int) : liveB ks (some i) = decide (i ∈ ks) := by
  unfold liveB keyB
  by_cases m : i ∈ ks
  · have a := h.lo i m
    have b := h.hi i m
    simp [m, a, b]
  · simp [m]
section
variable {X : Cx} {st : Stmt} {sts : List Stmt} {e : Expr}
/-- what is never reached needs no reading -/
theorem ps_dead : PS X st (fun _ _ _ => False) := ⟨fun _ _ _ _ _ _ h => h.elim⟩
theorem pss_dead : PSs X sts (fun _ _ _ => False) := ⟨fun _ _ _ _ _ _ h => h.elim⟩
theorem pe_dead : PE X e (fun _ _ _ => False) := ⟨fun _ _ _ _ _ _ h => h.elim⟩
end
end SB

end

section
set_option Elab.async false
set_option linter.all false
set_option maxRecDepth 100000
set_option maxHeartbeats 4000000
namespace K02
open PySem L2 SB
section
variable {P : Program} {w : World} {K : PySem.W.Frag} {mg : Str → Option Value} {base : Heap}
theorem ok_num {f : Addr} {fd : FuncData} (F : Fun K "is_number" "is_number" s_is_number f fd) (gIsi : mg "isinstance" = none) (gInt : mg "int" = none) (gBool : mg "bool" = none) : FnOk P w K mg base CX0 1 f fd ["value"] (spNum K) := by
  refine F.ok sc_is_number (fun vs H Q E h => ?_) (fun cdv A outer s H vs Q E hr h => ?_)
  · obtain ⟨v, o, rfl, _⟩ := h
    rfl
  · obtain ⟨v, o, rfl, nv, k⟩ := h
    refine ⟨_, pss_one (ps_ret (pe_and (pe_callB call_isi (by rfl) gIsi (by decide +kernel) (pa_cons (pv 0) (pa_cons (pe_bltn (v := .ty "int") (by rfl) gInt (by decide +kernel) rfl) pa_nil)))
      (pe_one (pe_not (pe_callB call_isi (by rfl) gIsi (by decide +kernel) (pa_cons (pv 0) (pa_cons (pe_bltn (v := .ty "bool") (by rfl) gBool (by decide +kernel) rfl) pa_nil))))))), ?_⟩
    cases nv with
    | int i =>
      refine rd_is (b := true) (i := 0) rfl (.base (.int i)) (by decide +kernel) ⟨_, rfl, iteT ?_⟩
      exact rd_is (b := false) (i := 0) rfl (.base (.int i)) (by decide +kernel) ⟨_, rfl, k⟩
    | no t b1 b2 ty h1 h2 h =>
      refine ⟨v, rfl, v, .ty "int", _, _, b1, rfl, .ty "int", ty, h1, b1, rfl, ?_⟩
      cases b1 with
      | false => exact iteF k
      | true =>
        refine iteT ⟨v, rfl, v, .ty "bool", _, _, b2, rfl, .ty "bool", ty, h2, b2, rfl, ?_⟩
        cases b2 with
        | false => cases h
        | true => exact k
theorem ok_key {f fN : Addr} {fd fdN : FuncData} {t : Tok} (F : Fun K "is_key" "is_key" s_is_key f fd) (gG : mg "GREATEST_KEY" = some (.int 999 t)) (gN : mg "is_number" = some (.ref fN)) (FN : FnOk P w K mg base CX0 1 fN fdN ["value"] (spNum K))
    (kN : PySem.W.keepIn K (.ref fN) = true) (bN : Binds K fdN ["value"] []) : FnOk P w K mg base CX0 2 f fd ["value"] (spKey K) := by
  refine F.ok sc_is_key (fun vs H Q E h => ?_) (fun cdv A outer s H vs Q E hr h => ?_)
  · obtain ⟨v, o, rfl, _⟩ := h
    rfl
  · obtain ⟨v, o, rfl, nv, k⟩ := h
    refine ⟨_, pss_one (ps_ret (pe_and (pe_call FN hr (by rfl) gN kN bN .nil pass0 (pa_cons (pv 0) pa_nil))
      (pe_one (pe_chain op_le op_le pe_int (pv 0) (pe_glob (v := .int 999) (by rfl) gG ⟨_, rfl⟩))))), ?_⟩
    refine ⟨_, rfl, v, o, rfl, nv, _, rfl, ?_⟩
    cases nv with
    | no t b1 b2 ty h1 h2 h => exact iteF k
    | int i =>
      refine iteT ⟨_, rfl, _, _, rfl, rfl, _, rfl, ite2 (fun h => ?_) (fun h => ?_)⟩
      · refine ⟨_, _, rfl, rfl, ?_⟩
        have e : keyB (some i) = decide (i ≤ 999) := by
          show (decide (0 ≤ i) && decide (i ≤ 999)) = _
          rw [show decide (0 ≤ i) = true from h]; rfl
        rw [e] at k
        exact k
      · have e : keyB (some i) = false := by
          show (decide (0 ≤ i) && decide (i ≤ 999)) = _
          rw [show decide (0 ≤ i) = false from Bool.eq_false_iff.mpr h]; rfl
        rw [e] at k
        exact k
theorem ok_lkey {f : Addr} {fd : FuncData} (F : Fun K "_law_is_key" "_law_is_key" s_l_is_key f fd) (gIsi : mg "isinstance" = none) (gInt : mg "int" = none) (gBool : mg "bool" = none) : FnOk P w K mg base CX0 1 f fd ["_law_v"] (spKey K) := by
  refine F.ok sc_l_is_key (fun vs H Q E h => ?_) (fun cdv A outer s H vs Q E hr h => ?_)
  · obtain ⟨v, o, rfl, _⟩ := h
    rfl
  · obtain ⟨v, o, rfl, nv, k⟩ := h
    refine ⟨_, pss_one (ps_ret (pe_and (pe_callB call_isi (by rfl) gIsi (by decide +kernel) (pa_cons (pv 0) (pa_cons (pe_bltn (v := .ty "int") (by rfl) gInt (by decide +kernel) rfl) pa_nil)))
      (pe_and (pe_not (pe_callB call_isi (by rfl) gIsi (by decide +kernel) (pa_cons (pv 0) (pa_cons (pe_bltn (v := .ty "bool") (by rfl) gBool (by decide +kernel) rfl) pa_nil))))
      (pe_one (pe_chain op_le op_le pe_int (pv 0) pe_int))))), ?_⟩
    cases nv with
    | int i =>
      refine rd_is (b := true) (i := 0) rfl (.base (.int i)) (by decide +kernel) ⟨_, rfl, iteT ?_⟩
      refine rd_is (b := false) (i := 0) rfl (.base (.int i)) (by decide +kernel) ⟨_, rfl, _, rfl, iteT ?_⟩
      refine ⟨_, rfl, _, _, rfl, rfl, _, rfl, ite2 (fun h => ?_) (fun h => ?_)⟩
      · refine ⟨_, _, rfl, rfl, ?_⟩
        have e : keyB (some i) = decide (i ≤ 999) := by
          show (decide (0 ≤ i) && decide (i ≤ 999)) = _
          rw [show decide (0 ≤ i) = true from h]; rfl
        rw [e] at k
        exact k
      · have e : keyB (some i) = false := by
          show (decide (0 ≤ i) && decide (i ≤ 999)) = _
          rw [show decide (0 ≤ i) = false from Bool.eq_false_iff.mpr h]; rfl
        rw [e] at k
        exact k
    | no t b1 b2 ty h1 h2 h =>
      refine ⟨v, rfl, v, .ty "int", _, _, b1, rfl, .ty "int", ty, h1, b1, rfl, ?_⟩
      cases b1 with
      | false => exact iteF k
      | true =>
        refine iteT ⟨v, rfl, v, .ty "bool", _, _, b2, rfl, .ty "bool", ty, h2, b2, rfl, ?_⟩
        cases b2 with
        | false => cases h
        | true => exact ⟨_, rfl, iteF k⟩
end
end K02

end

section
set_option Elab.async false
set_option linter.all false
set_option maxRecDepth 100000
set_option maxHeartbeats 4000000
namespace K02
open PySem L2 SB
theorem all_map {os : List (Option Int)} : ((os.map keyB).all id) = os.all keyB := by
  rw [List.all_map]; rfl
section
variable {P : Program} {w : World} {K : PySem.W.Frag} {mg : Str → Option Value} {base : Heap}
structure TSet (mg : Str → Option Value) : Prop where
  isi : mg "isinstance" = none
  tup : mg "tuple" = none
  all : mg "all" = none
  len : mg "len" = none
  rng : mg "range" = none
theorem ok_set {f fK : Addr} {fd fdK : FuncData} (F : Fun K "is_key_set" "is_key_set" s_is_key_set f fd) (T : TSet mg) (gK : mg "is_key" = some (.ref fK)) (FK : FnOk P w K mg base CX0 2 fK fdK ["value"] (spKey K))
    (kK : PySem.W.keepIn K (.ref fK) = true) (bK : Binds K fdK ["value"] []) : FnOk P w K mg base CX0 3 f fd ["value"] (spSet K) := by
  refine F.ok sc_is_key_set (fun vs H Q E h => ?_) (fun cdv A outer s H vs Q E hr h => ?_)
  · obtain ⟨v, r, rfl, _⟩ := h
    rfl
  · obtain ⟨v, r, rfl, sv, k⟩ := h
    have nd := sc_is_key_set.nd
    refine ⟨_, pss_cons (ps_if (pt_not (pt_val (pe_callB call_isi (by rfl) T.isi (by decide +kernel) (pa_cons (pv 0) (pa_cons (pe_bltn (v := .ty "tuple") (by rfl) T.tup (by decide +kernel) rfl) pa_nil))))) (pss_one (ps_ret pe_bl)) pss_nil)
      (pss_cons (ps_if (pt_not (pt_val (pe_callB (cr_all rfl) (by rfl) T.all (by decide +kernel) (pa_cons (pe_lc (own := [("key", 2)]) (g := gName 2) (tt := tYes) (te := tCall (spKey K) [] E0 (tCons (tVar 2) tNil)) rfl nd (pi_tup (pv 0)) (blkOk_by (N := N_is_key_set) (sc := defScope s_is_key_set) (by decide +kernel))
          (fun _ _ _ _ _ => pg_name (i := 2) nd rfl (Or.inl rfl)) (fun _ _ _ _ _ => pts_nil) (fun _ _ _ _ _ => pe_call FK hr (by rfl) gK kK bK .nil pass0 (pa_cons (pv 2) pa_nil))) pa_nil)))) (pss_one (ps_ret pe_bl)) pss_nil)
      (pss_one (ps_ret (pe_callB (cr_all rfl) (by rfl) T.all (by decide +kernel) (pa_cons (pe_lc (own := [("at", 1)]) (g := gName 1) (tt := tYes)
          (te := tOp (rI0 fun i j => .bl (decide (i < j))) (tOp (rIxT K) (tVar 0) (tOp (rI0 fun i j => .int (i - j)) (tVar 1) (tC (.int 1)))) (tOp (rIxT K) (tVar 0) (tVar 1))) rfl nd
          (pi_range2 (by rfl) T.rng (pa_cons pe_int (pa_cons (pe_callB call_len_seq (by rfl) T.len PySem.boot_len (pa_cons (pv 0) pa_nil)) pa_nil))) (blkOk_by (N := N_is_key_set) (sc := defScope s_is_key_set) (by decide +kernel))
          (fun _ _ _ _ _ => pg_name (i := 1) nd rfl (Or.inl rfl)) (fun _ _ _ _ _ => pts_nil) (fun _ _ _ _ _ => pe_cmpR op_lt (pe_ix ix_tup (pv 0) (pe_op op_sub (pv 1) pe_int) (fun _ _ => rfl)) (pe_ix ix_tup (pv 0) (pv 1) (fun _ _ => rfl)) (nomark _))) pa_nil))))), ?_⟩
    rcases sv with ⟨t, ty, hk, rfl⟩ | ⟨a, xs, os, rfl, hs, hz, hp, rfl⟩
    · exact ⟨v, rfl, v, .ty "tuple", _, _, false, rfl, .ty "tuple", ty, hk, _, rfl, iteT (k H (Same.refl H))⟩
    · have hlen := paired_len hp
      refine ⟨_, rfl, _, .ty "tuple", _, _, true, rfl, .ty "tuple", ty_tup hs, kit_ty (by decide +kernel), _, rfl, iteF ?_⟩
      refine ⟨_, rfl, a, rfl, ⟨_, hs⟩, fun D hD => lc_tup (K := K) (a := a) (xs := xs) (fun i H' => Same H H' ∧ H' D = some (.lst (((os.take i).map keyB).map V.bl))) ⟨Same.new (Same.refl H) hD, upd_same⟩ (fun i H' _ p => sqT_same p.1 hs) (fun i x H' hx p => ?_) (fun H1 p => ?_)⟩
      · obtain ⟨s1, hd⟩ := p
        have hi : i < os.length := by rw [← hlen]; exact (List.getElem?_eq_some_iff.mp hx).1
        have ho : os[i]? = some os[i] := List.getElem?_eq_getElem hi
        refine ⟨rfl, _, rfl, x, os[i], rfl, (paired_at hp hx ho).sm s1, _, hd, ?_, (fun c o e => ?_), ?_⟩
        · rw [List.length_map, List.length_map, List.length_take, sizeLine_eq]; omega
        · have := s1 c o e
          rw [upd_ne (ne_of_none e hD)]
          exact this
        · rw [upd_same, List.take_add_one, ho, List.map_append, List.map_append]
          rfl
      · obtain ⟨s1, hd⟩ := p
        rw [List.take_of_length_le (by omega)] at hd
        refine ⟨D, os.map keyB, rfl, SqL.of hd, _, rfl, ?_⟩
        rw [all_map]
        cases hall : os.all keyB with
        | false =>
          refine iteT ?_
          have e : setB os = false := by unfold setB; rw [hall]; rfl
          rw [e] at k
          exact k H1 s1
        | true =>
          refine iteF ?_
          obtain ⟨ks, rfl, rfl⟩ := keys_all hp hall
          have hs1 := sqT_same s1 hs
          refine ⟨_, rfl, a, _, rfl, .inr hs1, 1, _, rfl, ⟨by decide, by decide, by rw [List.length_map] at hz ⊢; omega, by rw [List.length_map] at hz ⊢; omega⟩, fun D2 hD2 => ?_⟩
          have hN : (((ks.map V.int).length : Int) - 1).toNat = ks.length - 1 := by rw [List.length_map]; omega
          rw [hN]
          refine lc_range (lo := 1) (n := ks.length - 1) (fun i H' => Same H1 H' ∧ H' D2 = some (.lst (((upL (ks.map some)).take i).map V.bl))) ⟨Same.new (Same.refl H1) hD2, upd_same⟩ (fun i H' hi p => ?_) (fun H2 p => ?_)
          · obtain ⟨s2, hd2⟩ := p
            have ha : ks[i]? = some ks[i] := List.getElem?_eq_getElem (by omega)
            have hb : ks[i + 1]? = some ks[i + 1] := List.getElem?_eq_getElem (by omega)
            have hs2 := sqT_same s2 hs1
            have u := upL_at ha hb
            refine ⟨rfl, ?_⟩
            refine ⟨_, rfl, _, rfl, _, _, rfl, rfl, a, _, _, _, rfl, rfl, hs2, at_of (j := i) (by omega) (by rw [List.getElem?_map, ha]; rfl), ?_⟩
            refine ⟨_, rfl, _, rfl, a, _, _, _, rfl, rfl, hs2, at_of (j := i + 1) (by omega) (by rw [List.getElem?_map, hb]; rfl), _, _, rfl, rfl, ?_⟩
            refine ⟨_, hd2, ?_, (fun c o e => ?_), ?_⟩
            · rw [List.length_map, List.length_take, sizeLine_eq]
              rw [List.length_map] at hz
              omega
            · rw [upd_ne (ne_of_none e hD2)]
              exact s2 c o e
            · rw [upd_same, List.take_add_one, u, List.map_append]
              rfl
          · obtain ⟨s2, hd2⟩ := p
            have hl2 : (upL (ks.map some)).length = ks.length - 1 := by rw [upL_len, List.length_map]
            rw [List.take_of_length_le (by omega)] at hd2
            refine ⟨D2, upL (ks.map some), rfl, SqL.of hd2, ?_⟩
            have e : setB (ks.map some) = (upL (ks.map some)).all id := by unfold setB; rw [hall]; rfl
            rw [e] at k
            exact k H2 (s1.trans s2)
theorem ok_lset {f fK : Addr} {fd fdK : FuncData} (F : Fun K "_law_is_set" "_law_is_set" s_l_is_set f fd) (T : TSet mg) (gK : mg "_law_is_key" = some (.ref fK)) (FK : FnOk P w K mg base CX0 1 fK fdK ["_law_v"] (spKey K))
    (kK : PySem.W.keepIn K (.ref fK) = true) (bK : Binds K fdK ["_law_v"] []) : FnOk P w K mg base CX0 2 f fd ["_law_v"] (spSet K) := by
  refine F.ok sc_l_is_set (fun vs H Q E h => ?_) (fun cdv A outer s H vs Q E hr h => ?_)
  · obtain ⟨v, r, rfl, _⟩ := h
    rfl
  · obtain ⟨v, r, rfl, sv, k⟩ := h
    have nd := sc_l_is_set.nd
    refine ⟨_, pss_cons (ps_if (PW.pt (pw_or (pt_not (pt_val (pe_callB call_isi (by rfl) T.isi (by decide +kernel) (pa_cons (pv 0) (pa_cons (pe_bltn (v := .ty "tuple") (by rfl) T.tup (by decide +kernel) rfl) pa_nil)))))
      (pw_or1 (pt_not (pt_val (pe_callB (cr_all rfl) (by rfl) T.all (by decide +kernel) (pa_cons (pe_lc (own := [("_law_p", 2)]) (g := gName 2) (tt := tYes) (te := tCall (spKey K) [] E0 (tCons (tVar 2) tNil)) rfl nd (pi_tup (pv 0)) (blkOk_by (N := N_l_is_set) (sc := defScope s_l_is_set) (by decide +kernel))
          (fun _ _ _ _ _ => pg_name (i := 2) nd rfl (Or.inl rfl)) (fun _ _ _ _ _ => pts_nil) (fun _ _ _ _ _ => pe_call FK hr (by rfl) gK kK bK .nil pass0 (pa_cons (pv 2) pa_nil))) pa_nil))))))) (pss_one (ps_ret pe_bl)) pss_nil)
      (pss_one (ps_ret (pe_callB (cr_all rfl) (by rfl) T.all (by decide +kernel) (pa_cons (pe_lc (own := [("_law_n", 1)]) (g := gName 1) (tt := tYes)
          (te := tOp (rI0 fun i j => .bl (decide (i < j))) (tOp (rIxT K) (tVar 0) (tVar 1)) (tOp (rIxT K) (tVar 0) (tOp (rI0 fun i j => .int (i + j)) (tVar 1) (tC (.int 1))))) rfl nd
          (pi_range1 (by rfl) T.rng (pa_cons (pe_op op_sub (pe_callB call_len_seq (by rfl) T.len PySem.boot_len (pa_cons (pv 0) pa_nil)) pe_int) pa_nil)) (blkOk_by (N := N_l_is_set) (sc := defScope s_l_is_set) (by decide +kernel))
          (fun _ _ _ _ _ => pg_name (i := 1) nd rfl (Or.inl rfl)) (fun _ _ _ _ _ => pts_nil) (fun _ _ _ _ _ => pe_cmpR op_lt (pe_ix ix_tup (pv 0) (pv 1) (fun _ _ => rfl)) (pe_ix ix_tup (pv 0) (pe_op op_add (pv 1) pe_int) (fun _ _ => rfl)) (nomark _))) pa_nil)))), ?_⟩
    rcases sv with ⟨t, ty, hk, rfl⟩ | ⟨a, xs, os, rfl, hs, hz, hp, rfl⟩
    · exact ⟨v, rfl, v, .ty "tuple", _, _, false, rfl, .ty "tuple", ty, hk, _, rfl, iteT (iteT (k H (Same.refl H)))⟩
    · have hlen := paired_len hp
      refine ⟨_, rfl, _, .ty "tuple", _, _, true, rfl, .ty "tuple", ty_tup hs, kit_ty (by decide +kernel), _, rfl, iteF ?_⟩
      refine ⟨_, rfl, a, rfl, ⟨_, hs⟩, fun D hD => lc_tup (K := K) (a := a) (xs := xs) (fun i H' => Same H H' ∧ H' D = some (.lst (((os.take i).map keyB).map V.bl))) ⟨Same.new (Same.refl H) hD, upd_same⟩ (fun i H' _ p => sqT_same p.1 hs) (fun i x H' hx p => ?_) (fun H1 p => ?_)⟩
      · obtain ⟨s1, hd⟩ := p
        have hi : i < os.length := by rw [← hlen]; exact (List.getElem?_eq_some_iff.mp hx).1
        have ho : os[i]? = some os[i] := List.getElem?_eq_getElem hi
        refine ⟨rfl, _, rfl, x, os[i], rfl, (paired_at hp hx ho).sm s1, _, hd, ?_, (fun c o e => ?_), ?_⟩
        · rw [List.length_map, List.length_map, List.length_take, sizeLine_eq]; omega
        · have := s1 c o e
          rw [upd_ne (ne_of_none e hD)]
          exact this
        · rw [upd_same, List.take_add_one, ho, List.map_append, List.map_append]
          rfl
      · obtain ⟨s1, hd⟩ := p
        rw [List.take_of_length_le (by omega)] at hd
        refine ⟨D, os.map keyB, rfl, SqL.of hd, _, rfl, ?_⟩
        rw [all_map]
        cases hall : os.all keyB with
        | false =>
          refine iteT ?_
          have e : setB os = false := by unfold setB; rw [hall]; rfl
          rw [e] at k
          exact k H1 s1
        | true =>
          refine iteF ?_
          obtain ⟨ks, rfl, rfl⟩ := keys_all hp hall
          have hs1 := sqT_same s1 hs
          refine ⟨_, rfl, a, _, rfl, .inr hs1, _, _, rfl, rfl, _, rfl, by omega, by rw [List.length_map] at hz ⊢; omega, fun D2 hD2 => ?_⟩
          have hN : (((ks.map V.int).length : Int) - 1).toNat = ks.length - 1 := by rw [List.length_map]; omega
          rw [hN]
          refine lc_range (lo := 0) (n := ks.length - 1) (fun i H' => Same H1 H' ∧ H' D2 = some (.lst (((upL (ks.map some)).take i).map V.bl))) ⟨Same.new (Same.refl H1) hD2, upd_same⟩ (fun i H' hi p => ?_) (fun H2 p => ?_)
          · obtain ⟨s2, hd2⟩ := p
            have ha : ks[i]? = some ks[i] := List.getElem?_eq_getElem (by omega)
            have hb : ks[i + 1]? = some ks[i + 1] := List.getElem?_eq_getElem (by omega)
            have hs2 := sqT_same s2 hs1
            have u := upL_at ha hb
            refine ⟨rfl, ?_⟩
            refine ⟨_, rfl, _, rfl, a, _, _, _, rfl, rfl, hs2, at_of (j := i) (by omega) (by rw [List.getElem?_map, ha]; rfl), ?_⟩
            refine ⟨_, rfl, _, rfl, _, _, rfl, rfl, a, _, _, _, rfl, rfl, hs2, at_of (j := i + 1) (by omega) (by rw [List.getElem?_map, hb]; rfl), _, _, rfl, rfl, ?_⟩
            refine ⟨_, hd2, ?_, (fun c o e => ?_), ?_⟩
            · rw [List.length_map, List.length_take, sizeLine_eq]
              rw [List.length_map] at hz
              omega
            · rw [upd_ne (ne_of_none e hD2)]
              exact s2 c o e
            · rw [upd_same, List.take_add_one, u, List.map_append]
              rfl
          · obtain ⟨s2, hd2⟩ := p
            have hl2 : (upL (ks.map some)).length = ks.length - 1 := by rw [upL_len, List.length_map]
            rw [List.take_of_length_le (by omega)] at hd2
            refine ⟨D2, upL (ks.map some), rfl, SqL.of hd2, ?_⟩
            have e : setB (ks.map some) = (upL (ks.map some)).all id := by unfold setB; rw [hall]; rfl
            rw [e] at k
            exact k H2 (s1.trans s2)
theorem ok_lot {f fS : Addr} {fd fdS : FuncData} (F : Fun K "is_lot" "is_lot" s_is_lot f fd) (gLen : mg "len" = none) (gS : mg "is_key_set" = some (.ref fS)) (FS : FnOk P w K mg base CX0 3 fS fdS ["value"] (spSet K))
    (kS : PySem.W.keepIn K (.ref fS) = true) (bS : Binds K fdS ["value"] []) : FnOk P w K mg base CX0 4 f fd ["value"] (spLot K) := by
  refine F.ok sc_is_lot (fun vs H Q E h => ?_) (fun cdv A outer s H vs Q E hr h => ?_)
  · obtain ⟨v, r, rfl, _⟩ := h
    rfl
  · obtain ⟨v, r, rfl, lv, k⟩ := h
    refine ⟨_, pss_one (ps_ret (pe_and (pe_call FS hr (by rfl) gS kS bS .nil pass0 (pa_cons (pv 0) pa_nil)) (pe_one (pe_cmpR op_gt (pe_callB call_len_seq (by rfl) gLen PySem.boot_len (pa_cons (pv 0) pa_nil)) pe_int (nomark _))))), ?_⟩
    rcases lv with ⟨t, ty, hk, rfl⟩ | ⟨a, xs, os, rfl, hs, hz, hp, rfl⟩
    · exact ⟨v, rfl, v, false, rfl, .inl ⟨t, ty, hk, rfl⟩, fun H' s' => ⟨_, rfl, iteF (k H' s')⟩⟩
    · refine ⟨_, rfl, _, setB os, rfl, .inr ⟨a, xs, os, rfl, hs, hz, hp, rfl⟩, fun H' s' => ⟨_, rfl, ?_⟩⟩
      cases e : setB os with
      | false =>
        rw [e] at k
        exact iteF (k H' s')
      | true =>
        rw [e] at k
        refine iteT ⟨_, rfl, a, _, rfl, .inr (sqT_same s' hs), _, _, rfl, rfl, ?_⟩
        have e2 : decide ((0 : Int) < ((xs.length : Nat) : Int)) = (true && decide (0 < xs.length)) := by
          by_cases h0 : 0 < xs.length
          · have : (0 : Int) < ((xs.length : Nat) : Int) := by omega
            simp [h0]
          · have : ¬ (0 : Int) < ((xs.length : Nat) : Int) := by omega
            simp [h0]
        have k' := k H' s'
        rw [← e2] at k'
        exact k'
theorem ok_lives {f fK : Addr} {fd fdK : FuncData} (F : Fun K "lives_in" "lives_in" s_lives_in f fd) (gK : mg "is_key" = some (.ref fK)) (FK : FnOk P w K mg base CX0 2 fK fdK ["value"] (spKey K))
    (kK : PySem.W.keepIn K (.ref fK) = true) (bK : Binds K fdK ["value"] []) : FnOk P w K mg base CX0 3 f fd ["living", "value"] (spLive K) := by
  refine F.ok sc_lives_in (fun vs H Q E h => ?_) (fun cdv A outer s H vs Q E hr h => ?_)
  · obtain ⟨p, ks, v, o, rfl, _⟩ := h
    rfl
  · obtain ⟨p, ks, v, o, rfl, hs, nv, k⟩ := h
    refine ⟨_, pss_one (ps_ret (pe_and (pe_call FK hr (by rfl) gK kK bK .nil pass0 (pa_cons (pv 1) pa_nil)) (pe_one (pe_cmpR op_in_seq (pv 1) (pv 0) (by rfl))))), ?_⟩
    refine ⟨_, rfl, v, o, rfl, nv, _, rfl, ?_⟩
    cases nv with
    | no t b1 b2 ty h1 h2 h => exact iteF k
    | int i =>
      cases e : keyB (some i) with
      | false =>
        have k : Q (.bl (keyB (some i) && decide (i ∈ ks))) H := k
        rw [e] at k
        exact iteF k
      | true =>
        have k : Q (.bl (keyB (some i) && decide (i ∈ ks))) H := k
        rw [e] at k
        refine iteT ⟨_, rfl, _, rfl, p, _, rfl, .inr hs, rfl, flat_ints ks, ?_⟩
        rw [if_neg (by decide), inV_ints]
        exact k
end
end K02

end

section
set_option Elab.async false
set_option linter.all false
set_option maxRecDepth 100000
set_option maxHeartbeats 4000000
/-! picking from a tuple or list of whole numbers; fields of exceptions. -/
namespace SB
open PySem PySem.Spec PyProof.Rows L2
def fs1 (nm f : Str) (ws : List V) : List (Str × V) := [(f, ws.getD 0 .non), ("code", .str nm)]
def fs2 (nm f g : Str) (ws : List V) : List (Str × V) := [(g, ws.getD 1 .non), (f, ws.getD 0 .non), ("code", .str nm)]
theorem filter_take {f : Int → Bool} {ks : List Int} {i : Nat} {k : Int} (h : ks[i]? = some k) : (ks.take (i + 1)).filter f = (ks.take i).filter f ++ (if f k then [k] else []) := by
  rw [List.take_add_one, h, List.filter_append]
  congr 1
  show [k].filter f = _
  cases e : f k <;> simp [e]
theorem ints_at {ks : List Int} {i : Nat} {x : V} (h : (ks.map V.int)[i]? = some x) : ∃ k, x = .int k ∧ ks[i]? = some k := by
  rw [List.getElem?_map] at h
  cases e : ks[i]? with
  | none => rw [e] at h; cases h
  | some k => rw [e] at h; exact ⟨k, (Option.some.inj h).symm, rfl⟩
section
variable {K : PySem.W.Frag} {a : Addr} {ks : List Int} {g : TG} {tt : TT} {te : TE} {vs : List Nat} {σ : L2.St} {H1 : Hp} {D : Addr} {Qd : Hp → Prop}
theorem filt_tup (f : Int → Bool) (hs : SqT K H1 a (ks.map V.int)) (hD : H1 D = none) (hz : ks.length ≤ 2000)
    (step : ∀ (k : Int) (H' : Hp) (R : V → Hp → Prop) (S : Hp → Prop), k ∈ ks → Same H1 H' → (f k = true → R (.int k) H') → (f k = false → S H') →
      g (.int k) (wipe σ vs) H' fun σ2 H2 => wipe σ2 vs = wipe σ vs ∧ tt σ2 H2 fun b H3 => if b = true then te σ2 H3 R else S H3)
    (hd : ∀ H', Same H1 H' → H' D = some (.lst ((ks.filter f).map V.int)) → Qd H') :
    ∃ W : Nat → Nat → Hp → Prop, (∃ m, W 0 m (upd H1 D (.lst []))) ∧ ∀ i m H, W i m H →
      ((Itt K a).stop i H ∧ Qd H) ∨ ((Itt K a).go i H ∧ ∃ Nx : Hp → Prop, (∀ H', Nx H' → ∃ m', m' < m ∧ W (i + 1) m' H') ∧ ∀ x H', (Itt K a).yld i H x H' → g x (wipe σ vs) H' fun σ2 H2 => wipe σ2 vs = wipe σ vs ∧ tt σ2 H2 fun b H3 =>
        if b = true then te σ2 H3 fun y H4 => ∃ acc, H4 D = some (.lst acc) ∧ acc.length < sizeLine ∧ Nx (upd H4 D (.lst (acc ++ [y]))) else Nx H3) := by
  refine lc_tup (K := K) (a := a) (xs := ks.map V.int) (fun i H' => Same H1 H' ∧ H' D = some (.lst (((ks.take i).filter f).map V.int))) ⟨Same.new (Same.refl H1) hD, upd_same⟩ (fun i H' _ p => sqT_same p.1 hs) (fun i x H' hx p => ?_) (fun H' p => ?_)
  · obtain ⟨k, rfl, hk⟩ := ints_at hx
    obtain ⟨s1, hd1⟩ := p
    refine step k H' _ _ (List.mem_of_getElem? hk) s1 (fun e => ?_) (fun e => ?_)
    · refine ⟨_, hd1, ?_, (fun c o h => ?_), ?_⟩
      · have : ((ks.take i).filter f).length ≤ ks.length := Nat.le_trans (List.length_filter_le _ _) (by rw [List.length_take]; omega)
        rw [List.length_map, sizeLine_eq]; omega
      · rw [upd_ne (ne_of_none h hD)]
        exact s1 c o h
      · rw [upd_same, filter_take hk, e, List.map_append]; rfl
    · refine ⟨s1, ?_⟩
      rw [filter_take hk, e]
      simpa using hd1
  · obtain ⟨s1, hd1⟩ := p
    rw [List.take_of_length_le (by rw [List.length_map]; omega)] at hd1
    exact hd H' s1 hd1
theorem filt_list (f : Int → Bool) (hs : SqL K H1 a (ks.map V.int)) (hD : H1 D = none) (hz : ks.length ≤ 2000)
    (step : ∀ (k : Int) (H' : Hp) (R : V → Hp → Prop) (S : Hp → Prop), k ∈ ks → Same H1 H' → (f k = true → R (.int k) H') → (f k = false → S H') →
      g (.int k) (wipe σ vs) H' fun σ2 H2 => wipe σ2 vs = wipe σ vs ∧ tt σ2 H2 fun b H3 => if b = true then te σ2 H3 R else S H3)
    (hd : ∀ H', Same H1 H' → H' D = some (.lst ((ks.filter f).map V.int)) → Qd H') :
    ∃ W : Nat → Nat → Hp → Prop, (∃ m, W 0 m (upd H1 D (.lst []))) ∧ ∀ i m H, W i m H →
      ((Itl K a).stop i H ∧ Qd H) ∨ ((Itl K a).go i H ∧ ∃ Nx : Hp → Prop, (∀ H', Nx H' → ∃ m', m' < m ∧ W (i + 1) m' H') ∧ ∀ x H', (Itl K a).yld i H x H' → g x (wipe σ vs) H' fun σ2 H2 => wipe σ2 vs = wipe σ vs ∧ tt σ2 H2 fun b H3 =>
        if b = true then te σ2 H3 fun y H4 => ∃ acc, H4 D = some (.lst acc) ∧ acc.length < sizeLine ∧ Nx (upd H4 D (.lst (acc ++ [y]))) else Nx H3) := by
  refine lc_list (K := K) (a := a) (xs := ks.map V.int) (fun i H' => Same H1 H' ∧ H' D = some (.lst (((ks.take i).filter f).map V.int))) ⟨Same.new (Same.refl H1) hD, upd_same⟩ (fun i H' _ p => p.1.seq hs) (fun i x H' hx p => ?_) (fun H' p => ?_)
  · obtain ⟨k, rfl, hk⟩ := ints_at hx
    obtain ⟨s1, hd1⟩ := p
    refine step k H' _ _ (List.mem_of_getElem? hk) s1 (fun e => ?_) (fun e => ?_)
    · refine ⟨_, hd1, ?_, (fun c o h => ?_), ?_⟩
      · have : ((ks.take i).filter f).length ≤ ks.length := Nat.le_trans (List.length_filter_le _ _) (by rw [List.length_take]; omega)
        rw [List.length_map, sizeLine_eq]; omega
      · rw [upd_ne (ne_of_none h hD)]
        exact s1 c o h
      · rw [upd_same, filter_take hk, e, List.map_append]; rfl
    · refine ⟨s1, ?_⟩
      rw [filter_take hk, e]
      simpa using hd1
  · obtain ⟨s1, hd1⟩ := p
    rw [List.take_of_length_le (by rw [List.length_map]; omega)] at hd1
    exact hd H' s1 hd1
end
theorem find_at {f : Int → Bool} : ∀ {l : List Int} {i : Nat} {x : Int}, (∀ z ∈ l.take i, f z = false) → l[i]? = some x → f x = true → l.find? f = some x
  | [], i, x, _, h, _ => by simp at h
  | a :: l, 0, x, _, h, e => by
    have : a = x := by simpa using h
    subst this
    rw [List.find?_cons_of_pos e]
  | a :: l, i + 1, x, hp, h, e => by
    have ha : f a = false := hp a (by simp)
    rw [List.find?_cons_of_neg (by rw [ha]; simp)]
    exact find_at (i := i) (fun z hz => hp z (by simp [hz])) (by simpa using h) e
theorem find_no {f : Int → Bool} {l : List Int} (h : ∀ z ∈ l, f z = false) : l.find? f = none := by
  rw [List.find?_eq_none]
  intro z hz
  rw [h z hz]
  simp
/-- the greatest below, the least above -/
def lowV (ks : List Int) (k : Int) : V := match (ks.filter fun z => decide (z < k)).getLast? with
  | some z => .int z
  | none => .non
def highV (ks : List Int) (k : Int) : V := match (ks.filter fun z => decide (z > k)).head? with
  | some z => .int z
  | none => .non
theorem low_cases (ks : List Int) (k : Int) : ((ks.filter fun z => decide (z < k)) = [] ∧ lowV ks k = .non) ∨ ∃ B z, (ks.filter fun z => decide (z < k)) = B ++ [z] ∧ lowV ks k = .int z := by
  unfold lowV
  rcases List.eq_nil_or_concat (ks.filter fun z => decide (z < k)) with h | ⟨B, z, h⟩
  · exact .inl ⟨h, by rw [h]; rfl⟩
  · exact .inr ⟨B, z, by simpa using h, by rw [h]; simp⟩
theorem high_cases (ks : List Int) (k : Int) : ((ks.filter fun z => decide (z > k)) = [] ∧ highV ks k = .non) ∨ ∃ z B, (ks.filter fun z => decide (z > k)) = z :: B ∧ highV ks k = .int z := by
  unfold highV
  cases h : (ks.filter fun z => decide (z > k)) with
  | nil => exact .inl ⟨rfl, rfl⟩
  | cons z B => exact .inr ⟨z, B, rfl, rfl⟩
end SB

end

section
set_option Elab.async false
set_option linter.all false
set_option maxRecDepth 100000
set_option maxHeartbeats 4000000
namespace K02
open PySem L2 SB
abbrev bmLE : List Value := [.type "LookupError", .type "Exception", .type "BaseException", .type "object"]
abbrev bmVE : List Value := [.type "ValueError", .type "Exception", .type "BaseException", .type "object"]
def spCk (K : PySem.W.Frag) (CU : Addr) : Sp := fun vs H Q E => ∃ p ks v o, vs = [.ref p, v] ∧ SqT K H p (ks.map V.int) ∧ NV K H v o ∧ (liveB ks o = true → Q .non H) ∧ (liveB ks o = false → ∀ d, H d = none → E (.ref CU) (some d) (upd H d (.xd (fs1 "UnknownKey" "key" [v]))))
def spNear (K : PySem.W.Frag) : Sp := fun vs H Q _ => ∃ p ks k, vs = [.ref p, .int k] ∧ SqT K H p (ks.map V.int) ∧ ks.length ≤ 1000 ∧ ∀ t H', H t = none → Same H H' → H' t = some (.tup [lowV ks k, highV ks k]) → Q (.ref t) H'
section
variable {P : Program} {w : World} {K : PySem.W.Frag} {mg : Str → Option Value} {base : Heap}
theorem ok_initU {f C : Addr} {fd : FuncData} (F : Fun K "__init__" "UnknownKey.__init__" s_UnknownKey_init f fd) (X : XFacts K mg "UnknownKey" C f bmLE "LookupError.__new__") (nF : PySem.W.findIn K (.ref C) "key" = some none) :
    FnOk P w K mg base CX0 1 f fd ["self", "key"] (spX C 1 (fs1 "UnknownKey" "key")) := by
  refine F.ok sc_UnknownKey_init (fun vs H Q E h => ?_) (fun cdv A outer s H vs Q E hr h => ?_)
  · obtain ⟨a, ws, rfl, hl, _⟩ := h
    simpa using hl
  · obtain ⟨a, ws, rfl, hl, ha, k⟩ := h
    obtain ⟨x, rfl⟩ : ∃ x, ws = [x] := by
      match ws, hl with
      | [x], _ => exact ⟨x, rfl⟩
    refine ⟨_, pss_cons (ps_put PySem.F.store_LookupError X.T X.nC (pv 0) pe_str) (pss_one (ps_put PySem.F.store_LookupError X.T nF (pv 0) (pv 1))), ?_⟩
    refine ⟨_, rfl, a, rfl, .inl ⟨ha, fun d hd hda => ?_⟩⟩
    have had : a ≠ d := fun e => hda e.symm
    refine ⟨_, rfl, _, rfl, a, rfl, .inr ⟨d, _, upd_same, by rw [upd_ne hda, upd_same], by decide, ?_⟩⟩
    refine k d _ hd hda (by rw [upd_ne had, upd_same]) upd_same fun c h1 h2 => ?_
    rw [upd_ne h2, upd_ne h1, upd_ne h2]
theorem ok_ck {f CU fI fL : Addr} {fd fdL fdI : FuncData} (F : Fun K "check_lives" "check_lives" s_check_lives f fd) (gL : mg "lives_in" = some (.ref fL)) (FL : FnOk P w K mg base CX0 3 fL fdL ["living", "value"] (spLive K)) (kL : PySem.W.keepIn K (.ref fL) = true) (bL : Binds K fdL ["living", "value"] [])
    (X : XFacts K mg "UnknownKey" CU fI bmLE "LookupError.__new__") (G : FnOk P w K mg base CX0 1 fI fdI ["self", "key"] (spX CU 1 (fs1 "UnknownKey" "key"))) (bI : Binds K fdI ["self", "key"] []) :
    FnOk P w K mg base (L2.CX P w) 4 f fd ["living", "value"] (spCk K CU) := by
  refine F.okX sc_check_lives (fun vs H Q E h => ?_) (fun cdv A outer s H vs Q E hr h => ?_)
  · obtain ⟨p, ks, v, o, rfl, _⟩ := h
    rfl
  · obtain ⟨p, ks, v, o, rfl, hs, nv, q1, q2⟩ := h
    refine ⟨_, pss_one (ps_if (pt_not (pt_val (pe_call FL hr (by rfl) gL kL bL .nil pass0 (pa_cons (pv 0) (pa_cons (pv 1) pa_nil)))))
        (pss_one (ps_raise rfl (takes_of rfl rfl rfl rfl) (pmk_exg PySem.F.excBase_LookupError X.T X.iC X.tI G (hr.mono (by decide)) bI .nil pass0 (by rfl) X.g (pa_cons (pv 1) pa_nil)))) pss_nil), ?_⟩
    refine ⟨_, rfl, _, rfl, p, ks, v, o, rfl, hs, nv, _, rfl, ?_⟩
    cases e : liveB ks o with
    | true => exact iteF (q1 e)
    | false => exact iteT ⟨_, rfl, rd_raise rfl (by decide) (q2 e)⟩
theorem ok_near {f : Addr} {fd : FuncData} (F : Fun K "neighbours_of" "neighbours_of" s_neighbours_of f fd) : FnOk P w K mg base CX0 1 f fd ["living", "key"] (spNear K) := by
  refine F.ok sc_neighbours_of (fun vs H Q E h => ?_) (fun cdv A outer s H vs Q E hr h => ?_)
  · obtain ⟨p, ks, k, rfl, _⟩ := h
    rfl
  · obtain ⟨p, ks, k, rfl, hs, hz, kk⟩ := h
    have nd := sc_neighbours_of.nd
    refine ⟨_, pss_cons (ps_setLc (i := 2) (own := [("other", 4)]) (g := gName 4) (tt := tTest (tOp (rI0 fun i j => .bl (decide (i < j))) (tVar 4) (tVar 1))) (te := tVar 4) rfl nd rfl rfl (sw_true rfl rfl rfl (by decide +kernel)) (pi_tup (pv 0)) (blkOk_by (N := N_neighbours_of) (sc := defScope s_neighbours_of) (by decide +kernel))
        (fun _ _ _ _ _ => pg_name (i := 4) nd rfl (Or.inl rfl)) (fun _ _ _ _ _ => pts_one (pt_cmpR op_lt (pv 4) (pv 1) (nomark _))) (fun _ _ _ _ _ => pv 4))
      (pss_cons (ps_setLc (i := 3) (own := [("other", 4)]) (g := gName 4) (tt := tTest (tOp (rI0 fun i j => .bl (decide (i > j))) (tVar 4) (tVar 1))) (te := tVar 4) rfl nd rfl rfl (sw_true rfl rfl rfl (by decide +kernel)) (pi_tup (pv 0)) (blkOk_by (N := N_neighbours_of) (sc := defScope s_neighbours_of) (by decide +kernel))
        (fun _ _ _ _ _ => pg_name (i := 4) nd rfl (Or.inl rfl)) (fun _ _ _ _ _ => pts_one (pt_cmpR op_gt (pv 4) (pv 1) (nomark _))) (fun _ _ _ _ _ => pv 4))
      (pss_one (ps_ret (pe_tup (pa_cons (pe_ifExp (pt_truth (pv 2) (fun _ => rfl)) (pe_ix ix_list (pv 2) (pe_un un_neg pe_int) (fun _ _ => rfl)) pe_non)
        (pa_cons (pe_ifExp (pt_truth (pv 3) (fun _ => rfl)) (pe_ix ix_list (pv 3) pe_int (fun _ _ => rfl)) pe_non) pa_nil)))))), ?_⟩
    refine ⟨_, rfl, p, rfl, ⟨_, hs⟩, fun D1 hD1 => filt_tup (fun z => decide (z < k)) hs hD1 (by omega) (fun z H' R S hz s1 r1 r2 => ?_) (fun H1 s1 h1 => ?_)⟩
    · exact ⟨rfl, _, rfl, _, rfl, _, _, rfl, rfl, _, rfl, ite2 (fun e => ⟨_, rfl, r1 e⟩) (fun e => r2 (Bool.eq_false_iff.mpr e))⟩
    refine ⟨_, rfl, p, rfl, ⟨_, sqT_same s1 hs⟩, fun D2 hD2 => filt_tup (fun z => decide (z > k)) (sqT_same s1 hs) hD2 (by omega) (fun z H' R S hz s1 r1 r2 => ?_) (fun H2 s2 h2 => ?_)⟩
    · exact ⟨rfl, _, rfl, _, rfl, _, _, rfl, rfl, _, rfl, ite2 (fun e => ⟨_, rfl, r1 e⟩) (fun e => r2 (Bool.eq_false_iff.mpr e))⟩
    have h1' := s2 _ _ h1
    have fin : ∀ u v : V, u = lowV ks k → v = highV ks k → [u, v].length ≤ sizeLine ∧ ∀ t, H2 t = none → Q (.ref t) (upd H2 t (.tup [u, v])) := fun u v e1 e2 => by
      subst e1 e2
      refine ⟨(by show 2 ≤ sizeLine; decide), fun t ht => kk t _ ?_ (Same.new (s1.trans s2) ht) upd_same⟩
      cases e : H t with
      | none => rfl
      | some o => rw [s2 _ _ (s1 _ _ e)] at ht; cases ht
    rcases low_cases ks k with ⟨e1, e2⟩ | ⟨B, z, e1, e2⟩
    · rw [e1] at h1'
      refine ⟨_, rfl, _, .inl ⟨_, SqL.of h1', rfl⟩, iteF ?_⟩
      rcases high_cases ks k with ⟨g1, g2⟩ | ⟨y, C, g1, g2⟩
      · rw [g1] at h2
        exact ⟨_, rfl, _, .inl ⟨_, SqL.of h2, rfl⟩, iteF (fin _ _ e2.symm g2.symm)⟩
      · rw [g1] at h2
        exact ⟨_, rfl, _, .inl ⟨_, SqL.of h2, rfl⟩, iteT ⟨_, rfl, D2, _, _, _, rfl, rfl, SqL.of h2, at_of (j := 0) rfl rfl, fin _ _ e2.symm g2.symm⟩⟩
    · rw [e1] at h1'
      refine ⟨_, rfl, true, .inl ⟨_, SqL.of h1', by simp⟩, iteT ⟨_, rfl, _, rfl, D1, _, _, _, rfl, rfl, SqL.of h1', by rw [List.map_append]; exact atI_last _ _, ?_⟩⟩
      rcases high_cases ks k with ⟨g1, g2⟩ | ⟨y, C, g1, g2⟩
      · rw [g1] at h2
        exact ⟨_, rfl, _, .inl ⟨_, SqL.of h2, rfl⟩, iteF (fin _ _ e2.symm g2.symm)⟩
      · rw [g1] at h2
        exact ⟨_, rfl, _, .inl ⟨_, SqL.of h2, rfl⟩, iteT ⟨_, rfl, D2, _, _, _, rfl, rfl, SqL.of h2, at_of (j := 0) rfl rfl, fin _ _ e2.symm g2.symm⟩⟩
end
end K02

end

section
set_option Elab.async false
set_option linter.all false
set_option maxRecDepth 100000
set_option maxHeartbeats 4000000
namespace K02
open PySem L2 SB
def mV : Option Int → V
  | some k => .int k
  | none => .non
def rowF (q : Addr) (up dn : Option Int) : List (Str × V) := putF "going" (mV dn) (putF "coming" (mV up) (putF "lot" (.ref q) []))
/-- a row at r: its lot at q -/
def RowAt (C : Addr) (H : Hp) (r q : Addr) (up dn : Option Int) : Prop := ∃ dx, H r = some (.ins C dx (rowF q up dn))
/-- a lot with marks that may stand there -/
structure Lot (ls : List Int) (up dn : Option Int) : Prop where
  ks : KSet ls
  ne : 0 < ls.length
  few : ls.length ≤ 1000
  u : ∀ k, up = some k → k ∈ ls
  d : ∀ k, dn = some k → up = none ∧ k ∈ ls
structure RowC (K : PySem.W.Frag) (C : Addr) : Prop where
  cl : Cls K C
  nL : NoAttr K C "lot"
  nC : NoAttr K C "coming"
  nG : NoAttr K C "going"
def spRow (K : PySem.W.Frag) (C : Addr) : Sp := fun vs H Q _ => ∃ r dx q ls up dn, vs = [.ref r, .ref q, mV up, mV dn] ∧ H r = some (.ins C dx []) ∧ SqT K H q (ls.map V.int) ∧ Lot ls up dn ∧
  ∀ H', H' r = some (.ins C dx (rowF q up dn)) → Keep r H H' → Q .non H'
theorem lot_lv {K : PySem.W.Frag} {H : Hp} {q : Addr} {ls : List Int} {up dn : Option Int} (L : Lot ls up dn) (hs : SqT K H q (ls.map V.int)) : LV K H (.ref q) true := by
  refine .inr ⟨q, ls.map V.int, ls.map some, rfl, hs, by rw [List.length_map]; have := L.few; omega, ?_, ?_⟩
  · clear hs L
    induction ls with
    | nil => exact .nil
    | cons a r ih => exact .cons (.int a) ih
  · rw [setB_ks L.ks, List.length_map, decide_eq_true L.ne]; rfl
section
variable {P : Program} {w : World} {K : PySem.W.Frag} {mg : Str → Option Value} {base : Heap}
theorem ok_row {f C fL fV : Addr} {fd fdL fdV : FuncData} (F : FunD K "__init__" "Row.__init__" (defArgs s_Row_init) (defBody s_Row_init) (defScope s_Row_init) [] [("coming", .non), ("going", .non)] f fd) (T : RowC K C)
    (gL : mg "is_lot" = some (.ref fL)) (FL : FnOk P w K mg base CX0 4 fL fdL ["value"] (spLot K)) (kL : PySem.W.keepIn K (.ref fL) = true) (bL : Binds K fdL ["value"] [])
    (gV : mg "lives_in" = some (.ref fV)) (FV : FnOk P w K mg base CX0 3 fV fdV ["living", "value"] (spLive K)) (kV : PySem.W.keepIn K (.ref fV) = true) (bV : Binds K fdV ["living", "value"] []) :
    FnOk P w K mg base CX0 5 f fd ["self", "lot", "coming", "going"] (spRow K C) := by
  refine F.ok sc_Row_init (fun vs H Q E h => ?_) (fun cdv A outer s H vs Q E hr h => ?_)
  · obtain ⟨r, dx, q, ls, up, dn, rfl, _⟩ := h
    rfl
  · obtain ⟨r, dx, q, ls, up, dn, rfl, hr0, hs, L, k⟩ := h
    refine ⟨_, pss_cons (ps_if (pt_not (pt_val (pe_call FL hr (by rfl) gL kL bL .nil pass0 (pa_cons (pv 1) pa_nil)))) pss_dead pss_nil)
      (pss_cons (ps_if (PW.pt (pw_and (pt_cmpR op_notN (pv 2) pe_non (nomark _)) (pw_and1 (pt_not (pt_val (pe_call FV (hr.mono (by decide)) (by rfl) gV kV bV .nil pass0 (pa_cons (pv 1) (pa_cons (pv 2) pa_nil)))))))) pss_dead pss_nil)
      (pss_cons (ps_if (PW.pt (pw_and (pt_cmpR op_notN (pv 3) pe_non (nomark _)) (pw_and1 (PW.pt (pw_or (pt_cmpR op_notN (pv 2) pe_non (nomark _)) (pw_or1 (pt_not (pt_val (pe_call FV (hr.mono (by decide)) (by rfl) gV kV bV .nil pass0 (pa_cons (pv 1) (pa_cons (pv 3) pa_nil)))))))))))
        pss_dead pss_nil)
      (pss_cons (ps_fld (pv 0) (pv 1) rfl) (pss_cons (ps_fld (pv 0) (pv 2) rfl) (pss_one (ps_fld (pv 0) (pv 3) rfl)))))), ?_⟩
    refine ⟨_, rfl, .ref q, true, rfl, lot_lv L hs, fun H1 s1 => ⟨_, rfl, iteF ?_⟩⟩
    have hs1 := sqT_same s1 hs
    have live : ∀ {k : Int}, k ∈ ls → liveB ls (some k) = true := fun h => by rw [liveB_key L.ks, decide_eq_true h]
    have hr1 : H1 r = some (.ins C dx []) := s1 _ _ hr0
    have fin : ∀ D : Ends, (∀ σ H', H' r = some (.ins C dx (rowF q up dn)) → Keep r H H' → D.nx σ H') → ∀ σ : L2.St, σ = [some (.ref r), some (.ref q), some (mV up), some (mV dn)] →
        tSeq (sFld K (tVar 0) (tVar 1) "lot") (tSeq (sFld K (tVar 0) (tVar 2) "coming") (sFld K (tVar 0) (tVar 3) "going")) D σ H1 := fun D hD σ e => by
      subst e
      refine ⟨_, rfl, _, rfl, r, C, dx, _, rfl, hr1, T.cl, T.nL, (by show 0 < 1000; decide), ?_⟩
      refine ⟨_, rfl, _, rfl, r, C, dx, _, rfl, upd_same, T.cl, T.nC, (by show 1 < 1000; decide), ?_⟩
      refine ⟨_, rfl, _, rfl, r, C, dx, _, rfl, upd_same, T.cl, T.nG, (by show 2 < 1000; decide), ?_⟩
      exact hD _ _ upd_same (((Keep.ofSame s1).upd).upd.upd)
    have last := fin { nx := fun _ H' => Q .non H', rt := Q } (fun σ H' h1 h2 => k H' h1 h2) _ rfl
    have hu := L.u
    have hd := L.d
    cases up with
    | none =>
      refine ⟨_, rfl, rfl, _, rfl, iteF (iteF ?_)⟩
      cases dn with
      | none => exact ⟨_, rfl, rfl, _, rfl, iteF (iteF last)⟩
      | some d =>
        refine ⟨_, rfl, rfl, _, rfl, iteT ⟨_, rfl, rfl, _, rfl, iteF ⟨_, rfl, _, rfl, q, ls, .int d, some d, rfl, hs1, .int d, _, rfl, ?_⟩⟩⟩
        rw [live (hd d rfl).2]
        exact iteF last
    | some u =>
      refine ⟨_, rfl, rfl, _, rfl, iteT ⟨_, rfl, _, rfl, q, ls, .int u, some u, rfl, hs1, .int u, _, rfl, ?_⟩⟩
      rw [live (hu u rfl)]
      refine iteF ?_
      cases dn with
      | none => exact ⟨_, rfl, rfl, _, rfl, iteF (iteF last)⟩
      | some d => exact absurd (hd d rfl).1 (by intro z; cases z)
end
end K02

end

section
set_option Elab.async false
set_option linter.all false
set_option maxRecDepth 100000
set_option maxHeartbeats 4000000
namespace K02
open PySem L2 SB
theorem key_text : ∀ n : Fin 1000, (toString ((n.val : Nat) : Int) : Str).length ≤ 4 := by decide +kernel
theorem key_len {k : Int} (h0 : 0 ≤ k) (h1 : k ≤ 999) : (toString k : Str).length ≤ 4 := by
  have := key_text ⟨k.toNat, by omega⟩
  have e : ((k.toNat : Nat) : Int) = k := by omega
  simp only [e] at this
  exact this
def spSign (K : PySem.W.Frag) (C : Addr) : Sp := fun vs H Q _ => ∃ r q up dn k, vs = [.ref r, .int k] ∧ RowAt C H r q up dn ∧ ∀ z : Str, z.length ≤ 1 → Q (.str z) H
def spText (K : PySem.W.Frag) (C : Addr) : Sp := fun vs H Q _ => ∃ r q ls up dn, vs = [.ref r] ∧ RowAt C H r q up dn ∧ SqT K H q (ls.map V.int) ∧ Lot ls up dn ∧ ∀ z H', Same H H' → Q (.str z) H'
theorem RowAt.sm {C r q : Addr} {H H' : Hp} {up dn : Option Int} (x : RowAt C H r q up dn) (s : Same H H') : RowAt C H' r q up dn := let ⟨dx, h⟩ := x; ⟨dx, s _ _ h⟩
/-- a new row, by the promise of its __init__ -/
theorem row_new {K : PySem.W.Frag} {C x dx q : Addr} {H : Hp} {ls : List Int} {up dn : Option Int} {Q : VK} {E : XK} (hx : H x = none) (hdx : H dx = none) (ne : dx ≠ x) (hs : SqT K H q (ls.map V.int)) (L : Lot ls up dn)
    (k : ∀ H', Same H H' → RowAt C H' x q up dn → Q (.ref x) H') :
    spRow K C [.ref x, .ref q, mV up, mV dn] (upd (upd H dx (.own x)) x (.ins C dx [])) (fun v H3 => v = .non ∧ Q (.ref x) H3) E := by
  have s1 : Same H (upd (upd H dx (.own x)) x (.ins C dx [])) := Same.new (Same.new (Same.refl H) hdx) (by rw [upd_ne (fun e => ne e.symm)]; exact hx)
  refine ⟨x, dx, q, ls, up, dn, rfl, upd_same, sqT_same s1 hs, L, fun H' h1 kk => ⟨rfl, k H' (fun c o e => ?_) ⟨dx, h1⟩⟩⟩
  exact kk c o (s1 c o e) (ne_of_none e hx)
section
variable {P : Program} {w : World} {K : PySem.W.Frag} {mg : Str → Option Value} {base : Heap}
theorem ok_sign {f C : Addr} {fd : FuncData} (F : Fun K "_sign" "Row._sign" s_Row_sign f fd) (T : RowC K C) : FnOk P w K mg base CX0 1 f fd ["self", "key"] (spSign K C) := by
  refine F.ok sc_Row_sign (fun vs H Q E h => ?_) (fun cdv A outer s H vs Q E hr h => ?_)
  · obtain ⟨r, q, up, dn, k, rfl, _⟩ := h
    rfl
  · obtain ⟨r, q, up, dn, z, rfl, ⟨dx, ha⟩, k⟩ := h
    refine ⟨_, pss_cons (ps_if (pt_cmpR op_eq (pv 1) (pe_fld (pv 0) rfl) (nomark _)) (pss_one (ps_ret pe_str)) pss_nil)
      (pss_cons (ps_if (pt_cmpR op_eq (pv 1) (pe_fld (pv 0) rfl) (nomark _)) (pss_one (ps_ret pe_str)) pss_nil) (pss_one (ps_ret pe_str))), ?_⟩
    refine ⟨_, rfl, _, rfl, r, C, dx, _, _, rfl, ha, T.cl, T.nC, rfl, by cases up <;> rfl, _, rfl, ite2 (fun e => k _ (by decide)) (fun e => ?_)⟩
    exact ⟨_, rfl, _, rfl, r, C, dx, _, _, rfl, ha, T.cl, T.nG, rfl, by cases dn <;> rfl, _, rfl, ite2 (fun e => k _ (by decide)) (fun e => k _ (by decide))⟩
theorem ok_text {f C fS : Addr} {fd fdS : FuncData} (F : Fun K "text" "Row.text" s_Row_text f fd) (T : RowC K C) (gStr : mg "str" = none) (mS : Meth K C "_sign" fS) (FS : FnOk P w K mg base CX0 1 fS fdS ["self", "key"] (spSign K C)) (bS : Binds K fdS ["self", "key"] []) :
    FnOk P w K mg base CX0 2 f fd ["self"] (spText K C) := by
  refine F.ok sc_Row_text (fun vs H Q E h => ?_) (fun cdv A outer s H vs Q E hr h => ?_)
  · obtain ⟨r, q, ls, up, dn, rfl, _⟩ := h
    rfl
  · obtain ⟨r, q, ls, up, dn, rfl, ⟨dx, ha⟩, hs, L, k⟩ := h
    have nd := sc_Row_text.nd
    refine ⟨_, pss_one (ps_ret (pe_join pe_str (pe_lc (own := [("key", 1)]) (g := gName 1) (tt := tYes) (te := tOp (fun x y H Q => ∃ i j, x = .str i ∧ y = .str j ∧ i.length + j.length ≤ sizeLine ∧ Q (.str (i ++ j)) H) (tMeth C "_sign" (spSign K C) [] E0 (tVar 0) (tCons (tVar 1) tNil)) (tCB (fun xs H Q => ∃ i, xs = [.int i] ∧ i.natAbs.log2 < 1920 ∧ Q (.str (toString i)) H) (tCons (tVar 1) tNil))) rfl nd
        (pi_tup (pe_fld (pv 0) rfl)) (blkOk_by (N := N_Row_text) (sc := defScope s_Row_text) (by decide +kernel))
        (fun _ _ _ _ _ => pg_name (i := 1) nd rfl (Or.inl rfl)) (fun _ _ _ _ _ => pts_nil) (fun _ _ _ _ _ => pe_op op_add_str (pe_meth (pv 0) T.cl mS FS hr bS .nil pass0 (pa_cons (pv 1) pa_nil)) (pe_callTy call_str_int (by rfl) gStr (by decide +kernel) (pa_cons (pv 1) pa_nil)))))), ?_⟩
    refine ⟨⟨_, rfl⟩, _, rfl, r, C, dx, _, _, rfl, ha, T.cl, T.nL, rfl, q, rfl, ⟨_, hs⟩, fun D hD => lc_tup (K := K) (a := q) (xs := ls.map V.int) (fun i H' => Same H H' ∧ ∃ ys : List Str, ys.length = i ∧ (∀ y ∈ ys, y.length ≤ 5) ∧ H' D = some (.lst (ys.map V.str)))
      ⟨Same.new (Same.refl H) hD, [], rfl, (fun y h => by cases h), upd_same⟩ (fun i H' _ p => sqT_same p.1 hs) (fun i x H' hx p => ?_) (fun H1 p => ?_)⟩
    · obtain ⟨z, rfl, hz⟩ := ints_at hx
      obtain ⟨s1, ys, hl, hy, hd⟩ := p
      have hm := List.mem_of_getElem? hz
      have z0 := L.ks.lo z hm
      have z1 := L.ks.hi z hm
      have hil : i < ls.length := (List.getElem?_eq_some_iff.mp hz).1
      have few := L.few
      refine ⟨rfl, _, rfl, r, dx, _, rfl, s1 _ _ ha, rfl, _, rfl, r, q, up, dn, z, rfl, ⟨dx, s1 _ _ ha⟩, fun g hg => ?_⟩
      have kl := key_len z0 z1
      refine ⟨_, rfl, z, rfl, ?_, _, _, rfl, rfl, by rw [sizeLine_eq]; omega, _, hd, by rw [List.length_map, hl, sizeLine_eq]; omega, (fun c o e => ?_), ys ++ [g ++ toString z], by rw [List.length_append, hl]; rfl, ?_, ?_⟩
      · by_cases h0 : z.natAbs = 0
        · rw [h0]; decide
        · exact Nat.lt_of_lt_of_le ((Nat.log2_lt h0).mpr (show z.natAbs < 2 ^ 10 by omega)) (by decide)
      · rw [upd_ne (ne_of_none e hD)]
        exact s1 c o e
      · intro y hy'
        rcases List.mem_append.mp hy' with h | h
        · exact hy y h
        · have : y = g ++ toString z := by simpa using h
          rw [this]
          have : (g ++ (toString z : Str)).length = g.length + (toString z : Str).length := Str.length_append _ _
          omega
      · rw [upd_same, List.map_append]; rfl
    · obtain ⟨s1, ys, hl, hy, hd⟩ := p
      rw [List.length_map] at hl
      have few := L.few
      refine ⟨_, D, ys, rfl, rfl, .inl (SqL.of hd), ?_, k _ H1 s1⟩
      have hsum : ∀ l : List Str, (∀ y ∈ l, y.length ≤ 5) → (l.map (·.length)).sum ≤ l.length * 5 := fun l => by
        induction l with
        | nil => intro _; simp
        | cons a r ih =>
          intro h
          have h1 := h a List.mem_cons_self
          have h2 := ih fun y hy => h y (List.mem_cons_of_mem _ hy)
          rw [List.map_cons, List.sum_cons, List.length_cons]
          omega
      have := hsum ys hy
      show (ys.map (·.length)).sum + ys.length * 1 ≤ 16777216
      omega
end
end K02

end

section
set_option Elab.async false
set_option linter.all false
set_option maxRecDepth 100000
set_option maxHeartbeats 4000000
namespace SB
open PySem PySem.Spec PyProof.Rows L2
theorem dpAll_ints {K : PySem.W.Frag} {H : Hp} : ∀ zs : List Int, DpAll K H (zs.map V.int) (zs.map PyData.int)
  | [] => .nil
  | z :: zs => .cons (.int z) (dpAll_ints zs)
theorem cut_last (B : List V) (z : V) : cutV (B ++ [z]) (some (-1)) none = [z] := by
  unfold cutV
  have e : HT.sIx (B ++ [z]).length 0 (some (-1)) = B.length := by
    show (if (-1 : Int) < 0 then ((-1 : Int) + (((B ++ [z]).length : Nat) : Int)).toNat else min (-1 : Int).toNat (B ++ [z]).length) = _
    rw [if_pos (by decide), List.length_append]
    show ((-1 : Int) + ((B.length + 1 : Nat) : Int)).toNat = _
    omega
  rw [e, HT.sIx_none, List.length_append, List.drop_append_of_le_length (Nat.le_refl _), List.drop_length]
  show List.take (B.length + 1 - B.length) ([] ++ [z]) = [z]
  rw [show B.length + 1 - B.length = 1 by omega]
  rfl
theorem cut_last0 : cutV [] (some (-1)) none = [] := rfl
theorem cut_first (z : V) (B : List V) : cutV (z :: B) none (some 1) = [z] := by
  unfold cutV
  rw [HT.sIx_none, show HT.sIx (z :: B).length (z :: B).length (some 1) = min 1 (z :: B).length from HT.sIx_nat _ _ 1, List.drop_zero, List.length_cons, show min 1 (B.length + 1) - 0 = 1 by omega]
  rfl
theorem cut_first0 : cutV [] none (some 1) = [] := rfl
def lowL (ks : List Int) (k : Int) : List Int := match (ks.filter fun z => decide (z < k)).getLast? with
  | some z => [z]
  | none => []
def highL (ks : List Int) (k : Int) : List Int := match (ks.filter fun z => decide (z > k)).head? with
  | some z => [z]
  | none => []
theorem low_cut (ks : List Int) (k : Int) : cutV ((ks.filter fun z => decide (z < k)).map V.int) (some (-1)) none = (lowL ks k).map V.int := by
  unfold lowL
  rcases List.eq_nil_or_concat (ks.filter fun z => decide (z < k)) with h | ⟨B, z, h⟩
  · rw [h]; rfl
  · have h' : (ks.filter fun z => decide (z < k)) = B ++ [z] := by simpa using h
    rw [h', List.map_append, show [z].map V.int = [V.int z] from rfl, cut_last]
    simp
theorem high_cut (ks : List Int) (k : Int) : cutV ((ks.filter fun z => decide (z > k)).map V.int) none (some 1) = (highL ks k).map V.int := by
  unfold highL
  cases h : (ks.filter fun z => decide (z > k)) with
  | nil => rfl
  | cons z B => rw [List.map_cons, cut_first]; rfl
theorem lowL_len (ks : List Int) (k : Int) : (lowL ks k).length ≤ 1 := by
  unfold lowL; split <;> simp
theorem highL_len (ks : List Int) (k : Int) : (highL ks k).length ≤ 1 := by
  unfold highL; split <;> simp
theorem lowL_mem {ks : List Int} {k z : Int} (h : z ∈ lowL ks k) : z ∈ ks := by
  unfold lowL at h
  split at h
  · rename_i y e
    have : z = y := by simpa using h
    subst this
    exact (List.mem_filter.mp (List.mem_of_getLast? e)).1
  · cases h
theorem highL_mem {ks : List Int} {k z : Int} (h : z ∈ highL ks k) : z ∈ ks := by
  unfold highL at h
  split at h
  · rename_i y e
    have : z = y := by simpa using h
    subst this
    exact (List.mem_filter.mp (List.mem_of_head? e)).1
  · cases h
end SB

end

section
set_option Elab.async false
set_option linter.all false
set_option maxRecDepth 100000
set_option maxHeartbeats 4000000
/-! t[::-1] of a tuple. -/
namespace SB
open PySem PySem.Spec PyProof.Rows L2
theorem fm_congr {α β : Type} {f g : α → Option β} : ∀ {l : List α}, (∀ x ∈ l, f x = g x) → l.filterMap f = l.filterMap g
  | [], _ => rfl
  | a :: l, h => by
    rw [List.filterMap_cons, List.filterMap_cons, h a List.mem_cons_self, fm_congr fun x hx => h x (List.mem_cons_of_mem _ hx)]
theorem back_pick (xs : Array Value) : ((List.range xs.size).filterMap fun (m : Nat) => xs[(((xs.size : Int) - 1) + (m : Int) * (-1)).toNat]?).toArray = xs.toList.reverse.toArray := by
  have e := PySem.W.krv_all xs.toList.reverse.toArray
  rw [List.size_toArray, List.length_reverse, Array.length_toList, List.toList_toArray] at e
  refine congrArg List.toArray (Eq.trans (fm_congr fun m hm => ?_) e)
  have hm' : m < xs.size := List.mem_range.mp hm
  have i : (((xs.size : Int) - 1) + (m : Int) * (-1)).toNat = xs.size - 1 - m := by omega
  rw [i]
  have h2 : (xs.toList.reverse.toArray)[m]? = xs.toList[xs.size - 1 - m]? := by
    rw [List.getElem?_toArray, List.getElem?_reverse (by rw [Array.length_toList]; exact hm'), Array.length_toList]
  rw [h2, Array.getElem?_toList]
section
variable {prog : Program} {w : World} {A : Around} {E : Value → Shared → Prop} {s : Shared}
theorem sliceApplied_rev {sl : Addr} {t : Tok} {n : Nat} {Q : Int × Int × Nat → Shared → Prop} (hs : s.heap.IsSliceOf sl .none .none (.int (-1) t))
    (h : Q (((n : Int) - 1), -1, n) s) : wpAny (model prog w) A (Builtin.Slice.sliceApplied (.ref sl) (pure (n : Int))) Q E s := by
  obtain ⟨os, hos, hcs, hds⟩ := id hs
  unfold Builtin.Slice.sliceApplied Builtin.Slice.sliceFields
  refine wpAny_bind (wpAny_bind (wpAny_field hos hds (x := .none) rfl (wpAny_bind (wpAny_field hos hds (x := .none) rfl (wpAny_bind (wpAny_field hos hds (x := .int (-1) t) rfl (wpAny_pure ?_)))))))
  refine wpAny_bind (HT.slicePart_ (.int (-1) t) ?_)
  show wpAny _ _ (if ((-1 : Int) == 0) = true then _ else _) _ _ s
  rw [if_neg (by decide)]
  refine wpAny_bind (HT.slicePart_ .none (wpAny_bind (HT.slicePart_ .none (wpAny_bind (wpAny_pure ?_)))))
  have e : Builtin.Slice.sliceAdjust none none (-1) (n : Int) = (((n : Int) - 1), -1) := by
    unfold Builtin.Slice.sliceAdjust
    rfl
  show wpAny _ _ (match Builtin.Slice.sliceAdjust none none (-1) (n : Int) with | (lo, hi) => pure (lo, (-1 : Int), Builtin.Slice.slicePlaces lo hi (-1))) _ _ s
  rw [e]
  show wpAny _ _ (pure (((n : Int) - 1), (-1 : Int), Builtin.Slice.slicePlaces ((n : Int) - 1) (-1) (-1))) _ _ s
  have e2 : Builtin.Slice.slicePlaces ((n : Int) - 1) (-1) (-1) = n := by
    unfold Builtin.Slice.slicePlaces
    have h1 : ¬ ((-1 : Int) > 0) := by decide
    simp only [h1, if_false]
    rw [show (- -1 : Int) = 1 by decide]
    simp only [Int.ediv_one]
    split <;> omega
  rw [e2]
  exact wpAny_pure h
theorem getItem_tuple_rev {t sl : Addr} {items : Array Value} {tk : Tok} {Q : Value → Shared → Prop} (ht : IsTup s.heap t items) (hs : s.heap.IsSliceOf sl .none .none (.int (-1) tk))
    (h : Q (.ref s.heap.objs.size) { s with heap := s.heap.push { cls := .type "tuple", data := .seq items.toList.reverse.toArray } })
    (hsz : items.size ≤ sizeLine) : wpAny (model prog w) A (getItem (.ref t) (.ref sl)) Q E s := by
  have htake : sizeOk (.seq items.toList.reverse.toArray) := by
    show items.toList.reverse.toArray.size ≤ sizeLine
    rw [List.size_toArray, List.length_reverse, Array.length_toList]
    exact hsz
  obtain ⟨os, hos, hcs, hds⟩ := id hs
  have hTs : s.TypeIs (.ref sl) "slice" := ⟨os, hos, hcs⟩
  unfold getItem
  try with_reducible refine wpAny_holding ?_
  first | refine wpAny_bind (wpAny_pure ?_) | skip
  refine wpAny_bind (wpAny_sequenceKey ht.typeIs (by decide) ?_)
  refine wpAny_bind (wpAny_callSpecial?_slot (name := Str.ofString "__getitem__") ht.typeIs PyProof.Rows.slot_tuple_getitem
    (wpAny_call_entry PyProof.Rows.slot_tuple_getitem ht.typeIs entry_tuple_getitem ?_ (args_tuple_getitem _ _)))
  show wpAny _ _ (Builtin.Tuple.tupleItemsOf (.ref t) >>= _) _ _ s
  refine wpAny_bind (tupleItemsOf_ ht ?_)
  refine wpAny_bind (wpAny_typeOf hTs ?_)
  rw [if_pos (by decide)]
  refine wpAny_bind (sliceApplied_rev hs ?_)
  have hno : ¬ ((((items.size : Int) - 1) == 0 && (-1 : Int) == 1 && items.size == items.size) = true) := by
    intro q
    rw [Bool.and_eq_true, Bool.and_eq_true] at q
    exact absurd q.1.2 (by decide)
  show wpAny _ _ (if (((items.size : Int) - 1) == 0 && (-1 : Int) == 1 && items.size == items.size) = true then _ else _) _ _ s
  rw [if_neg hno, back_pick]
  first
    | exact wpAny_bind (m := Builtin.Tuple.tupleExact _) (wpAny_newObj_type (wpAny_pure ⟨_, rfl, wpAny_pure h⟩) htake)
    | exact wpAny_bind (m := Builtin.Tuple.tupleExact _) (wpAny_newObj_type (wpAny_bind (wpAny_pure (wpAny_pure ⟨_, rfl, wpAny_pure h⟩))) htake)
    | exact wpAny_bind (wpAny_bind (m := Builtin.Tuple.tupleExact _) (wpAny_newObj_type (wpAny_pure (wpAny_pure ⟨_, rfl, wpAny_pure h⟩)) htake))
    | exact wpAny_bind (wpAny_bind (m := Builtin.Tuple.tupleExact _) (wpAny_newObj_type (wpAny_pure ⟨_, rfl, wpAny_pure h⟩) htake))
end
def tRevT (K : PySem.W.Frag) (te : TE) : TE := fun σ H Q => te σ H fun x H1 => ∃ a xs, x = .ref a ∧ SqT K H1 a xs ∧ ∀ p, H1 p = none → Q (.ref p) (upd H1 p (.tup xs.reverse))
theorem pe_revT {X : Cx} {e : Expr} {te : TE} {k : Nat} {p1 p2 p3 pos : Pos} (he : PE X e te) : PE X (.Subscript e (.Slice none none (some (.UnaryOp .USub (.Constant (.int 1) k p1) p2)) p3) pos) (tRevT X.K te) := by
  refine ⟨fun pins s σ H Q I h => ?_⟩
  refine Subscript_ (thn (he.run pins s σ H _ I h) fun v s1 ⟨x, H1, I1, r1, q1⟩ => ?_)
  obtain ⟨a, xs, ex, hx, q⟩ := q1
  subst ex
  cases r1
  have hst : PO X (some (.UnaryOp .USub (.Constant (.int 1) k p1) p2)) (tPart (tUn (rU fun i => .int (-i)) (tC (.int 1)))) := po_some (pe_un un_neg pe_int)
  refine wpAny_Slice (thn (po_none.run pins s1 σ H1 (fun o H2 => o = none ∧ H2 = H1) I1 ⟨rfl, rfl⟩) fun vl s2 ⟨l, H2, I2, pl, el, e2⟩ => ?_)
  subst el e2
  refine thn (po_none.run pins s2 σ H2 (fun o H3 => o = none ∧ H3 = H2) I2 ⟨rfl, rfl⟩) fun vu s3 ⟨u, H3, I3, pu, eu, e3⟩ => ?_
  subst eu e3
  refine thn (hst.run pins s3 σ H3 (fun o H4 => o = some (-1) ∧ H4 = H3) I3 ⟨1, rfl, -1, rfl, rfl, rfl⟩) fun vs s4 ⟨o, H4, I4, ps, eo, e4⟩ => ?_
  subst eo e4
  have I5 : Inv X pins σ H4 { s4 with heap := s4.heap.push { cls := .type "slice", data := .fields #[vl, vu, vs] } } := I4.kept (t' := s4.toks) fun b ob q => Heap.get?_push_of_some _ q
  obtain ⟨its, r, ht, hz⟩ := I5.tuple hx
  have hlen := r.length
  cases pl
  cases pu
  cases ps with
  | int _ t' =>
    show wpAny (model X.prog X.w) X.A (subscriptTail e (.Slice none none (some (.UnaryOp .USub (.Constant (.int 1) k p1) p2)) p3) (.ref a) (.ref s4.heap.objs.size)) (EP X pins σ Q) X.xe { s4 with heap := s4.heap.push { cls := .type "slice", data := .fields #[.none, .none, .int (-1) t'] } }
    refine tail_any (ops := [.ref a, .ref s4.heap.objs.size]) ht.typeIs (PyProof.Rows.slot_tuple_getitem.lookup) ?_ (by with_unfolding_all rfl)
    refine getItem_tuple_rev ht (Heap.IsSliceOf.new _ .none .none (.int (-1) t')) ?_ (by rw [List.size_toArray]; omega)
    refine ⟨.ref _, _, I5.laid (t' := s4.toks) (o := .tup xs.reverse) (fun b ob q => Heap.get?_push_of_some _ q) (Nat.le_refl _) ?_, rfl, q _ (I5.hok.fresh (Nat.le_refl _))⟩
    exact ⟨by rw [List.length_reverse]; exact hz, _, r.reverse, IsTup.new _ _⟩
end SB

end

section
set_option Elab.async false
set_option linter.all false
set_option maxRecDepth 100000
set_option maxHeartbeats 8000000
/-! sorted(set(xs)), xs a list of whole numbers. -/
namespace SB
open PySem PySem.Spec PyProof.Rows L2
abbrev emS (w : World) : Obj := { cls := .type "set", dict := none, data := .set #[] 0 (.fresh 0 0 (!w.params.followText "set-order")) }
section
variable {P : Program} {w : World} {A : Around} {E : Value → Shared → Prop} {s : Shared}
theorem set_of_listI {l : Addr} {its : Array Value} (ks : List Int) {Q : Value → Shared → Prop} (nh : A.handled = none) (lst : s.heap.IsList l its) (iA : IntsAre its.toList ks) (room : ks.length + 1 < scanBound)
    (fin : ∀ (h' : Heap) (tk c : Nat), SetR w h' s.heap.objs.size (fun j => decide (j ∈ ks)) c → c ≤ ks.length → (∀ b o, s.heap.get? b = some o → h'.get? b = some o) → Q (.ref s.heap.objs.size) { s with heap := h', toks := tk }) :
    wpAny (model P w) A (call (.type "set") [.ref l]) Q E s := by
  have size : its.size = ks.length := (Array.length_toList (xs := its)).symm.trans (IntsAre.length iA)
  obtain ⟨c0, t0, mro0⟩ := F.called_set.mro
  have made0 := F.called_set.made
  have sub0 := F.called_set.sub
  refine wpAny_call (codeAny_of_tree (show wpAny _ _ (callAny (.type "set") _) _ _ _ from ?_))
  refine wpAny_pure ⟨Code.quiet_builtin _ (by decide +kernel), codeAny_builtin F.entry_type_call ?_⟩
  rw [Around.under_plain (weight_type_call_type "set" [.ref l] []) rfl]
  have not0 := F.called_set.notType
  have can0 := F.called_set.canCreate
  have one0 := F.typeCall_set_1 (.ref l)
  repeat (any_goals (first | assumption | wp_step))
  refine codeAny_mono (code_set_led1 (.ref l) (E := E) (Q₁ := fun obj s1 => obj = .ref s.heap.objs.size ∧ s1 = { s with heap := s.heap.push (emS w) }) ⟨rfl, rfl⟩) fun r s1 hr => ?_
  cases r with
  | error e => exact hr
  | ok fl =>
    cases fl with
    | ret obj =>
      obtain ⟨rfl, rfl⟩ := hr
      have atS : (s.heap.push (emS w)).get? s.heap.objs.size = some (emS w) := Heap.get?_push_size _ rfl
      have tyS : Shared.TypeIs { s with heap := s.heap.push (emS w) } (.ref s.heap.objs.size) "set" := ⟨_, atS, rfl⟩
      have look0 := F.called_set.init.lookup
      have bind0 := F.called_set.init.bind (.ref s.heap.objs.size)
      repeat (any_goals (first | assumption | wp_step))
      refine codeAny_mono (codeAny_call_builtin (R := wants (fun r s2 => r = .none ∧ ∃ h' tk c, s2 = { s with heap := h', toks := tk } ∧ SetR w h' s.heap.objs.size (fun j => decide (j ∈ ks)) c ∧ c ≤ ks.length ∧
          (∀ b o, s.heap.get? b = some o → h'.get? b = some o)) E) F.called_set.init.plain F.entry_set_init (check_set_init_1 tyS ?_)) fun r2 s2 hr2 => ?_
      · obtain ⟨ol, hol, hcl, nl, hdl⟩ := lst
        obtain ⟨oc, odd, oda, osl⟩ := ol
        simp only at hcl hdl
        subst hcl hdl
        have hol2 : (s.heap.push (emS w)).get? l = some { cls := .type "list", dict := odd, data := .seq its nl, slots := osl } := Heap.get?_push_of_some _ hol
        have sls := F.sub_list_set
        have slf := F.sub_list_frozenset
        have nd : (Value.type "list" == Value.type "dict") = false := by decide
        have lst1 : (s.heap.push (emS w)).IsList l its := ⟨_, hol2, rfl, nl, rfl⟩
        unfold Builtin.«set.__init__» noKeywords Builtin.Frozenset.updateFrom
        generalize itE : pyIter = IT
        wp_walk
        subst itE
        refine wpAny_pyIter_list lst1 (wpAny_bind (wpAny_runValue ?_))
        have lt0 : l < s.heap.objs.size := Heap.lt_size hol
        have nh3 : A.in1.in1.in1.handled = none := by simp [nh]
        have apart : l ≠ (s.heap.push (emS w)).objs.size := by
          rw [Heap.size_push]
          exact Nat.ne_of_lt (Nat.lt_succ_of_lt lt0)
        have out : s.heap.objs.size ∉ [(s.heap.push (emS w)).objs.size, l] := by
          rw [Heap.size_push]
          simp only [List.mem_cons, List.not_mem_nil, or_false, not_or]
          exact ⟨Nat.ne_of_lt (Nat.lt_succ_self _), Nat.ne_of_gt lt0⟩
        have vals : ∀ (i : Nat) (v : Value), its[i]? = some v → ∃ k t, ks[i]? = some k ∧ v = .int k t := fun i v hv => by
          have hi : i < ks.length := by
            rw [← size]
            exact (Array.getElem?_eq_some_iff.mp hv).1
          obtain ⟨t, e⟩ := IntsAre.int_at iA i v (by rw [Array.getElem?_toList]; exact hv)
          refine ⟨ks[i], t, List.getElem?_eq_getElem hi, ?_⟩
          rw [e, List.getD_eq_getElem?_getD, List.getElem?_eq_getElem hi]
          rfl
        refine set_update_ints ((Walks.list nh3 _ l apart its).toS) s.heap.objs.size out ks size room vals (its.size - 0) 0 _ (by omega) (Nat.zero_le _) ⟨⟨_, Heap.get?_push_size _ rfl, rfl, rfl⟩, (lst1.push _)⟩ ?fresh ?rest
        case fresh => exact ⟨0, Nat.le_refl 0, setR_new_at (Heap.get?_push_of_some _ atS)⟩
        case rest =>
          intro s3 c3 mv hc3 R3
          obtain ⟨h3, g3, d3, tk3, os3⟩ := s3
          have eg : g3 = s.gens := mv.gens
          have ed : d3 = s.drawn := mv.drawn
          have eo : os3 = s.os := mv.os
          subst eg ed eo
          show wpAny _ _ _ _ _ _
          refine wpAny_pure (show wpAny _ _ (ret Value.none) _ _ _ from ?_)
          rw [size] at hc3
          refine wpAny_pure ⟨rfl, h3, tk3, c3, rfl, R3, hc3, fun b o e => ?_⟩
          have b0 : b < s.heap.objs.size := Heap.lt_size e
          have b2 : b ≠ (s.heap.push (emS w)).objs.size := by
            rw [Heap.size_push]
            exact Nat.ne_of_lt (Nat.lt_succ_of_lt b0)
          refine mv.heap b o ?_ (Heap.get?_push_of_some _ (Heap.get?_push_of_some _ e))
          simp only [List.mem_cons, List.not_mem_nil, or_false, not_or]
          exact ⟨Nat.ne_of_lt b0, b2⟩
      · cases r2 with
        | error e => exact hr2
        | ok f2 =>
          cases f2 with
          | ret r =>
            obtain ⟨rfl, h2, tk2, c2, rfl, R2, hc2, kk2⟩ := hr2
            repeat (any_goals (first | assumption | wp_step))
            exact fin h2 tk2 c2 R2 hc2 kk2
          | next => exact hr2.elim
          | brk => exact hr2.elim
          | cont => exact hr2.elim
    | next => exact hr.elim
    | brk => exact hr.elim
    | cont => exact hr.elim
end
def rSetI (K : PySem.W.Frag) (w : World) : List V → Hp → VK → Prop := fun xs H Q => ∃ (l : Addr) (ks : List Int), xs = [.ref l] ∧ SqL K H l (ks.map V.int) ∧ ks.length ≤ 60 ∧
  ∀ p c, H p = none → c ≤ ks.length → Q (.ref p) (upd H p (SetO w p (fun j => decide (j ∈ ks)) c))
theorem cr_setI {X : Cx} (hc : X.calm = true) : CallR X (.type "set") (rSetI X.K X.w) := by
  intro pins s σ H xs us Q I r h
  obtain ⟨l, ks, rfl, hs, hz, q⟩ := h
  obtain ⟨its, rv, hl, _⟩ := I.list hs
  rw [Vals.ref1 r]
  refine set_of_listI ks (I.ok.hd hc) hl.isList (by simpa using rv.ints) (by unfold scanBound; omega) fun h' tk c R hcn k => ?_
  have hlt : s.heap.objs.size ≤ s.heap.objs.size := Nat.le_refl _
  exact ⟨.ref _, upd H s.heap.objs.size (SetO X.w s.heap.objs.size (fun j => decide (j ∈ ks)) c), I.laid (t' := tk) k hlt (setO_new R), rfl, q _ _ (I.hok.fresh hlt) hcn⟩
end SB

end

section
set_option Elab.async false
set_option linter.all false
set_option maxRecDepth 100000
set_option maxHeartbeats 4000000
/-! repr of an own object; repr of data within data. -/
namespace SB
open PySem PySem.Spec PyProof.Rows L2
section
variable {prog : Program} {w : World} {A : Around} {E : Value → Shared → Prop} {s : Shared} {K : PySem.W.Frag} {x C f : Addr} {ox : Obj} {od : Option Obj}
theorem special_of_own {M : Model} {name : Str} {r : Option Value} {Q : Option Value → Shared → Prop} (X : K.In s.heap) (I : PySem.W.InstAt s.heap x ox C od) (hs : PySem.W.findIn K (.ref C) name = some r) (hq : Q r s) :
    wpAny M A (specialOf (.ref x) name) Q E s := by
  unfold specialOf
  exact wpAny_bind (I.type.here ((PySem.W.looks_findIn X hs).here hq))
theorem call_repr_own {Q : Value → Shared → Prop} (hu : A.units + 1 < cLine) (X : K.In s.heap) (I : PySem.W.InstAt s.heap x ox C od) (hs : PySem.W.findIn K (.ref C) "__repr__" = some (some (.ref f))) (hf : PySem.W.isFn K (.ref f) = true)
    (h : wpAny (model prog w) A.in1 (call (.ref f) [.ref x]) (fun r s₁ => ∃ x t, r = .str x t ∧ Q r s₁) E s) : wpAny (model prog w) A (call (.builtin "repr") [.ref x]) Q E s := by
  refine Calls.call_function_entry F.kind_repr F.plain_repr F.entry_repr (F.args_repr1 _) ?_
  unfold Builtin.«repr»
  refine wpAny_bind (wpAny_pure ?_)
  refine wpAny_bind (m := cRoomFor _ _) (wpAny_cRoomFor (by show A.units + 1 < cLine; exact hu) ?_)
  refine wpAny_bind (special_of_own X I hs ?_)
  refine wpAny_bind (m := callSpecialIfBound? (.ref x) (Str.ofString "__repr__")) (PySem.W.ifBound_K X I hs hf (wpAny_mono h (fun r s₁ h₁ => ?_) fun _ _ e => e))
  obtain ⟨y, t, rfl, hq⟩ := h₁
  refine wpAny_bind (wpAny_isInstance (T := "str") (b := true) rfl isSubtype_str_str ?_)
  exact wpAny_pure ⟨_, rfl, hq⟩
end
/-- repr(o), o an instance of C: what its __repr__ promises, which is a text -/
def rReprO (C : Addr) (sp : Sp) : List V → Hp → VK → Prop := fun xs H Q => ∃ a dx fs, xs = [.ref a] ∧ H a = some (.ins C dx fs) ∧ sp [.ref a] H (fun v H' => ∃ z, v = .str z ∧ Q v H') (fun _ _ _ => False)
section
variable {X : Cx} {C f : Addr} {fd : FuncData} {k : Nat} {sp : Sp}
theorem cr_reprO (hs : PySem.W.findIn X.K (.ref C) "__repr__" = some (some (.ref f))) (hf : PySem.W.isFn X.K (.ref f) = true) (F : FnOk X.prog X.w X.K X.mg X.base CX0 k f fd ["self"] sp) (hr : Room (k + 1) X.A) (hb : Binds X.K fd ["self"] []) :
    CallR X (.builtin "repr") (rReprO C sp) := by
  intro pins s σ H xs us Q I r h
  obtain ⟨a, dx, fs, rfl, e, q⟩ := h
  obtain ⟨u, rfl, ru⟩ := vals1 r
  obtain rfl : u = Value.ref a := ru
  obtain ⟨mA, O, _, _, _, _⟩ := ins_get I.hok e
  obtain ⟨od, J, _⟩ := O.look
  refine call_repr_own (by have := hr.un; omega) I.kIn J hs hf ?_
  have r1 : Vals [V.ref a] [Value.ref a] := .cons rfl .nil
  refine wpAny_call (codeAny_mono (F.run X.A.in1 X.stack s H ⟨[.ref a], []⟩ [.ref a] [.ref a] _ _ hr.in1 I.env0.in1 (hb s [.ref a] I.kIn rfl) r1 q) fun r s' hq => ?_)
  cases r with
  | error e' => exact absurd hq (by intro z; exact z)
  | ok fl =>
    cases fl with
    | ret u =>
      obtain ⟨v, H', J', rv, z, ev, q'⟩ := I.after hq
      subst ev
      obtain ⟨t, et⟩ := rv
      exact ⟨z, t, et, .str z, H', J', ⟨t, et⟩, q'⟩
    | next => exact False.elim hq
    | brk => exact False.elim hq
    | cont => exact False.elim hq
theorem cr_or {f : Value} {r1 r2 : List V → Hp → VK → Prop} (h1 : CallR X f r1) (h2 : CallR X f r2) : CallR X f (fun xs H Q => r1 xs H Q ∨ r2 xs H Q) := by
  intro pins s σ H xs us Q I r h
  exact h.elim (h1 pins s σ H xs us Q I r) (h2 pins s σ H xs us Q I r)
end
/-- v is, whatever stands around, the datum d -/
def Rd (K : PySem.W.Frag) (H : Hp) (v : V) (d : PyData) : Prop := ∀ (X : Cx) (pins : List (Addr × Obj)) (σ : L2.St) (s : Shared) (u : Value), X.K = K → Inv X pins σ H s → RelV v u → ∃ as, Reads s.heap u d as ∧ (d.hasDict = true → sysModules ∉ as)
/-- repr(v), by the datum -/
def rReprD (K : PySem.W.Frag) : List V → Hp → VK → Prop := fun xs H Q => ∃ v d, xs = [v] ∧ Rd K H v d ∧ d.showable = true ∧ d.shown.length ≤ sizeLine ∧ d.depth ≤ 8 ∧ Q (.str d.shown) H
theorem cr_reprD {X : Cx} (hg : X.A.guards = some []) (hu : X.A.units + 40 < cLine) : CallR X (.builtin "repr") (rReprD X.K) := by
  intro pins s σ H xs us Q I r h
  obtain ⟨v, d, rfl, sh, hs, hz, hd, q⟩ := h
  obtain ⟨u, rfl, ru⟩ := vals1 r
  have fin : ∀ (h' : Heap) (t : Tok) (tk : Nat), (∀ b o, s.heap.get? b = some o → h'.get? b = some o) → EP X pins σ Q (.str d.shown t) { s with heap := h', toks := tk } := fun h' t tk k => ⟨.str d.shown, H, I.kept k, ⟨t, rfl⟩, q⟩
  obtain ⟨as, rd, hsm⟩ := sh X pins σ s u rfl I ru
  cases rd with
  | none => exact P.repr_of_none (fin s.heap _ _ fun _ _ e => e)
  | bool b => exact P.repr_of_bool (fin s.heap _ _ fun _ _ e => e)
  | int i t => exact P.repr_of_int (by simpa [PyData.showable] using hs) (fin s.heap _ _ fun _ _ e => e)
  | str x t => exact P.repr_of_str (fin s.heap _ _ fun _ _ e => e) hz
  | list a1 a2 a3 a4 => exact repr_of_reads' (.list a1 a2 a3 a4) hs hsm hg (by omega) (fun _ _ e => e) (fun h' t tk k => fin h' t tk k) hz
  | tuple a1 a2 a3 a4 => exact repr_of_reads' (.tuple a1 a2 a3 a4) hs hsm hg (by omega) (fun _ _ e => e) (fun h' t tk k => fin h' t tk k) hz
  | dict a1 a2 a3 a4 a5 => exact repr_of_reads' (.dict a1 a2 a3 a4 a5) hs hsm hg (by omega) (fun _ _ e => e) (fun h' t tk k => fin h' t tk k) hz
end SB

end

section
set_option Elab.async false
set_option linter.all false
set_option maxRecDepth 100000
set_option maxHeartbeats 4000000
/-! small data; data within data; values gathered in a menu. -/
namespace SB
open PySem PySem.Spec PyProof.Rows L2
/-- a small datum -/
structure Dt (n m : Nat) (d : PyData) : Prop where
  ls : d.leavesShort 50 = true
  sh : d.showable = true
  bk : d.bulk ≤ n
  dp : d.depth ≤ m
theorem Dt.fits {n m : Nat} {d : PyData} (h : Dt n m d) (hn : n ≤ 100000) : d.shown.length ≤ sizeLine := by
  have e := PyData.shown_le_bulk 50 (by decide) d h.ls
  have h2 : 52 * d.bulk ≤ 52 * n := Nat.mul_le_mul_left _ h.bk
  rw [sizeLine_eq]
  omega
theorem Dt.mono {n m n' m' : Nat} {d : PyData} (h : Dt n m d) (hn : n ≤ n') (hm : m ≤ m') : Dt n' m' d := ⟨h.ls, h.sh, Nat.le_trans h.bk hn, Nat.le_trans h.dp hm⟩
theorem dt_non : Dt 0 0 .none := ⟨by simp [PyData.leavesShort], by simp [PyData.showable], by simp [PyData.bulk], by simp [PyData.depth]⟩
theorem dt_bl (b : Bool) : Dt 0 0 (.bool b) := ⟨by simp [PyData.leavesShort], by simp [PyData.showable], by simp [PyData.bulk], by simp [PyData.depth]⟩
theorem log_lt {i : Int} (h : i.natAbs < 10 ^ 45) : i.natAbs.log2 < 1920 := by
  by_cases h0 : i.natAbs = 0
  · rw [h0]; decide
  · exact Nat.lt_of_lt_of_le ((Nat.log2_lt h0).mpr (Nat.lt_of_lt_of_le h (show 10 ^ 45 ≤ 2 ^ 150 by decide +kernel))) (by decide)
theorem dt_int {i : Int} (h : i.natAbs < 10 ^ 45) : Dt 0 0 (.int i) := by
  refine ⟨?_, ?_, by simp [PyData.bulk], by simp [PyData.depth]⟩
  · have e := int_text_length_le10 (a := i) (k := 45) (by decide) h
    simp only [PyData.leavesShort, PyData.shown]
    refine decide_eq_true ?_
    show (Str.ofString (toString i)).length ≤ 50
    rw [PySem.ofString_length]
    omega
  · simp only [PyData.showable, decide_eq_true_eq]
    exact log_lt h
theorem dt_str {n : Nat} {z : Str} (h : Sm n z) : Dt n 0 (.str z) := by
  refine ⟨?_, by simp [PyData.showable], ?_, by simp [PyData.depth]⟩
  · simp only [PyData.leavesShort, List.all_eq_true, decide_eq_true_eq]
    exact fun c hc => Nat.lt_trans (h.2 c hc) (by decide)
  · simp only [PyData.bulk]
    exact h.1
theorem dt_all {n m : Nat} : ∀ {ds : List PyData}, (∀ d ∈ ds, Dt n m d) → PyData.leavesShortAll 50 ds = true ∧ PyData.showableAll ds = true ∧ PyData.bulkAll ds ≤ ds.length * (n + 1) ∧ PyData.depthAll ds ≤ m
  | [], _ => ⟨by simp [PyData.leavesShortAll], by simp [PyData.showableAll], by simp [PyData.bulkAll], by simp [PyData.depthAll]⟩
  | d :: ds, h => by
    obtain ⟨a1, a2, a3, a4⟩ := dt_all (ds := ds) fun x hx => h x (List.mem_cons_of_mem _ hx)
    have q := h d List.mem_cons_self
    have b1 := q.bk
    have b2 := q.dp
    refine ⟨by simp only [PyData.leavesShortAll, q.ls, a1, Bool.and_self], by simp only [PyData.showableAll, q.sh, a2, Bool.and_self], ?_, ?_⟩
    · simp only [PyData.bulkAll, List.length_cons]
      rw [Nat.add_mul, Nat.one_mul]
      omega
    · simp only [PyData.depthAll]
      omega
theorem dt_list {n m L : Nat} {ds : List PyData} (h : ∀ d ∈ ds, Dt n m d) (hl : ds.length ≤ L) : Dt (L * (n + 1)) (m + 1) (.list ds) := by
  obtain ⟨a1, a2, a3, a4⟩ := dt_all h
  have h2 : ds.length * (n + 1) ≤ L * (n + 1) := Nat.mul_le_mul_right _ hl
  exact ⟨by simp only [PyData.leavesShort]; exact a1, by simp only [PyData.showable]; exact a2, by simp only [PyData.bulk]; omega, by simp only [PyData.depth]; omega⟩
theorem dt_tuple {n m L : Nat} {ds : List PyData} (h : ∀ d ∈ ds, Dt n m d) (hl : ds.length ≤ L) : Dt (L * (n + 1)) (m + 1) (.tuple ds) := by
  obtain ⟨a1, a2, a3, a4⟩ := dt_all h
  have h2 : ds.length * (n + 1) ≤ L * (n + 1) := Nat.mul_le_mul_right _ hl
  exact ⟨by simp only [PyData.leavesShort]; exact a1, by simp only [PyData.showable]; exact a2, by simp only [PyData.bulk]; omega, by simp only [PyData.depth]; omega⟩
section
variable {K : PySem.W.Frag} {H : Hp}
theorem rd_sh {v : V} {d : PyData} (h : Sh K H v d) : Rd K H v d := fun X pins σ s u e I r => by
  subst e
  exact sh_reads I h r
theorem rd_non : Rd K H .non .none := rd_sh (.dp .non (by simp [PyData.hasDict]))
theorem rd_bl (b : Bool) : Rd K H (.bl b) (.bool b) := rd_sh (.dp (.bl b) (by simp [PyData.hasDict]))
theorem rd_int (i : Int) : Rd K H (.int i) (.int i) := rd_sh (.dp (.int i) (by simp [PyData.hasDict]))
theorem rd_str (z : Str) : Rd K H (.str z) (.str z) := rd_sh (.dp (.str z) (by simp [PyData.hasDict]))
/-- .. and is no part of the table of modules -/
def RdN (K : PySem.W.Frag) (H : Hp) (v : V) (d : PyData) : Prop := ∀ (X : Cx) (pins : List (Addr × Obj)) (σ : L2.St) (s : Shared) (u : Value), X.K = K → Inv X pins σ H s → RelV v u → ∃ as, Reads s.heap u d as ∧ sysModules ∉ as
theorem RdN.rd {v : V} {d : PyData} (h : RdN K H v d) : Rd K H v d := fun X pins σ s u e I r => let ⟨as, a, b⟩ := h X pins σ s u e I r; ⟨as, a, fun _ => b⟩
theorem rn_flat {v : V} (f : flatV v = true) : RdN K H v (flatD v) := fun X pins σ s u e I r => ⟨[], reads_flat r f, by simp⟩
theorem rn_all {X : Cx} {pins : List (Addr × Obj)} {σ : L2.St} {s : Shared} (I : Inv X pins σ H s) : ∀ {xs : List V} {ds : List PyData} {us : List Value}, Paired (RdN X.K H) xs ds → Vals xs us →
    ∃ as, ReadsAll s.heap us ds as ∧ sysModules ∉ as
  | _, _, _, .nil, .nil => ⟨[], .nil, by simp⟩
  | _, _, _, .cons a t, .cons r q => by
    obtain ⟨as, h1, h2⟩ := a X pins σ s _ rfl I r
    obtain ⟨bs, h3, h4⟩ := rn_all I t q
    refine ⟨as ++ bs, .cons h1 h3, ?_⟩
    rw [List.mem_append, not_or]
    exact ⟨h2, h4⟩
theorem rn_tup {a : Addr} {xs : List V} {ds : List PyData} (hs : SqT K H a xs) (hp : Paired (RdN K H) xs ds) : RdN K H (.ref a) (.tuple ds) := fun X pins σ s u e I r => by
  subst e
  cases (show u = Value.ref a from r)
  obtain ⟨its, rv, ⟨o, ho, hc, n, hd⟩, _⟩ := I.tuple hs
  obtain ⟨as, hr, hm⟩ := rn_all I hp rv
  exact ⟨_, Reads.tuple ho hc hd hr, hm⟩
theorem rn_lst {a : Addr} {xs : List V} {ds : List PyData} (hs : SqL K H a xs) (hp : Paired (RdN K H) xs ds) (ha : a ≠ sysModules) : RdN K H (.ref a) (.list ds) := fun X pins σ s u e I r => by
  subst e
  cases (show u = Value.ref a from r)
  obtain ⟨its, rv, ⟨o, n, ho, hc, _, hd⟩, _⟩ := I.list hs
  obtain ⟨as, hr, hm⟩ := rn_all I hp rv
  exact ⟨_, Reads.list ho hc hd hr, by
    simp only [List.mem_cons, not_or]
    exact ⟨fun e => ha e.symm, hm⟩⟩
theorem rn_dct {a : Addr} {kvs : List (Key × V)} (h : H a = some (.dK kvs)) (hf : ∀ p ∈ kvs, flatV p.2 = true) : RdN K H (.ref a) (.dict (kvs.map fun p => (keyD p.1, flatD p.2))) := fun X pins σ s u e I r => by
  subst e
  obtain ⟨as, a, b⟩ := sh_reads I (.dct h hf) r
  exact ⟨as, a, b rfl⟩
/-- a datum that may be told by repr -/
def Sd (K : PySem.W.Frag) (H : Hp) (v : V) (d : PyData) : Prop := (Dp K H v d ∧ d.hasDict = false) ∨ RdN K H v d
theorem Sd.rd {v : V} {d : PyData} (h : Sd K H v d) : Rd K H v d := h.elim (fun h => rd_sh (.dp h.1 h.2)) RdN.rd
theorem dpAll_app {xs ys : List V} {ds es : List PyData} (h : DpAll K H xs ds) (g : DpAll K H ys es) : DpAll K H (xs ++ ys) (ds ++ es) := by
  match xs, ds, h with
  | [], [], _ => exact g
  | x :: xs, d :: ds, .cons a t => exact .cons a (dpAll_app t g)
theorem paired_app {α β : Type} {F : α → β → Prop} : ∀ {xs ys : List α} {ds es : List β}, Paired F xs ds → Paired F ys es → Paired F (xs ++ ys) (ds ++ es)
  | _, _, _, _, .nil, g => g
  | _, _, _, _, .cons a t, g => .cons a (paired_app t g)
theorem rn_ints : ∀ ks : List Int, Paired (RdN K H) (ks.map V.int) (ks.map PyData.int)
  | [] => .nil
  | k :: ks => .cons (rn_flat (v := .int k) rfl) (rn_ints ks)
theorem nodict_app {ds es : List PyData} (h : PyData.hasDictAll ds = false) (g : PyData.hasDictAll es = false) : PyData.hasDictAll (ds ++ es) = false := by
  induction ds with
  | nil => exact g
  | cons d ds ih =>
    simp only [PyData.hasDictAll, Bool.or_eq_false_iff] at h
    show (d.hasDict || PyData.hasDictAll (ds ++ es)) = false
    rw [h.1, ih h.2]; rfl
theorem nodict_ints : ∀ ks : List Int, PyData.hasDictAll (ks.map PyData.int) = false
  | [] => by simp [PyData.hasDictAll]
  | k :: ks => by
    simp only [List.map_cons, PyData.hasDictAll, PyData.hasDict, nodict_ints ks, Bool.or_self]
theorem sd_ints {a : Addr} {ks : List Int} (hs : SqT K H a (ks.map V.int)) : Sd K H (.ref a) (.tuple (ks.map .int)) :=
  .inl ⟨.tup hs (dpAll_ints ks), by simp only [PyData.hasDict]; exact nodict_ints ks⟩
theorem sd_intsL {a : Addr} {ks : List Int} (hs : SqL K H a (ks.map V.int)) : Sd K H (.ref a) (.list (ks.map .int)) :=
  .inl ⟨.lst hs (dpAll_ints ks), by simp only [PyData.hasDict]; exact nodict_ints ks⟩
/-- one datum among whole numbers -/
theorem sd_mid {a : Addr} {k1 k2 : List Int} {v : V} {d : PyData} (hs : SqT K H a (k1.map V.int ++ [v] ++ k2.map V.int)) (h : Sd K H v d) : Sd K H (.ref a) (.tuple (k1.map .int ++ [d] ++ k2.map .int)) := by
  rcases h with ⟨h, n⟩ | h
  · refine .inl ⟨.tup hs (dpAll_app (dpAll_app (dpAll_ints k1) (.cons h .nil)) (dpAll_ints k2)), ?_⟩
    simp only [PyData.hasDict]
    exact nodict_app (nodict_app (nodict_ints k1) (by simp only [PyData.hasDictAll, n, Bool.or_self])) (nodict_ints k2)
  · exact .inr (rn_tup hs (paired_app (paired_app (rn_ints k1) (.cons h .nil)) (rn_ints k2)))
theorem sd_tup1 {a : Addr} {v : V} {d : PyData} (hs : SqT K H a [v]) (h : Sd K H v d) : Sd K H (.ref a) (.tuple [d]) := sd_mid (k1 := []) (k2 := []) hs h
theorem sd_lst1 {a : Addr} {v : V} {d : PyData} (hs : SqL K H a [v]) (ha : a ≠ sysModules) (h : Sd K H v d) : Sd K H (.ref a) (.list [d]) := by
  rcases h with ⟨h, n⟩ | h
  · exact .inl ⟨.lst hs (.cons h .nil), by simp only [PyData.hasDict, PyData.hasDictAll, n, Bool.or_self]⟩
  · exact .inr (rn_lst hs (.cons h .nil) ha)
theorem sd_int (i : Int) : Sd K H (.int i) (.int i) := .inr (rn_flat (v := .int i) rfl)
theorem sd_bl (i : Bool) : Sd K H (.bl i) (.bool i) := .inr (rn_flat (v := .bl i) rfl)
theorem sd_str (i : Str) : Sd K H (.str i) (.str i) := .inr (rn_flat (v := .str i) rfl)
theorem sd_non : Sd K H .non .none := .inr (rn_flat (v := .non) rfl)
theorem dt_mid {n m : Nat} {k1 k2 : List Int} {d : PyData} (h1 : ∀ k ∈ k1, k.natAbs < 10 ^ 45) (h2 : ∀ k ∈ k2, k.natAbs < 10 ^ 45) (h : Dt n m d) (hl : k1.length + 1 + k2.length ≤ 200) : Dt (200 * (n + 1)) (m + 1) (.tuple (k1.map .int ++ [d] ++ k2.map .int)) := by
  refine dt_tuple (fun x hx => ?_) (by simp only [List.length_append, List.length_map, List.length_cons, List.length_nil]; omega)
  have ii : ∀ {ks : List Int}, (∀ k ∈ ks, k.natAbs < 10 ^ 45) → x ∈ ks.map PyData.int → Dt n m x := fun {ks} g q => by
    obtain ⟨k, hk, rfl⟩ := List.mem_map.mp q
    exact (dt_int (g k hk)).mono (Nat.zero_le _) (Nat.zero_le _)
  rcases List.mem_append.mp hx with hx | hx
  · rcases List.mem_append.mp hx with hx | hx
    · exact ii h1 hx
    · have : x = d := by simpa using hx
      rw [this]; exact h
  · exact ii h2 hx
theorem dt_ints {ks : List Int} (h : ∀ k ∈ ks, k.natAbs < 10 ^ 45) (hl : ks.length ≤ 200) : Dt 200 1 (.tuple (ks.map .int)) := by
  refine dt_tuple (n := 0) (m := 0) (L := 200) (fun x hx => ?_) (by rw [List.length_map]; exact hl)
  obtain ⟨k, hk, rfl⟩ := List.mem_map.mp hx
  exact dt_int (h k hk)
theorem dt_intsL {ks : List Int} (h : ∀ k ∈ ks, k.natAbs < 10 ^ 45) (hl : ks.length ≤ 200) : Dt 200 1 (.list (ks.map .int)) := by
  refine dt_list (n := 0) (m := 0) (L := 200) (fun x hx => ?_) (by rw [List.length_map]; exact hl)
  obtain ⟨k, hk, rfl⟩ := List.mem_map.mp hx
  exact dt_int (h k hk)
end
/-- a list that is known to be no table of modules -/
def tLstB (t : TA) : TE := fun σ H Q => t σ H fun xs H1 => xs.length ≤ sizeLine ∧ ∀ p, H1 p = none → p ≠ sysModules → Q (.ref p) (upd H1 p (.lst xs))
theorem pe_lstB {X : Cx} {es : List Expr} {t : TA} {pos : Pos} (h : PA X es t) : PE X (.List es pos) (tLstB t) := by
  refine ⟨fun pins s σ H Q I hq => ?_⟩
  refine wpAny_List_spliced (thn (h.run pos pins s σ H _ I hq) fun us s1 ⟨xs, H1, I1, r, z, q⟩ => ⟨by rw [← r.length]; exact z, ?_⟩)
  have hf : H1 s1.heap.objs.size = none := I1.hok.fresh (Nat.le_refl _)
  refine ⟨.ref s1.heap.objs.size, upd H1 s1.heap.objs.size (.lst xs), I1.laid (t' := s1.toks) (fun b u e => Heap.get?_push_of_some _ e) (Nat.le_refl _) ?_, rfl, q _ hf (Nat.ne_of_gt I1.big)⟩
  exact ⟨z, us, 0, r, Heap.get?_push_size _ rfl⟩
/-- what has been gathered so far -/
structure GotP (b l : Addr) (P : Hp → V → Prop) (H0 H : Hp) (vs : List V) : Prop where
  B : BagL H b l
  k : Keep b H0 H
  all : ∀ v ∈ vs, P H v
section
variable {b l : Addr} {P : Hp → V → Prop} {H0 H H' : Hp} {vs : List V}
/-- what is kept whatever is drawn -/
abbrev KeepP (b : Addr) (P : Hp → V → Prop) : Prop := ∀ {H H' : Hp} {v : V}, P H v → Keep b H H' → P H' v
theorem GotP.start (B : BagL H b l) : GotP b l P H H [] := ⟨B, Keep.refl b H, fun v h => by cases h⟩
theorem GotP.val (g : GotP b l P H0 H vs) {w : V} (i : P H w) : GotP b l P H0 H (vs ++ [w]) := ⟨g.B, g.k, fun v h => (List.mem_append.mp h).elim (g.all v) fun h => by
  have : v = w := by simpa using h
  rw [this]; exact i⟩
theorem GotP.skip (g : GotP b l P H0 H vs) (kp : KeepP b P) {p : Addr} (hp : H p = none) (o : HO) : GotP b l P H0 (upd H p o) vs := ⟨g.B.new hp, g.k.new hp, fun v h => kp (g.all v h) (Keep.new (Keep.refl b H) hp)⟩
theorem GotP.go (g : GotP b l P H0 H vs) (kp : KeepP b P) (B : BagL H' b l) (k : Keep b H H') : GotP b l P H0 H' vs := ⟨B, g.k.trans k, fun v h => kp (g.all v h) k⟩
theorem GotP.new (g : GotP b l P H0 H vs) (kp : KeepP b P) {p : Addr} (hp : H p = none) {o : HO} (i : p ≠ b → P (upd H p o) (.ref p)) : GotP b l P H0 (upd H p o) (vs ++ [.ref p]) := (g.skip kp hp o).val (i (g.B.ne hp))
theorem GotP.app {ws : List V} {H1 : Hp} (g : GotP b l P H0 H vs) (kp : KeepP b P) (h : GotP b l P H H1 ws) : GotP b l P H0 H1 (vs ++ ws) := ⟨h.B, g.k.trans h.k, fun v hv => (List.mem_append.mp hv).elim (fun q => kp (g.all v q) h.k) (h.all v)⟩
end
/-- a text, or something else -/
inductive TV (K : PySem.W.Frag) (H : Hp) : V → Option Str → Prop
  | str (z : Str) : TV K H (.str z) (some z)
  | no {v : V} (t : Value) (ty : TyX K H v t) (h : PySem.W.kitOne K t (.type "str") = some false) : TV K H v none
end SB

end

section
set_option Elab.async false
set_option linter.all false
set_option maxRecDepth 100000
set_option maxHeartbeats 4000000
namespace K02
open PySem L2 SB
def inT (i j : Str) : Bool := !(Builtin.Str.occurrences j i 0 j.length 1).isEmpty
abbrev chr1 (c : Nat) : Str := ⟨#[c]⟩
abbrev LET : Str := "abcdefghijklmnopqrstuvwxyz"
abbrev DIG : Str := "0123456789"
def okC (c : Nat) : Bool := inT (chr1 c) LET || inT (chr1 c) DIG
/-- whether the signs of a text, from the first one on, make a name -/
def nameL (l : List Nat) : Bool := (match l with | [] => false | c :: _ => inT (chr1 c) LET) && l.all okC
def nameB : Option Str → Bool
  | none => false
  | some z => decide (1 ≤ (z.length : Int)) && decide ((z.length : Int) ≤ 12) && nameL z.cps.toList
def spName (K : PySem.W.Frag) : Sp := fun vs H Q _ => ∃ v t, vs = [v] ∧ TV K H v t ∧ (∀ z, t = some z → Sm 1000 z) ∧ ∀ H', Same H H' → Q (.bl (nameB t)) H'
abbrev rInS : R2 := fun x y H Q => ∃ i j, x = .str i ∧ y = .str j ∧ Q (.bl (!(Builtin.Str.occurrences j i 0 j.length 1).isEmpty)) H
abbrev rNinS : R2 := fun x y H Q => ∃ i j, x = .str i ∧ y = .str j ∧ Q (.bl (!(!(Builtin.Str.occurrences j i 0 j.length 1).isEmpty))) H
theorem canAll_strs : ∀ zs : List Str, (∀ z ∈ zs, PyData.strOk z = true) → PyData.canLayAll0 (zs.map PyData.str) = true
  | [], _ => by simp [PyData.canLayAll0]
  | z :: zs, h => by
    rw [List.map_cons]
    simp [PyData.canLayAll0, PyData.canLay0, h z List.mem_cons_self, canAll_strs zs fun y hy => h y (List.mem_cons_of_mem _ hy)]
theorem depthAll_strs : ∀ zs : List Str, PyData.depthAll (zs.map PyData.str) = 0
  | [] => by simp [PyData.depthAll]
  | z :: zs => by
    rw [List.map_cons]
    simp [PyData.depthAll, PyData.depth, depthAll_strs zs]
theorem shaped_strs (zs : List Str) (h : ∀ z ∈ zs, PyData.strOk z = true) : SeqAt.shaped (.list (zs.map PyData.str)) = true := by
  unfold SeqAt.shaped
  simp [PyData.canLay0, PyData.depth, canAll_strs zs h, depthAll_strs]
theorem at_ofN {xs : List Nat} {v : Nat} (h : xs[0]? = some v) : atI xs 0 = some v := by
  unfold atI ixN
  have hl : 0 < xs.length := (List.getElem?_eq_some_iff.mp h).1
  simp [hl]
  exact (List.getElem?_eq_some_iff.mp h).2
theorem str_empty {z : Str} (h : z.length = 0) : z = "" := by
  obtain ⟨a⟩ := z
  have : a = #[] := Array.eq_empty_of_size_eq_zero h
  rw [this]
  rfl
theorem cps_at {z : Str} {i c : Nat} (h : z.cps[i]? = some c) : z.cps.toList[i]? = some c := by rw [Array.getElem?_toList]; exact h
section
variable {P : Program} {w : World} {K : PySem.W.Frag} {mg : Str → Option Value} {base : Heap}
theorem ok_name {f : Addr} {fd : FuncData} {tL tD tN : Tok} (F : Fun K "is_name" "is_name" s_is_name f fd) (gIsi : mg "isinstance" = none) (gStr : mg "str" = none) (gLen : mg "len" = none) (gAll : mg "all" = none)
    (gL : mg "LETTERS" = some (.str LET tL)) (gD : mg "DIGITS" = some (.str DIG tD)) (gN : mg "LONGEST_NAME" = some (.int 12 tN)) : FnOk P w K mg base CX0 1 f fd ["value"] (spName K) := by
  refine F.ok sc_is_name (fun vs H Q E h => ?_) (fun cdv A outer s H vs Q E hr h => ?_)
  · obtain ⟨v, t, rfl, _⟩ := h
    rfl
  · obtain ⟨v, t, rfl, tv, hz, k⟩ := h
    have nd := sc_is_name.nd
    refine ⟨_, pss_cons (ps_if (PW.pt (pw_or (pt_not (pt_val (pe_callB call_isi (by rfl) gIsi (by decide +kernel) (pa_cons (pv 0) (pa_cons (pe_bltn (v := .ty "str") (by rfl) gStr (by decide +kernel) rfl) pa_nil)))))
        (pw_or1 (pt_not (pt_chain op_le op_le pe_int (pe_callB call_len_str (by rfl) gLen PySem.boot_len (pa_cons (pv 0) pa_nil)) (pe_glob (v := .int 12) (by rfl) gN ⟨_, rfl⟩)))))) (pss_one (ps_ret pe_bl)) pss_nil)
      (pss_cons (ps_if (pt_cmpR op_notin_str (pe_ix ix_str (pv 0) pe_int (fun _ _ => rfl)) (pe_glob (v := .str LET) (by rfl) gL ⟨_, rfl⟩) (by rfl)) (pss_one (ps_ret pe_bl)) pss_nil)
      (pss_one (ps_ret (pe_callB (cr_all rfl) (by rfl) gAll (by decide +kernel) (pa_cons (pe_lc (own := [("sign", 1)]) (g := gName 1) (tt := tYes) (te := tOrV (tOp rInS (tVar 1) (tC (.str LET))) (tOp rInS (tVar 1) (tC (.str DIG)))) rfl nd (pi_str (pv 0)) (blkOk_by (N := N_is_name) (sc := defScope s_is_name) (by decide +kernel))
          (fun _ _ _ _ _ => pg_name (i := 1) nd rfl (Or.inl rfl)) (fun _ _ _ _ _ => pts_nil) (fun _ _ _ _ _ => pe_or (pe_cmpR op_in_str (pv 1) (pe_glob (v := .str LET) (by rfl) gL ⟨_, rfl⟩) (by rfl)) (pe_one (pe_cmpR op_in_str (pv 1) (pe_glob (v := .str DIG) (by rfl) gD ⟨_, rfl⟩) (by rfl))))) pa_nil))))), ?_⟩
    cases tv with
    | no t ty h => exact ⟨v, rfl, v, .ty "str", _, _, false, rfl, .ty "str", ty, h, _, rfl, iteT (iteT (k H (Same.refl H)))⟩
    | str z =>
      have hz1 := (hz z rfl).1
      have hsz : z.cps.toList.length = z.length := Array.length_toList
      refine ⟨_, rfl, _, .ty "str", _, _, true, rfl, .ty "str", .base (.str z), kit_ty (by decide +kernel), _, rfl, iteF ?_⟩
      refine ⟨_, rfl, z, rfl, (by rw [sizeLine_eq]; omega), _, _, rfl, rfl, _, rfl, ite2 (fun h1 => ⟨_, _, rfl, rfl, _, rfl, ?_⟩) (fun h1 => ⟨_, rfl, ?_⟩)⟩
      · by_cases h2 : (z.length : Int) ≤ 12
        · rw [decide_eq_true h2]
          refine iteF ?_
          have e0 : nameB (some z) = nameL z.cps.toList := by
            show (decide (1 ≤ (z.length : Int)) && decide ((z.length : Int) ≤ 12) && nameL z.cps.toList) = _
            rw [h1, decide_eq_true h2]; rfl
          rw [e0] at k
          have p1 := of_decide_eq_true h1
          cases hl : z.cps.toList with
          | nil =>
            rw [hl] at hsz
            simp only [List.length_nil] at hsz
            omega
          | cons c r =>
            rw [hl] at k
            refine ⟨_, rfl, z, 0, c, rfl, rfl, (by rw [sizeLine_eq]; omega), (by rw [hl]; exact at_ofN rfl), _, _, rfl, rfl, _, rfl, ?_⟩
            cases hc : inT (chr1 c) LET with
            | false =>
              have hc' : (!(Builtin.Str.occurrences LET (chr1 c) 0 LET.length 1).isEmpty) = false := hc
              rw [hc']
              refine iteT ?_
              have e1 : nameL (c :: r) = false := by
                show (inT (chr1 c) LET && _) = false
                rw [hc]; rfl
              rw [e1] at k
              exact k H (Same.refl H)
            | true =>
              have hc' : (!(Builtin.Str.occurrences LET (chr1 c) 0 LET.length 1).isEmpty) = true := hc
              rw [hc']
              refine iteF ?_
              have e1 : nameL (c :: r) = (c :: r).all okC := by
                show (inT (chr1 c) LET && _) = _
                rw [hc]; rfl
              rw [e1, ← hl] at k
              refine ⟨_, rfl, z, rfl, fun D hD => lc_walk (J := Its z) (n := z.cps.size) (fun i H' => Same H H' ∧ H' D = some (.lst (((z.cps.toList.take i).map okC).map V.bl))) ⟨Same.new (Same.refl H) hD, upd_same⟩ (fun i H' hi _ => hi) (fun H' _ => Nat.le_refl _) (fun i x H1 H' hi p y => ?_) (fun H' p => ?_)⟩
              · obtain ⟨s1, hd⟩ := p
                obtain ⟨rfl, c', hc', rfl⟩ := y
                have hat := cps_at hc'
                refine ⟨rfl, _, rfl, _, _, rfl, rfl, _, rfl, ?_⟩
                have fin : ∀ b : Bool, b = okC c' → ∃ acc, H' D = some (.lst acc) ∧ acc.length < sizeLine ∧ Same H (upd H' D (.lst (acc ++ [V.bl b]))) ∧ upd H' D (.lst (acc ++ [V.bl b])) D = some (.lst (((z.cps.toList.take (i + 1)).map okC).map V.bl)) := fun b e => by
                  refine ⟨_, hd, ?_, (fun a o e => ?_), ?_⟩
                  · rw [List.length_map, List.length_map, List.length_take, sizeLine_eq]; omega
                  · rw [upd_ne (ne_of_none e hD)]; exact s1 _ _ e
                  · rw [upd_same, List.take_add_one, hat, e, List.map_append, List.map_append]; rfl
                cases h1 : inT (chr1 c') LET with
                | true =>
                  have h1' : (!(Builtin.Str.occurrences LET (chr1 c') 0 LET.length 1).isEmpty) = true := h1
                  rw [h1']
                  exact iteT (fin true (by unfold okC; rw [h1]; rfl))
                | false =>
                  have h1' : (!(Builtin.Str.occurrences LET (chr1 c') 0 LET.length 1).isEmpty) = false := h1
                  rw [h1']
                  refine iteF ⟨_, rfl, _, _, rfl, rfl, fin _ ?_⟩
                  unfold okC
                  rw [h1]; rfl
              · obtain ⟨s1, hd⟩ := p
                rw [List.take_of_length_le (by rw [Array.length_toList]; exact Nat.le_refl _)] at hd
                exact ⟨D, z.cps.toList.map okC, rfl, SqL.of hd, by rw [List.all_map]; exact k _ s1⟩
        · rw [decide_eq_false h2]
          refine iteT ?_
          have e0 : nameB (some z) = false := by
            show (decide (1 ≤ (z.length : Int)) && decide ((z.length : Int) ≤ 12) && nameL z.cps.toList) = _
            rw [decide_eq_false h2, Bool.and_false, Bool.false_and]
          rw [e0] at k
          exact k H (Same.refl H)
      · refine iteT ?_
        have e0 : nameB (some z) = false := by
          show (decide (1 ≤ (z.length : Int)) && decide ((z.length : Int) ≤ 12) && nameL z.cps.toList) = _
          rw [show decide (1 ≤ (z.length : Int)) = false from Bool.eq_false_iff.mpr h1, Bool.false_and, Bool.false_and]
        rw [e0] at k
        exact k H (Same.refl H)
theorem ok_lname {f : Addr} {fd : FuncData} (F : Fun K "_law_is_name" "_law_is_name" s_l_is_name f fd) (gIsi : mg "isinstance" = none) (gStr : mg "str" = none) (gLen : mg "len" = none) : FnOk P w K mg base CX0 1 f fd ["_law_v"] (spName K) := by
  refine F.ok sc_l_is_name (fun vs H Q E h => ?_) (fun cdv A outer s H vs Q E hr h => ?_)
  · obtain ⟨v, t, rfl, _⟩ := h
    rfl
  · obtain ⟨v, t, rfl, tv, hz, k⟩ := h
    have nd := sc_l_is_name.nd
    have hu : (A.deeper (PyProof.Rows.envOfC "_law_is_name" (defScope s_l_is_name) s.heap.objs.size f cdv)).units + 64 < cLine := hr.units
    refine ⟨_, pss_cons (ps_if (PW.pt (pw_or (pt_not (pt_val (pe_callB call_isi (by rfl) gIsi (by decide +kernel) (pa_cons (pv 0) (pa_cons (pe_bltn (v := .ty "str") (by rfl) gStr (by decide +kernel) rfl) pa_nil)))))
        (pw_or (pt_cmpR op_eq (pv 0) pe_str (nomark _)) (pw_or1 (pt_cmpR op_gt (pe_callB call_len_str (by rfl) gLen PySem.boot_len (pa_cons (pv 0) pa_nil)) pe_int (nomark _)))))) (pss_one (ps_ret pe_bl)) pss_nil)
      (pss_cons (ps_set (i := 1) nd rfl (Or.inr rfl) pe_str)
      (pss_one (ps_ret (pe_and (pe_cmpR op_in_str (pe_ix ix_str (pv 0) pe_int (fun _ _ => rfl)) (pv 1) (by rfl)) (pe_one (pe_cmpR (op_eqD hu)
        (pe_lc (own := [("_law_c", 2)]) (g := gName 2) (tt := tAnd (tTest (tOp rNinS (tVar 2) (tVar 1))) (tTest (tOp rNinS (tVar 2) (tC (.str DIG))))) (te := tVar 2) rfl nd (pi_str (pv 0)) (blkOk_by (N := N_l_is_name) (sc := defScope s_l_is_name) (by decide +kernel))
          (fun _ _ _ _ _ => pg_name (i := 2) nd rfl (Or.inl rfl)) (fun _ _ _ _ _ => pts_one (PW.pt (pw_and (pt_cmpR op_notin_str (pv 2) (pv 1) (by rfl)) (pw_and1 (pt_cmpR op_notin_str (pv 2) pe_str (by rfl)))))) (fun _ _ _ _ _ => pv 2)) (pe_lst pa_nil) (nomark _))))))), ?_⟩
    cases tv with
    | no t ty h => exact ⟨v, rfl, v, .ty "str", _, _, false, rfl, .ty "str", ty, h, _, rfl, iteT (iteT (k H (Same.refl H)))⟩
    | str z =>
      have hz1 := (hz z rfl).1
      have hz2 := (hz z rfl).2
      have hsz : z.cps.toList.length = z.length := Array.length_toList
      refine ⟨_, rfl, _, .ty "str", _, _, true, rfl, .ty "str", .base (.str z), kit_ty (by decide +kernel), _, rfl, iteF ?_⟩
      refine ⟨_, rfl, rfl, _, rfl, ite2 (fun h0 => ?_) (fun h0 => ?_)⟩
      · have h0' : z = "" := V.str.inj (of_decide_eq_true h0)
        subst h0'
        exact iteT (k H (Same.refl H))
      have p1 : 1 ≤ (z.length : Int) := by
        have : z.length ≠ 0 := fun e => h0 (decide_eq_true (congrArg V.str (str_empty e)))
        omega
      refine ⟨_, rfl, z, rfl, (by rw [sizeLine_eq]; omega), _, _, rfl, rfl, _, rfl, ?_⟩
      by_cases h2 : (z.length : Int) > 12
      · rw [decide_eq_true h2]
        refine iteT ?_
        have e0 : nameB (some z) = false := by
          show (decide (1 ≤ (z.length : Int)) && decide ((z.length : Int) ≤ 12) && nameL z.cps.toList) = _
          rw [decide_eq_false (show ¬ (z.length : Int) ≤ 12 by omega), Bool.and_false, Bool.false_and]
        rw [e0] at k
        exact k H (Same.refl H)
      rw [decide_eq_false h2]
      refine iteF ?_
      have e0 : nameB (some z) = nameL z.cps.toList := by
        show (decide (1 ≤ (z.length : Int)) && decide ((z.length : Int) ≤ 12) && nameL z.cps.toList) = _
        rw [decide_eq_true p1, decide_eq_true (show (z.length : Int) ≤ 12 by omega)]; rfl
      rw [e0] at k
      cases hl : z.cps.toList with
      | nil =>
        rw [hl] at hsz
        simp only [List.length_nil] at hsz
        omega
      | cons c r =>
        rw [hl] at k
        refine ⟨_, rfl, z, 0, c, rfl, rfl, (by rw [sizeLine_eq]; omega), (by rw [hl]; exact at_ofN rfl), _, rfl, _, _, rfl, rfl, _, rfl, ?_⟩
        cases hc : inT (chr1 c) LET with
        | false =>
          have hc' : (!(Builtin.Str.occurrences LET (chr1 c) 0 LET.length 1).isEmpty) = false := hc
          rw [hc']
          refine iteF ?_
          have e1 : nameL (c :: r) = false := by
            show (inT (chr1 c) LET && _) = false
            rw [hc]; rfl
          rw [e1] at k
          exact k H (Same.refl H)
        | true =>
          have hc' : (!(Builtin.Str.occurrences LET (chr1 c) 0 LET.length 1).isEmpty) = true := hc
          rw [hc']
          refine iteT ?_
          have e1 : nameL (c :: r) = (c :: r).all okC := by
            show (inT (chr1 c) LET && _) = _
            rw [hc]; rfl
          rw [e1, ← hl] at k
          refine ⟨_, rfl, z, rfl, fun D hD => lc_walk (J := Its z) (n := z.cps.size) (fun i H' => Same H H' ∧ H' D = some (.lst (((z.cps.toList.take i).filter fun c => !okC c).map fun c => V.str (chr1 c)))) ⟨Same.new (Same.refl H) hD, upd_same⟩ (fun i H' hi _ => hi) (fun H' _ => Nat.le_refl _) (fun i x H1 H' hi p y => ?_) (fun H' p => ?_)⟩
          · obtain ⟨s1, hd⟩ := p
            obtain ⟨rfl, c', hc', rfl⟩ := y
            have hat := cps_at hc'
            have keep : okC c' = true → Same H H' ∧ H' D = some (.lst (((z.cps.toList.take (i + 1)).filter fun c => !okC c).map fun c => V.str (chr1 c))) := fun e => by
              refine ⟨s1, ?_⟩
              rw [List.take_add_one, hat, List.filter_append]
              show H' D = some (.lst ((_ ++ [c'].filter _).map _))
              rw [show [c'].filter (fun c => !okC c) = [] by simp [e], List.append_nil]
              exact hd
            refine ⟨rfl, _, rfl, _, rfl, _, _, rfl, rfl, _, rfl, ?_⟩
            cases h1 : inT (chr1 c') LET with
            | true =>
              have h1' : (!(Builtin.Str.occurrences LET (chr1 c') 0 LET.length 1).isEmpty) = true := h1
              rw [h1']
              exact iteF (iteF (keep (by unfold okC; rw [h1]; rfl)))
            | false =>
              have h1' : (!(Builtin.Str.occurrences LET (chr1 c') 0 LET.length 1).isEmpty) = false := h1
              rw [h1']
              refine iteT ⟨_, rfl, _, _, rfl, rfl, _, rfl, ?_⟩
              cases h2 : inT (chr1 c') DIG with
              | true =>
                have h2' : (!(Builtin.Str.occurrences DIG (chr1 c') 0 DIG.length 1).isEmpty) = true := h2
                rw [h2']
                exact iteF (keep (by unfold okC; rw [h1, h2]; rfl))
              | false =>
                have h2' : (!(Builtin.Str.occurrences DIG (chr1 c') 0 DIG.length 1).isEmpty) = false := h2
                rw [h2']
                have e : okC c' = false := by unfold okC; rw [h1, h2]; rfl
                refine iteT ⟨_, rfl, _, hd, ?_, (fun a o e => ?_), ?_⟩
                · have := List.length_filter_le (fun c => !okC c) (z.cps.toList.take i)
                  have h3 : (z.cps.toList.take i).length ≤ z.cps.toList.length := by rw [List.length_take]; omega
                  rw [List.length_map, sizeLine_eq]; omega
                · rw [upd_ne (ne_of_none e hD)]; exact s1 _ _ e
                · rw [upd_same, List.take_add_one, hat, List.filter_append, List.map_append]
                  show _ = some (HO.lst (_ ++ ([c'].filter _).map _))
                  rw [show [c'].filter (fun c => !okC c) = [c'] by simp [e]]
                  rfl
          · obtain ⟨s1, hd⟩ := p
            rw [List.take_of_length_le (by rw [Array.length_toList]; exact Nat.le_refl _)] at hd
            refine ⟨(by decide), fun De hDe => ?_⟩
            have hd' := Same.new (Same.refl H') (o := .lst []) hDe _ _ hd
            have s2 := Same.new s1 (o := .lst []) hDe
            have hS : ∀ c ∈ z.cps.toList.filter (fun c => !okC c), c < 1114112 := fun c hc => hz2 c (List.mem_filter.mp hc).1
            have hall : (z.cps.toList.all okC) = (z.cps.toList.filter fun c => !okC c).isEmpty := by
              generalize z.cps.toList = l
              induction l with
              | nil => rfl
              | cons a l ih =>
                rw [List.all_cons, List.filter_cons, ih]
                cases okC a <;> rfl
            rw [hall] at k
            generalize z.cps.toList.filter (fun c => !okC c) = S at hd' hS k
            refine ⟨.list ((S.map chr1).map .str), .list [], .lst (xs := (S.map chr1).map V.str) (SqL.of (by rw [List.map_map]; exact hd')) (dpAll_strs (S.map chr1)), .lst (SqL.of upd_same) .nil, ?_, ?_, ?_⟩
            · refine shaped_strs _ fun y hy => ?_
              obtain ⟨c, hc, rfl⟩ := List.mem_map.mp hy
              have := hS c hc
              simp only [PyData.strOk]
              simpa using this
            · exact shaped_strs [] (fun y h => by cases h)
            · cases S with
              | nil => exact k _ s2
              | cons a S => exact k _ s2
end
end K02

end

section
set_option Elab.async false
set_option linter.all false
set_option maxRecDepth 100000
set_option maxHeartbeats 4000000
namespace K02
open PySem L2 SB
def lesser (i j : Int) : Int := if j < i then j else i
def larger (i j : Int) : Int := if j > i then j else i
def betw (i j k : Int) : Bool := decide (lesser i j ≤ k) && decide (k ≤ larger i j)
theorem betw_due (i j k : Int) : betw i j k = ((decide (i ≤ k) && decide (k ≤ j)) || (decide (j ≤ k) && decide (k ≤ i))) := by
  unfold betw lesser larger
  rw [Bool.eq_iff_iff]
  simp only [Bool.and_eq_true, Bool.or_eq_true, decide_eq_true_eq]
  split <;> split <;> omega
def spBtw (K : PySem.W.Frag) (CU : Addr) : Sp := fun vs H Q E => ∃ p ks x y o1 o2, vs = [.ref p, x, y] ∧ SqT K H p (ks.map V.int) ∧ ks.length ≤ 1000 ∧ NV K H x o1 ∧ NV K H y o2 ∧
  (∀ i j, o1 = some i → o2 = some j → liveB ks o1 = true → liveB ks o2 = true → ∀ t H', H t = none → Same H H' → H' t = some (.tup ((ks.filter (betw i j)).map V.int)) → Q (.ref t) H') ∧
  (liveB ks o1 = false → ∀ d, H d = none → E (.ref CU) (some d) (upd H d (.xd (fs1 "UnknownKey" "key" [x])))) ∧
  (liveB ks o1 = true → liveB ks o2 = false → ∀ d, H d = none → E (.ref CU) (some d) (upd H d (.xd (fs1 "UnknownKey" "key" [y]))))
/-- what is told of two ends of a stretch -/
def StrR (H : Hp) (t : Addr) (ks : List Int) (x y : V) (o1 o2 : Option Int) : Prop :=
  (liveB ks o1 = false → H t = some (.tup [.str "UnknownKey", x])) ∧ (liveB ks o1 = true → liveB ks o2 = false → H t = some (.tup [.str "UnknownKey", y])) ∧
  (∀ i j, o1 = some i → o2 = some j → liveB ks o1 = true → liveB ks o2 = true → ∃ q, H t = some (.tup [.str "told", .ref q]) ∧ H q = some (.tup ((ks.filter (betw i j)).map V.int)))
def spStre (K : PySem.W.Frag) : Sp := fun vs H Q _ => ∃ p ks x y o1 o2 nm, vs = [.ref p, x, y, .bl nm] ∧ SqT K H p (ks.map V.int) ∧ ks.length ≤ 1000 ∧ NV K H x o1 ∧ NV K H y o2 ∧
  ∀ t H', H t = none → Same H H' → StrR H' t ks x y o1 o2 → Q (.ref t) H'
def spDue (K : PySem.W.Frag) : Sp := fun vs H Q _ => ∃ p ks x y o1 o2, vs = [.ref p, x, y] ∧ SqT K H p (ks.map V.int) ∧ ks.length ≤ 1000 ∧ NV K H x o1 ∧ NV K H y o2 ∧
  ∀ t H', H t = none → Same H H' → StrR H' t ks x y o1 o2 → Q (.ref t) H'
/-- the arguments by name, the last parameter first -/
def gS {α : Type} (us ws : List α) : List α := match us, ws with
  | [], [a, b, c] => [c, b, a]
  | _, _ => []
abbrev rLe : R2 := rI0 fun i j => .bl (decide (i ≤ j))
abbrev wStr (K : PySem.W.Frag) (CU : Addr) : Ends → WX := fun D => wAs K (.ref CU) 4 (fun a cls d => tRet (tTup (tCons (tXf a cls d CU "code" (tVar 4)) (tCons (tXf a cls d CU "key" (tVar 4)) tNil)))) (fun _ _ _ _ => False) D
section
variable {P : Program} {w : World} {K : PySem.W.Frag} {mg : Str → Option Value} {base : Heap}
theorem ok_btw {f CU fC : Addr} {fd fdC : FuncData} (F : Fun K "stretch_between" "stretch_between" s_stretch_between f fd) (gMin : mg "min" = none) (gMax : mg "max" = none) (gTup : mg "tuple" = none)
    (gC : mg "check_lives" = some (.ref fC)) (FC : FnOk P w K mg base (L2.CX P w) 4 fC fdC ["living", "value"] (spCk K CU)) (kC : PySem.W.keepIn K (.ref fC) = true) (bC : Binds K fdC ["living", "value"] []) :
    FnOk P w K mg base (L2.CX P w) 5 f fd ["living", "one", "other"] (spBtw K CU) := by
  refine F.okX sc_stretch_between (fun vs H Q E h => ?_) (fun cdv A outer s H vs Q E hr h => ?_)
  · obtain ⟨p, ks, x, y, o1, o2, rfl, _⟩ := h
    rfl
  · obtain ⟨p, ks, x, y, o1, o2, rfl, hs, hz, n1, n2, q0, q1, q2⟩ := h
    have nd := sc_stretch_between.nd
    refine ⟨_, pss_cons (ps_expr (pe_call FC hr (by rfl) gC kC bC .nil (passes_call (takes_of rfl rfl rfl rfl) (fun _ _ _ _ z => z)) (pa_cons (pv 0) (pa_cons (pv 1) pa_nil))))
      (pss_cons (ps_expr (pe_call FC hr (by rfl) gC kC bC .nil (passes_call (takes_of rfl rfl rfl rfl) (fun _ _ _ _ z => z)) (pa_cons (pv 0) (pa_cons (pv 2) pa_nil))))
      (pss_cons (ps_set (i := 3) nd rfl (Or.inr rfl) (pe_callB (call_min2 rfl) (by rfl) gMin (by decide +kernel) (pa_cons (pv 1) (pa_cons (pv 2) pa_nil))))
      (pss_cons (ps_set (i := 4) nd rfl (Or.inr rfl) (pe_callB (call_max2 rfl) (by rfl) gMax (by decide +kernel) (pa_cons (pv 1) (pa_cons (pv 2) pa_nil))))
      (pss_one (ps_ret (pe_callTy call_tuple_of (by rfl) gTup (by decide +kernel) (pa_cons (pe_lc (own := [("key", 5)]) (g := gName 5) (tt := tTest (tChain rLe rLe (tVar 3) (tVar 5) (tVar 4))) (te := tVar 5) rfl nd (pi_tup (pv 0)) (blkOk_by (N := N_stretch_between) (sc := defScope s_stretch_between) (by decide +kernel))
        (fun _ _ _ _ _ => pg_name (i := 5) nd rfl (Or.inl rfl)) (fun _ _ _ _ _ => pts_one (pt_chain op_le op_le (pv 3) (pv 5) (pv 4))) (fun _ _ _ _ _ => pv 5)) pa_nil))))))), ?_⟩
    refine ⟨_, rfl, _, rfl, p, ks, x, o1, rfl, hs, n1, fun h1 => ?_, fun h1 d hd => q1 h1 d hd⟩
    refine ⟨_, rfl, _, rfl, p, ks, y, o2, rfl, hs, n2, fun h2 => ?_, fun h2 d hd => q2 h1 h2 d hd⟩
    cases n1 with
    | no t b1 b2 ty a1 a2 a3 => cases h1
    | int i =>
      cases n2 with
      | no t b1 b2 ty a1 a2 a3 => cases h2
      | int j =>
        refine ⟨_, rfl, _, rfl, i, j, rfl, _, rfl, _, rfl, i, j, rfl, ?_⟩
        refine ⟨_, rfl, p, rfl, ⟨_, hs⟩, fun D hD => filt_tup (betw i j) hs hD (by omega) (fun k H' R S hk s1 r1 r2 => ?_) (fun H1 s1 h1' => ?_)⟩
        · refine ⟨rfl, _, rfl, _, rfl, _, _, rfl, rfl, _, rfl, ite2 (fun a => ⟨_, rfl, _, _, rfl, rfl, _, rfl, ite2 (fun b => ⟨_, rfl, r1 ?_⟩) (fun b => r2 ?_)⟩) (fun a => ⟨_, rfl, iteF (r2 ?_)⟩)⟩
          · unfold betw; rw [show decide (lesser i j ≤ k) = true from a, show decide (k ≤ larger i j) = true from b]; rfl
          · unfold betw; rw [show decide (k ≤ larger i j) = false from Bool.eq_false_iff.mpr b, Bool.and_false]
          · unfold betw; rw [show decide (lesser i j ≤ k) = false from Bool.eq_false_iff.mpr a, Bool.false_and]
        · refine ⟨D, _, rfl, .inl ⟨SqL.of h1', fun t ht => q0 i j rfl rfl h1 h2 t _ ?_ (Same.new s1 ht) upd_same⟩⟩
          cases e : H t with
          | none => rfl
          | some o => rw [s1 _ _ e] at ht; cases ht
theorem ok_stre {f CU fU fB : Addr} {fd fdB : FuncData} (F : Fun K "_law_stretch" "_law_stretch" s_l_stretch f fd)
    (gB : mg "stretch_between" = some (.ref fB)) (FB : FnOk P w K mg base (L2.CX P w) 5 fB fdB ["living", "one", "other"] (spBtw K CU)) (kB : PySem.W.keepIn K (.ref fB) = true) (bB : Binds K fdB ["living", "one", "other"] []) (kbB : KBinds K fdB ["living", "one", "other"] ["other", "one", "living"] gS gS)
    (XU : XFacts K mg "UnknownKey" CU fU bmLE "LookupError.__new__") (nU : PySem.W.findIn K (.ref CU) "key" = some none) :
    FnOk P w K mg base CX0 6 f fd ["_law_ks", "_law_p", "_law_q", "_law_named"] (spStre K) := by
  refine F.ok sc_l_stretch (fun vs H Q E h => ?_) (fun cdv A' outer s H vs Q E hr h => ?_)
  · obtain ⟨p, ks, x, y, o1, o2, nm, rfl, _⟩ := h
    rfl
  · obtain ⟨p, ks, x, y, o1, o2, nm, rfl, hs, hz, n1, n2, k⟩ := h
    refine ⟨_, pss_one (ps_try_clauses (Wout := fun _ _ _ _ => False)
      (tb := fun W => tRet (tTup (tCons (tC (.str "told")) (tCons (tIf (tTest (tVar 3)) (tKW (spBtw K CU) gS (WE W) (tCons (tVar 2) (tCons (tVar 1) (tCons (tVar 0) tNil)))) (tCallS (spBtw K CU) (WE W) (tCons (tVar 0) (tCons (tVar 1) (tCons (tVar 2) tNil))))) tNil))))
      (wW := wStr K CU)
      rfl rfl sc_l_stretch.nd takes0
      (fun W pn xe tk _ => pss_one (ps_ret (pe_tup (pa_cons pe_str (pa_cons (pe_ifExp (pt_val (pv 3)) (pe_callKW FB hr (by rfl) gB kB kbB (fun σ => passAt tk σ) (pk_cons (pv 2) (pk_cons (pv 1) (pk_cons (pv 0) pk_nil)))) (pe_callS FB hr (by rfl) gB kB bB (fun σ => passAt tk σ) (pa_cons (pv 0) (pa_cons (pv 1) (pa_cons (pv 2) pa_nil))))) pa_nil)))))
      (fun D => .more (i := 4) rfl rfl ⟨rfl, by decide, .inl XU.g⟩ (fun a oe cls d pn hz hf => pss_one (ps_ret (pe_tup (pa_cons (pe_xf XU.F XU.nC hz hf (pv 4)) (pa_cons (pe_xf XU.F nU hz hf (pv 4)) pa_nil))))) .done)), ?_⟩
    have caught : ∀ {v : V} {d : Addr}, H d = none → (∀ t H', H t = none → Same H H' → H' t = some (.tup [.str "UnknownKey", v]) → Q (.ref t) H') →
        wStr K CU { nx := fun _ H' => Q .non H', rt := Q } (.ref CU) (some d) (L2.start ["_law_ks", "_law_p", "_law_q", "_law_named", "e"] [.ref p, x, y, .bl nm]) (upd H d (.xd (fs1 "UnknownKey" "key" [v]))) := fun {v d} hd q =>
      ⟨true, XU.me, fun _ a ha => ⟨_, rfl, rfl, rfl, d, _, _, rfl, upd_same, rfl, _, rfl, rfl, rfl, d, _, _, rfl, upd_same, rfl, (by show 2 ≤ sizeLine; decide), fun t ht => q t _ (by
        cases e : H t with
        | none => rfl
        | some o => rw [Same.new (Same.refl H) hd _ _ e] at ht; cases ht) (Same.new (Same.new (Same.refl H) hd) ht) upd_same⟩, fun q => nomatch q⟩
    have told : ∀ i j, o1 = some i → o2 = some j → liveB ks o1 = true → liveB ks o2 = true → ∀ t H', H t = none → Same H H' → H' t = some (.tup ((ks.filter (betw i j)).map V.int)) →
        [V.str "told", V.ref t].length ≤ sizeLine ∧ ∀ r, H' r = none → Q (.ref r) (upd H' r (.tup [.str "told", .ref t])) := fun i j e1 e2 l1 l2 t H' ht s1 h1 => by
      refine ⟨(by show 2 ≤ sizeLine; decide), fun r hr' => k r _ ?_ (Same.new s1 hr') ⟨(fun z => by rw [l1] at z; cases z), (fun _ z => by rw [l2] at z; cases z), fun i' j' f1 f2 _ _ => ⟨t, upd_same, ?_⟩⟩⟩
      · cases e : H r with
        | none => rfl
        | some o => rw [s1 _ _ e] at hr'; cases hr'
      · rw [upd_ne (ne_of_none h1 hr')]
        rw [e1] at f1
        rw [e2] at f2
        cases f1
        cases f2
        exact h1
    have w1 : liveB ks o1 = false → ∀ d, H d = none → wStr K CU { nx := fun _ H' => Q .non H', rt := Q } (.ref CU) (some d) (L2.start ["_law_ks", "_law_p", "_law_q", "_law_named", "e"] [.ref p, x, y, .bl nm]) (upd H d (.xd (fs1 "UnknownKey" "key" [x]))) := fun l1 d hd =>
      caught hd fun t H' ht s1 h1 => k t H' ht s1 ⟨fun _ => h1, (fun z => by rw [l1] at z; cases z), (fun i j _ _ z => by rw [l1] at z; cases z)⟩
    have w2 : liveB ks o1 = true → liveB ks o2 = false → ∀ d, H d = none → wStr K CU { nx := fun _ H' => Q .non H', rt := Q } (.ref CU) (some d) (L2.start ["_law_ks", "_law_p", "_law_q", "_law_named", "e"] [.ref p, x, y, .bl nm]) (upd H d (.xd (fs1 "UnknownKey" "key" [y]))) := fun l1 l2 d hd =>
      caught hd fun t H' ht s1 h1 => k t H' ht s1 ⟨(fun z => by rw [l1] at z; cases z), fun _ _ => h1, (fun i j _ _ _ z => by rw [l2] at z; cases z)⟩
    refine ⟨_, rfl, nm, rfl, ?_⟩
    cases nm with
    | true => exact iteT ⟨_, rfl, _, rfl, _, rfl, p, ks, x, y, o1, o2, rfl, hs, hz, n1, n2, told, w1, w2⟩
    | false => exact iteF ⟨_, rfl, _, rfl, _, rfl, p, ks, x, y, o1, o2, rfl, hs, hz, n1, n2, told, w1, w2⟩
end
end K02

end

section
set_option Elab.async false
set_option linter.all false
set_option maxRecDepth 100000
set_option maxHeartbeats 4000000
namespace K02
open PySem L2 SB
theorem live_some (ks : List Int) (i : Int) : liveB ks (some i) = (keyB (some i) && decide (i ∈ ks)) := rfl
theorem canAll_ints : ∀ zs : List Int, PyData.canLayAll0 (zs.map PyData.int) = true
  | [] => by simp [PyData.canLayAll0]
  | z :: zs => by
    rw [List.map_cons]
    simp [PyData.canLayAll0, PyData.canLay0, canAll_ints zs]
theorem depthAll_ints : ∀ zs : List Int, PyData.depthAll (zs.map PyData.int) = 0
  | [] => by simp [PyData.depthAll]
  | z :: zs => by
    rw [List.map_cons]
    simp [PyData.depthAll, PyData.depth, depthAll_ints zs]
theorem shaped_ints (zs : List Int) : SeqAt.shaped (.list (zs.map PyData.int)) = true := by
  unfold SeqAt.shaped
  simp [PyData.canLay0, PyData.depth, canAll_ints, depthAll_ints]
def g1 {α : Type} (us ws : List α) : List α := match us, ws with
  | [], [a] => [a]
  | _, _ => []
def spJudge (K : PySem.W.Frag) : Sp := fun vs H Q _ => ∃ v nm o r lr t, vs = [v, .bl nm] ∧ NV K H v o ∧ SV K H v r ∧ LV K H v lr ∧ TV K H v t ∧ (∀ z, t = some z → Sm 1000 z) ∧
  ∀ D H', H D = none → Same H H' → H' D = some (.lst [.bl (keyB o), .bl r, .bl lr, .bl (nameB t)]) → Q (.ref D) H'
section
variable {P : Program} {w : World} {K : PySem.W.Frag} {mg : Str → Option Value} {base : Heap}
theorem ok_due {f fK : Addr} {fd fdK : FuncData} (F : Fun K "_law_stretch_due" "_law_stretch_due" s_l_stretch_due f fd) (gTup : mg "tuple" = none)
    (gK : mg "_law_is_key" = some (.ref fK)) (FK : FnOk P w K mg base CX0 1 fK fdK ["_law_v"] (spKey K)) (kK : PySem.W.keepIn K (.ref fK) = true) (bK : Binds K fdK ["_law_v"] []) :
    FnOk P w K mg base CX0 2 f fd ["_law_ks", "_law_p", "_law_q"] (spDue K) := by
  refine F.ok sc_l_stretch_due (fun vs H Q E h => ?_) (fun cdv A outer s H vs Q E hr h => ?_)
  · obtain ⟨p, ks, x, y, o1, o2, rfl, _⟩ := h
    rfl
  · obtain ⟨p, ks, x, y, o1, o2, rfl, hs, hz, n1, n2, k⟩ := h
    have nd := sc_l_stretch_due.nd
    refine ⟨_, pss_cons (ps_for PassesOwn.never rfl (pi_list (pe_lst (pa_cons (pv 1) (pa_cons (pv 2) pa_nil)))) (pg_name (i := 3) nd rfl (Or.inl rfl))
        (pss_one (ps_if (PW.pt (pw_or (pt_not (pt_val (pe_call FK hr (by rfl) gK kK bK .nil pass0 (pa_cons (pv 3) pa_nil)))) (pw_or1 (pt_cmpR op_notIn_seq (pv 3) (pv 0) (by rfl))))) (pss_one (ps_ret (pe_tup (pa_cons pe_str (pa_cons (pv 3) pa_nil))))) pss_nil)))
      (pss_one (ps_ret (pe_tup (pa_cons pe_str (pa_cons (pe_callTy call_tuple_of (by rfl) gTup (by decide +kernel) (pa_cons (pe_lc (own := [("_law_k", 4)]) (g := gName 4)
        (tt := tOr (tAnd (tTest (tOp rLe (tVar 1) (tVar 4))) (tTest (tOp rLe (tVar 4) (tVar 2)))) (tAnd (tTest (tOp rLe (tVar 2) (tVar 4))) (tTest (tOp rLe (tVar 4) (tVar 1))))) (te := tVar 4) rfl nd (pi_tup (pv 0)) (blkOk_by (N := N_l_stretch_due) (sc := defScope s_l_stretch_due) (by decide +kernel))
        (fun _ _ _ _ _ => pg_name (i := 4) nd rfl (Or.inl rfl)) (fun _ _ _ _ _ => pts_one (PW.pt (pw_or (PW.pt (pw_and (pt_cmpR op_le (pv 1) (pv 4) (nomark _)) (pw_and1 (pt_cmpR op_le (pv 4) (pv 2) (nomark _))))) (pw_or1 (PW.pt (pw_and (pt_cmpR op_le (pv 2) (pv 4) (nomark _)) (pw_and1 (pt_cmpR op_le (pv 4) (pv 1) (nomark _))))))))) (fun _ _ _ _ _ => pv 4)) pa_nil)) pa_nil))))), ?_⟩
    refine ⟨_, rfl, _, rfl, (by show 2 ≤ sizeLine; decide), fun L hL => ?_⟩
    have s0 : Same H (upd H L (.lst [x, y])) := Same.new (Same.refl H) hL
    have hl : upd H L (.lst [x, y]) L = some (.lst [x, y]) := upd_same
    generalize upd H L (.lst [x, y]) = H0 at s0 hl
    have fr : ∀ {t : Addr} {H1 : Hp}, Same H H1 → H1 t = none → H t = none := fun {t H1} s1 ht => by
      cases e : H t with
      | none => rfl
      | some o => rw [s1 _ _ e] at ht; cases ht
    have unk : ∀ {v : V}, (∀ t H', H' t = some (.tup [.str "UnknownKey", v]) → StrR H' t ks x y o1 o2) → [V.str "UnknownKey", v].length ≤ sizeLine ∧ ∀ t, H0 t = none → Q (.ref t) (upd H0 t (.tup [.str "UnknownKey", v])) := fun {v} g =>
      ⟨(by show 2 ≤ sizeLine; decide), fun t ht => k t _ (fr s0 ht) (Same.new s0 ht) (g t _ upd_same)⟩
    have hs0 := sqT_same s0 hs
    refine ⟨L, rfl, ⟨_, SqL.of hl⟩, for_list (K := K) (a := L) (xs := [x, y]) (fun i σ H' => H' = H0 ∧ (∃ z, σ = [some (.ref p), some x, some y, z, none]) ∧ (1 ≤ i → liveB ks o1 = true) ∧ (2 ≤ i → liveB ks o2 = true))
      ⟨rfl, ⟨_, rfl⟩, (fun h => absurd h (by omega)), (fun h => absurd h (by omega))⟩ (fun i σ H' _ h => by rw [h.1]; exact SqL.of hl) ?_ ?_⟩
    · rintro i v σ H' hv ⟨rfl, ⟨z, rfl⟩, l1, l2⟩
      obtain ⟨o, nv, dead, live⟩ : ∃ o, NV K H v o ∧ (liveB ks o = false → ∀ t H', H' t = some (.tup [.str "UnknownKey", v]) → StrR H' t ks x y o1 o2) ∧ (liveB ks o = true → (1 ≤ i + 1 → liveB ks o1 = true) ∧ (2 ≤ i + 1 → liveB ks o2 = true)) := by
        match i, hv with
        | 0, hv =>
          have : v = x := by simpa using hv.symm
          subst this
          exact ⟨o1, n1, fun z t H' h => ⟨fun _ => h, (fun y => by rw [z] at y; cases y), fun a b _ _ y => by rw [z] at y; cases y⟩, fun z => ⟨fun _ => z, fun h => absurd h (by omega)⟩⟩
        | 1, hv =>
          have : v = y := by simpa using hv.symm
          subst this
          have l1' := l1 (by omega)
          exact ⟨o2, n2, fun z t H' h => ⟨(fun y => by rw [l1'] at y; cases y), fun _ _ => h, fun a b _ _ _ y => by rw [z] at y; cases y⟩, fun z => ⟨fun _ => l1', fun _ => z⟩⟩
        | i + 2, hv => simp at hv
      refine ⟨_, rfl, v, o, rfl, nv.sm s0, _, rfl, ?_⟩
      cases nv with
      | no t b1 b2 ty a1 a2 a3 => exact iteT (iteT ⟨_, rfl, unk (dead rfl)⟩)
      | int i' =>
        cases e : keyB (some i') with
        | false => exact iteT (iteT ⟨_, rfl, unk (dead (by rw [live_some, e]; rfl))⟩)
        | true =>
          refine iteF ⟨_, rfl, _, rfl, p, _, rfl, .inr hs0, rfl, flat_ints ks, _, rfl, ?_⟩
          rw [if_pos rfl, inV_ints]
          by_cases m : i' ∈ ks
          · rw [decide_eq_true m]
            exact iteF ⟨rfl, ⟨_, rfl⟩, (live (by rw [live_some, e, decide_eq_true m]; rfl)).1, (live (by rw [live_some, e, decide_eq_true m]; rfl)).2⟩
          · rw [decide_eq_false m]
            exact iteT ⟨_, rfl, unk (dead (by rw [live_some, e, decide_eq_false m]; rfl))⟩
    · rintro σ H' ⟨rfl, ⟨z, rfl⟩, l1, l2⟩
      have a1 := l1 (by show 1 ≤ 2; decide)
      have a2 := l2 (by show 2 ≤ 2; decide)
      cases n1 with
      | no t b1 b2 ty a1' a2' a3' => cases a1
      | int i =>
        cases n2 with
        | no t b1 b2 ty a1' a2' a3' => cases a2
        | int j =>
          refine ⟨_, rfl, p, rfl, ⟨_, hs0⟩, fun D hD => filt_tup (betw i j) hs0 hD (by omega) (fun k' H1 R S hk s1 r1 r2 => ?_) (fun H1 s1 h1 => ?_)⟩
          · rw [betw_due] at r1 r2
            exact ⟨rfl, _, rfl, _, rfl, _, _, rfl, rfl, _, rfl, ite2 (fun a => ⟨_, rfl, _, rfl, _, _, rfl, rfl, _, rfl, ite2 (fun b => iteT ⟨_, rfl, r1 (by rw [show decide (i ≤ k') = true from a, show decide (k' ≤ j) = true from b]; simp)⟩) (fun b => ⟨_, rfl, _, rfl, _, _, rfl, rfl, _, rfl, ite2 (fun c => ⟨_, rfl, _, rfl, _, _, rfl, rfl, _, rfl, ite2 (fun d => ⟨_, rfl, r1 (by rw [show decide (j ≤ k') = true from c, show decide (k' ≤ i) = true from d]; simp)⟩) (fun d => r2 (by rw [show decide (k' ≤ i) = false from Bool.eq_false_iff.mpr d, show decide (k' ≤ j) = false from Bool.eq_false_iff.mpr b]; simp))⟩) (fun c => iteF (r2 (by rw [show decide (j ≤ k') = false from Bool.eq_false_iff.mpr c, show decide (k' ≤ j) = false from Bool.eq_false_iff.mpr b]; simp)))⟩)⟩) (fun a => iteF ⟨_, rfl, _, rfl, _, _, rfl, rfl, _, rfl, ite2 (fun c => ⟨_, rfl, _, rfl, _, _, rfl, rfl, _, rfl, ite2 (fun d => ⟨_, rfl, r1 (by rw [show decide (j ≤ k') = true from c, show decide (k' ≤ i) = true from d]; simp)⟩) (fun d => r2 (by rw [show decide (k' ≤ i) = false from Bool.eq_false_iff.mpr d, show decide (i ≤ k') = false from Bool.eq_false_iff.mpr a]; simp))⟩) (fun c => iteF (r2 (by rw [show decide (j ≤ k') = false from Bool.eq_false_iff.mpr c, show decide (i ≤ k') = false from Bool.eq_false_iff.mpr a]; simp)))⟩)⟩
          · refine ⟨D, _, rfl, .inl ⟨SqL.of h1, fun bt hbt => ⟨(by show 2 ≤ sizeLine; decide), fun t ht => k t _ (fr (Same.new (s0.trans s1) hbt) ht) (Same.new (Same.new (s0.trans s1) hbt) ht) ⟨(fun z => by rw [a1] at z; cases z), (fun _ z => by rw [a2] at z; cases z), fun i' j' f1 f2 _ _ => ⟨bt, upd_same, ?_⟩⟩⟩⟩⟩
            cases f1
            cases f2
            rw [upd_ne (ne_of_none upd_same ht), upd_same]
theorem ok_lnear {f : Addr} {fd : FuncData} (F : Fun K "_law_near" "_law_near" s_l_near f fd) : FnOk P w K mg base CX0 1 f fd ["_law_ks", "_law_p"] (spNear K) := by
  refine F.ok sc_l_near (fun vs H Q E h => ?_) (fun cdv A outer s H vs Q E hr h => ?_)
  · obtain ⟨p, ks, k, rfl, _⟩ := h
    rfl
  · obtain ⟨p, ks, k, rfl, hs, hz, kk⟩ := h
    have nd := sc_l_near.nd
    have hu : (A.deeper (PyProof.Rows.envOfC "_law_near" (defScope s_l_near) s.heap.objs.size f cdv)).units + 64 < cLine := hr.units
    refine ⟨_, pss_cons (ps_par (i := 2) (j := 3) rfl nd rfl rfl (by decide) rfl rfl (pa_cons
          (pe_lc (own := [("_law_k", 4)]) (g := gName 4) (tt := tTest (tOp (rI0 fun i j => .bl (decide (i < j))) (tVar 4) (tVar 1))) (te := tVar 4) rfl nd (pi_tup (pv 0)) (blkOk_by (N := N_l_near) (sc := defScope s_l_near) (by decide +kernel))
            (fun _ _ _ _ _ => pg_name (i := 4) nd rfl (Or.inl rfl)) (fun _ _ _ _ _ => pts_one (pt_cmpR op_lt (pv 4) (pv 1) (nomark _))) (fun _ _ _ _ _ => pv 4))
          (pa_cons (pe_lc (own := [("_law_k", 4)]) (g := gName 4) (tt := tTest (tOp (rI0 fun i j => .bl (decide (i > j))) (tVar 4) (tVar 1))) (te := tVar 4) rfl nd (pi_tup (pv 0)) (blkOk_by (N := N_l_near) (sc := defScope s_l_near) (by decide +kernel))
            (fun _ _ _ _ _ => pg_name (i := 4) nd rfl (Or.inl rfl)) (fun _ _ _ _ _ => pts_one (pt_cmpR op_gt (pv 4) (pv 1) (nomark _))) (fun _ _ _ _ _ => pv 4)) pa_nil)) rfl)
      (pss_one (ps_ret (pe_tup (pa_cons (pe_ifExp (pt_cmpR (op_neD hu) (pv 2) (pe_lst pa_nil) (nomark _)) (pe_ix ix_list (pv 2) (pe_un un_neg pe_int) (fun _ _ => rfl)) pe_non)
        (pa_cons (pe_ifExp (pt_cmpR (op_neD hu) (pv 3) (pe_lst pa_nil) (nomark _)) (pe_ix ix_list (pv 3) pe_int (fun _ _ => rfl)) pe_non) pa_nil))))), ?_⟩
    refine ⟨_, rfl, p, rfl, ⟨_, hs⟩, fun D1 hD1 => filt_tup (fun z => decide (z < k)) hs hD1 (by omega) (fun z H' R S hz s1 r1 r2 => ?_) (fun H1 s1 h1 => ?_)⟩
    · exact ⟨rfl, _, rfl, _, rfl, _, _, rfl, rfl, _, rfl, ite2 (fun e => ⟨_, rfl, r1 e⟩) (fun e => r2 (Bool.eq_false_iff.mpr e))⟩
    refine ⟨_, rfl, p, rfl, ⟨_, sqT_same s1 hs⟩, fun D2 hD2 => filt_tup (fun z => decide (z > k)) (sqT_same s1 hs) hD2 (by omega) (fun z H' R S hz s1 r1 r2 => ?_) (fun H2 s2 h2 => ?_)⟩
    · exact ⟨rfl, _, rfl, _, rfl, _, _, rfl, rfl, _, rfl, ite2 (fun e => ⟨_, rfl, r1 e⟩) (fun e => r2 (Bool.eq_false_iff.mpr e))⟩
    have h1' := s2 _ _ h1
    refine ⟨_, _, rfl, ?_⟩
    have s12 := s1.trans s2
    generalize hA : (ks.filter fun z => decide (z < k)) = A1 at h1'
    generalize hB : (ks.filter fun z => decide (z > k)) = B1 at h2
    have fin : ∀ (H3 : Hp), Same H2 H3 → ∀ u v : V, u = lowV ks k → v = highV ks k → [u, v].length ≤ sizeLine ∧ ∀ t, H3 t = none → Q (.ref t) (upd H3 t (.tup [u, v])) := fun H3 s3 u v e1 e2 => by
      subst e1 e2
      refine ⟨(by show 2 ≤ sizeLine; decide), fun t ht => kk t _ ?_ (Same.new (s12.trans s3) ht) upd_same⟩
      cases e : H t with
      | none => rfl
      | some o => rw [s3 _ _ (s12 _ _ e)] at ht; cases ht
    have second : ∀ (H3 : Hp), Same H2 H3 → ∀ u, u = lowV ks k → tIf (tTest (tOp (rNeD K) (tVar 3) (tLst tNil))) (tOp (rIxL K) (tVar 3) (tC (.int 0))) (tC .non) [some (.ref p), some (.int k), some (.ref D1), some (.ref D2), none] H3
        fun v H4 => [u, v].length ≤ sizeLine ∧ ∀ t, H4 t = none → Q (.ref t) (upd H4 t (.tup [u, v])) := fun H3 s3 u eu => by
      refine ⟨_, rfl, (by decide), fun De hDe => ?_⟩
      have s4 := Same.new s3 (o := .lst []) hDe
      have h2' := s4 _ _ h2
      refine ⟨.list (B1.map .int), .list [], .lst (SqL.of h2') (dpAll_ints B1), .lst (SqL.of upd_same) .nil, shaped_ints B1, shaped_ints [], _, rfl, ?_⟩
      rcases high_cases ks k with ⟨g1, g2⟩ | ⟨y, C, g1, g2⟩
      · rw [hB] at g1
        subst g1
        exact iteF (fin _ s4 _ _ eu g2.symm)
      · rw [hB] at g1
        subst g1
        exact iteT ⟨_, rfl, D2, _, _, _, rfl, rfl, SqL.of h2', at_of (j := 0) rfl rfl, fin _ s4 _ _ eu g2.symm⟩
    refine ⟨_, rfl, (by decide), fun De hDe => ?_⟩
    have s4 := Same.new (Same.refl H2) (o := .lst []) hDe
    have h1'' := s4 _ _ h1'
    refine ⟨.list (A1.map .int), .list [], .lst (SqL.of h1'') (dpAll_ints A1), .lst (SqL.of upd_same) .nil, shaped_ints A1, shaped_ints [], _, rfl, ?_⟩
    rcases low_cases ks k with ⟨g1, g2⟩ | ⟨B, z, g1, g2⟩
    · rw [hA] at g1
      subst g1
      exact iteF (second _ s4 _ g2.symm)
    · rw [hA] at g1
      subst g1
      have ne : (!PyData.eqv (.list ((B ++ [z]).map .int)) (.list [])) = true := by
        cases B <;> rfl
      rw [ne]
      exact iteT ⟨_, rfl, _, rfl, D1, _, _, _, rfl, rfl, SqL.of h1'', by rw [List.map_append]; exact atI_last _ _, second _ s4 _ g2.symm⟩
theorem ok_judge {f fK fS fL fN : Addr} {fd fdK fdS fdL fdN : FuncData} (F : Fun K "_law_judged" "_law_judged" s_l_judged f fd)
    (gK : mg "is_key" = some (.ref fK)) (FK : FnOk P w K mg base CX0 2 fK fdK ["value"] (spKey K)) (kK : PySem.W.keepIn K (.ref fK) = true) (bK : Binds K fdK ["value"] []) (cK : KBinds K fdK ["value"] ["value"] g1 g1)
    (gS : mg "is_key_set" = some (.ref fS)) (FS : FnOk P w K mg base CX0 3 fS fdS ["value"] (spSet K)) (kS : PySem.W.keepIn K (.ref fS) = true) (bS : Binds K fdS ["value"] []) (cS : KBinds K fdS ["value"] ["value"] g1 g1)
    (gL : mg "is_lot" = some (.ref fL)) (FL : FnOk P w K mg base CX0 4 fL fdL ["value"] (spLot K)) (kL : PySem.W.keepIn K (.ref fL) = true) (bL : Binds K fdL ["value"] []) (cL : KBinds K fdL ["value"] ["value"] g1 g1)
    (gN : mg "is_name" = some (.ref fN)) (FN : FnOk P w K mg base CX0 1 fN fdN ["value"] (spName K)) (kN : PySem.W.keepIn K (.ref fN) = true) (bN : Binds K fdN ["value"] []) (cN : KBinds K fdN ["value"] ["value"] g1 g1) :
    FnOk P w K mg base CX0 5 f fd ["_law_v", "_law_named"] (spJudge K) := by
  refine F.ok sc_l_judged (fun vs H Q E h => ?_) (fun cdv A outer s H vs Q E hr h => ?_)
  · obtain ⟨v, nm, o, r, lr, t, rfl, _⟩ := h
    rfl
  · obtain ⟨v, nm, o, r, lr, t, rfl, nv, sv, lv, tv, hz, k⟩ := h
    have hr3 : Room 3 _ := hr.mono (by decide)
    have hr2 : Room 2 _ := hr.mono (by decide)
    have hr1 : Room 1 _ := hr.mono (by decide)
    refine ⟨_, pss_cons (ps_if (pt_val (pv 1)) (pss_one (ps_ret (pe_lst (pa_cons (pe_callKW (E := fun _ => E0) FK hr2 (by rfl) gK kK cK (fun _ _ _ _ _ _ _ h => h.elim) (pk_cons (pv 0) pk_nil))
        (pa_cons (pe_callKW (E := fun _ => E0) FS hr3 (by rfl) gS kS cS (fun _ _ _ _ _ _ _ h => h.elim) (pk_cons (pv 0) pk_nil)) (pa_cons (pe_callKW (E := fun _ => E0) FL hr (by rfl) gL kL cL (fun _ _ _ _ _ _ _ h => h.elim) (pk_cons (pv 0) pk_nil))
        (pa_cons (pe_callKW (E := fun _ => E0) FN hr1 (by rfl) gN kN cN (fun _ _ _ _ _ _ _ h => h.elim) (pk_cons (pv 0) pk_nil)) pa_nil))))))) pss_nil)
      (pss_one (ps_ret (pe_lst (pa_cons (pe_call FK hr2 (by rfl) gK kK bK .nil pass0 (pa_cons (pv 0) pa_nil)) (pa_cons (pe_call FS hr3 (by rfl) gS kS bS .nil pass0 (pa_cons (pv 0) pa_nil)) (pa_cons (pe_call FL hr (by rfl) gL kL bL .nil pass0 (pa_cons (pv 0) pa_nil)) (pa_cons (pe_call FN hr1 (by rfl) gN kN bN .nil pass0 (pa_cons (pv 0) pa_nil)) pa_nil))))))), ?_⟩
    have tv_sm : ∀ {H' : Hp}, Same H H' → TV K H' v t := fun s => by
      cases tv with
      | str z => exact .str z
      | no t ty h => exact .no t (tyX_sm s ty) h
    have fin : ∀ {H3 : Hp}, Same H H3 → [V.bl (keyB o), V.bl r, V.bl lr, V.bl (nameB t)].length ≤ sizeLine ∧ ∀ D, H3 D = none → Q (.ref D) (upd H3 D (.lst [.bl (keyB o), .bl r, .bl lr, .bl (nameB t)])) := fun {H3} s3 =>
      ⟨(by show 4 ≤ sizeLine; decide), fun D hD => k D _ (by
        cases e : H D with
        | none => rfl
        | some o => rw [s3 _ _ e] at hD; cases hD) (Same.new s3 hD) upd_same⟩
    refine ⟨_, rfl, nm, rfl, ?_⟩
    cases nm with
    | true => exact iteT ⟨_, rfl, v, o, rfl, nv, _, rfl, v, r, rfl, sv, fun H1 s1 => ⟨_, rfl, v, lr, rfl, lv.sm s1, fun H2 s2 => ⟨_, rfl, v, t, rfl, tv_sm (s1.trans s2), hz, fun H3 s3 => fin ((s1.trans s2).trans s3)⟩⟩⟩
    | false => exact iteF ⟨_, rfl, v, o, rfl, nv, _, rfl, v, r, rfl, sv, fun H1 s1 => ⟨_, rfl, v, lr, rfl, lv.sm s1, fun H2 s2 => ⟨_, rfl, v, t, rfl, tv_sm (s1.trans s2), hz, fun H3 s3 => fin ((s1.trans s2).trans s3)⟩⟩⟩
end
end K02

end

section
set_option Elab.async false
set_option linter.all false
set_option maxRecDepth 100000
set_option maxHeartbeats 4000000
/-! tuples cut and joined at will; what a drawn value is. -/
namespace SB
open PySem PySem.Spec PyProof.Rows L2
theorem cut_take (xs : List V) (n : Nat) : cutV xs none (some (n : Int)) = xs.take n := by
  unfold cutV
  rw [HT.sIx_none, HT.sIx_nat, List.drop_zero, Nat.sub_zero]
  by_cases h : n ≤ xs.length
  · rw [Nat.min_eq_left h]
  · rw [Nat.min_eq_right (by omega), List.take_length, List.take_of_length_le (by omega)]
theorem cut_drop (xs : List V) (n : Nat) : cutV xs (some (n : Int)) none = xs.drop n := by
  unfold cutV
  rw [HT.sIx_none, HT.sIx_nat]
  by_cases h : n ≤ xs.length
  · rw [Nat.min_eq_left h, List.take_of_length_le (by rw [List.length_drop]; omega)]
  · rw [Nat.min_eq_right (by omega), List.drop_length, List.drop_of_length_le (by omega)]
    simp
/-- a tuple that is no bag -/
def Tp (b : Addr) (K : PySem.W.Frag) (H : Hp) (p : Addr) (zs : List V) : Prop := SqT K H p zs ∧ p ≠ b
section
variable {b l p x y : Addr} {K : PySem.W.Frag} {H H' : Hp} {xs ys zs : List V} {Q : VK}
theorem Tp.keep (h : Tp b K H p zs) (k : Keep b H H') : Tp b K H' p zs := ⟨seqT_keep k h.2 h.1, h.2⟩
theorem Tp.sm (h : Tp b K H p zs) (s : Same H H') : Tp b K H' p zs := h.keep (Keep.ofSame s)
theorem Tp.new (B : BagL H b l) (hp : H p = none) : Tp b K (upd H p (.tup zs)) p zs := ⟨SqT.of upd_same, B.ne hp⟩
theorem rd_catA (B : BagL H b l) (hx : Tp b K H x xs) (hy : Tp b K H y ys) (hz : xs.length + ys.length ≤ 4000) (k : ∀ p H', Same H H' → Tp b K H' p (xs ++ ys) → Q (.ref p) H') : rCatA K (.ref x) (.ref y) H Q :=
  ⟨x, y, xs, ys, rfl, rfl, hx.1, hy.1, by rw [sizeLine_eq]; omega, fun e => by subst e; exact k y H (Same.refl H) hy, fun _ e => by subst e; exact k x H (Same.refl H) (by rw [List.append_nil]; exact hx),
    fun _ _ p hp => k p _ (Same.new (Same.refl H) hp) (Tp.new B hp)⟩
theorem rd_slA (B : BagL H b l) (hx : Tp b K H x xs) {lo hi : Option Int} (k : ∀ p H', Same H H' → Tp b K H' p (cutV xs lo hi) → Q (.ref p) H') : rSlA K (.ref x) lo hi H Q :=
  ⟨x, xs, rfl, hx.1, fun e => k x H (Same.refl H) (by
    unfold cutV
    rw [e.1, e.2, List.drop_zero, Nat.sub_zero, List.take_length]
    exact hx), fun _ p hp => k p _ (Same.new (Same.refl H) hp) (Tp.new B hp)⟩
theorem GotP.sm {P : Hp → V → Prop} {H0 : Hp} {vs : List V} (g : GotP b l P H0 H vs) (kp : KeepP b P) (s : Same H H') : GotP b l P H0 H' vs := g.go kp (g.B.same s) (Keep.ofSame s)
end
/-- small text -/
def Sm0 (t : Option Str) : Prop := ∀ z, t = some z → Sm 1000 z
/-- what a value is, whatever is drawn later: a number, a key set, a text; and its datum -/
def Num (n m : Nat) (b : Addr) (K : PySem.W.Frag) (H : Hp) (v : V) : Prop := ∃ o r t d, Sm0 t ∧ Dt n m d ∧ ∀ H', Keep b H H' → NV K H' v o ∧ SV K H' v r ∧ TV K H' v t ∧ Sd K H' v d
section
variable {n m : Nat} {b l p : Addr} {K : PySem.W.Frag} {H H' : Hp} {v : V}
theorem Num.keep (h : Num n m b K H v) (k : Keep b H H') : Num n m b K H' v := let ⟨o, r, t, d, h1, h2, h3⟩ := h; ⟨o, r, t, d, h1, h2, fun H2 k2 => h3 H2 (k.trans k2)⟩
theorem Num.mono {n' m' : Nat} (h : Num n m b K H v) (hn : n ≤ n') (hm : m ≤ m') : Num n' m' b K H v := let ⟨o, r, t, d, h1, h2, h3⟩ := h; ⟨o, r, t, d, h1, h2.mono hn hm, h3⟩
theorem num_ty {T : String} {b1 b2 : Bool} {d : PyData} (hd : Dt n m d) (ty : ∀ H', Keep b H H' → TyX K H' v (.type T)) (sd : ∀ H', Keep b H H' → Sd K H' v d) (h0 : kitB T "tuple" = some false) (hs : kitB T "str" = some false) (h1 : kitB T "int" = some b1) (h2 : kitB T "bool" = some b2) (h : (b1 && !b2) = false) : Num n m b K H v :=
  ⟨none, false, none, d, (fun z e => nomatch e), hd, fun H' k => ⟨.no _ b1 b2 (ty H' k) (kit_ty h1) (kit_ty h2) h, .inl ⟨_, ty H' k, kit_ty h0, rfl⟩, .no _ (ty H' k) (kit_ty hs), sd H' k⟩⟩
theorem num_non : Num n m b K H .non := num_ty (T := "NoneType") (b1 := false) (b2 := false) (dt_non.mono (Nat.zero_le _) (Nat.zero_le _)) (fun _ _ => .base .non) (fun _ _ => sd_non) (by decide +kernel) (by decide +kernel) (by decide +kernel) (by decide +kernel) rfl
theorem num_bl (x : Bool) : Num n m b K H (.bl x) := num_ty (T := "bool") (b1 := true) (b2 := true) ((dt_bl x).mono (Nat.zero_le _) (Nat.zero_le _)) (fun _ _ => .base (.bl x)) (fun _ _ => sd_bl x) (by decide +kernel) (by decide +kernel) (by decide +kernel) (by decide +kernel) rfl
theorem num_int {i : Int} (hi : i.natAbs < 10 ^ 45) : Num n m b K H (.int i) :=
  ⟨some i, false, none, _, (fun z e => nomatch e), (dt_int hi).mono (Nat.zero_le _) (Nat.zero_le _), fun H' k => ⟨.int i, .inl ⟨_, .base (.int i), kit_ty (by decide +kernel), rfl⟩, .no _ (.base (.int i)) (kit_ty (by decide +kernel)), sd_int i⟩⟩
theorem num_str {z : Str} (hz : Sm n z) (hn : n ≤ 1000) : Num n m b K H (.str z) :=
  ⟨none, false, some z, _, (fun y e => by cases e; exact hz.mono hn), (dt_str hz).mono (Nat.le_refl _) (Nat.zero_le _), fun H' k => ⟨.no _ false false (.base (.str z)) (kit_ty (by decide +kernel)) (kit_ty (by decide +kernel)) rfl, .inl ⟨_, .base (.str z), kit_ty (by decide +kernel), rfl⟩, .str z, sd_str z⟩⟩
theorem num_lst {xs : List V} {d : PyData} (h : H p = some (.lst xs)) (hb : p ≠ b) (hd : Dt n m d) (sd : ∀ H', Keep b H H' → Sd K H' (.ref p) d) : Num n m b K H (.ref p) :=
  num_ty (T := "list") (b1 := false) (b2 := false) hd (fun _ k => .base (.lst (k _ _ h hb))) sd (by decide +kernel) (by decide +kernel) (by decide +kernel) (by decide +kernel) rfl
theorem num_intsL {ks : List Int} (h : H p = some (.lst (ks.map V.int))) (hb : p ≠ b) (hk : ∀ k ∈ ks, k.natAbs < 10 ^ 45) (hl : ks.length ≤ 200) (hn : 200 ≤ n) (hm : 1 ≤ m) : Num n m b K H (.ref p) :=
  num_lst h hb ((dt_intsL hk hl).mono hn hm) fun H' k => sd_intsL (SqL.of (k _ _ h hb))
theorem num_lst1 {d : PyData} (h : H p = some (.lst [v])) (hb : p ≠ b) (ha : p ≠ sysModules) (hv : Num n m b K H v) : Num (1 * (n + 1)) (m + 1) b K H (.ref p) := by
  obtain ⟨o, r, t, d, h1, h2, h3⟩ := hv
  exact num_lst h hb (dt_list (ds := [d]) (fun x hx => by
    have : x = d := by simpa using hx
    rw [this]; exact h2) (Nat.le_refl 1)) fun H' k => sd_lst1 (SqL.of (k _ _ h hb)) ha (h3 H' k).2.2.2
theorem num_dct {kvs : List (Key × V)} (h : H p = some (.dK kvs)) (hb : p ≠ b) (hf : ∀ q ∈ kvs, flatV q.2 = true) (hd : Dt n m (.dict (kvs.map fun q => (keyD q.1, flatD q.2)))) : Num n m b K H (.ref p) :=
  num_ty (T := "dict") (b1 := false) (b2 := false) hd (fun _ k => .base (.dK (k _ _ h hb))) (fun H' k => .inr (rn_dct (k _ _ h hb) hf)) (by decide +kernel) (by decide +kernel) (by decide +kernel) (by decide +kernel) rfl
theorem dt_dct0 : Dt 0 1 (.dict []) := ⟨by simp [PyData.leavesShort, PyData.leavesShortKv], by simp [PyData.showable, PyData.showableKv], by simp [PyData.bulk, PyData.bulkKv], by simp [PyData.depth, PyData.depthKv]⟩
theorem dt_dct1 {k : Int} (hk : k.natAbs < 10 ^ 45) : Dt 2 1 (.dict [(.int k, .int 1)]) := by
  have a := dt_int hk
  have c := dt_int (i := 1) (by decide +kernel)
  refine ⟨?_, ?_, by simp [PyData.bulk, PyData.bulkKv], by simp [PyData.depth, PyData.depthKv]⟩
  · have e1 : PyData.leavesShort 50 (.dict [(.int k, .int 1)]) = PyData.leavesShortKv 50 [(.int k, .int 1)] := by rw [PyData.leavesShort]
    have e2 : PyData.leavesShortKv 50 [(.int k, .int 1)] = (PyData.leavesShort 50 (.int k) && PyData.leavesShort 50 (.int 1) && PyData.leavesShortKv 50 []) := by
      conv => lhs; rw [PyData.leavesShortKv]
    rw [e1, e2, a.ls, c.ls, PyData.leavesShortKv]
    rfl
  · have e1 : PyData.showable (.dict [(.int k, .int 1)]) = PyData.showableKv [(.int k, .int 1)] := by rw [PyData.showable]
    have e2 : PyData.showableKv [(.int k, .int 1)] = (PyData.showable (.int k) && PyData.showable (.int 1) && PyData.showableKv []) := by
      conv => lhs; rw [PyData.showableKv]
    rw [e1, e2, a.sh, c.sh, PyData.showableKv]
    rfl
def NVk (b : Addr) (K : PySem.W.Frag) (H : Hp) (x : V) : Prop := ∃ o, ∀ H', Keep b H H' → NV K H' x o
theorem Num.nv (h : Num n m b K H v) : NVk b K H v := let ⟨o, r, t, d, h1, h2, h3⟩ := h; ⟨o, fun H' k => (h3 H' k).1⟩
theorem nvk_int (i : Int) : NVk b K H (.int i) := ⟨some i, fun _ _ => .int i⟩
theorem NVk.keep {x : V} (h : NVk b K H x) (k : Keep b H H') : NVk b K H' x := let ⟨o, h⟩ := h; ⟨o, fun H2 k2 => h H2 (k.trans k2)⟩
theorem pair_nvk : ∀ {xs : List V}, (∀ x ∈ xs, NVk b K H x) → ∃ os, ∀ H', Keep b H H' → Paired (NV K H') xs os
  | [], _ => ⟨[], fun _ _ => .nil⟩
  | x :: xs, h => by
    obtain ⟨o, ho⟩ := h x List.mem_cons_self
    obtain ⟨os, hos⟩ := pair_nvk (xs := xs) fun y hy => h y (List.mem_cons_of_mem _ hy)
    exact ⟨o :: os, fun H' k => .cons (ho H' k) (hos H' k)⟩
theorem num_tp {xs : List V} {d : PyData} (h : Tp b K H p xs) (hz : xs.length ≤ 2000) (hx : ∀ x ∈ xs, NVk b K H x) (hd : Dt n m d) (sd : ∀ H', Keep b H H' → Sd K H' (.ref p) d) : Num n m b K H (.ref p) := by
  obtain ⟨os, hos⟩ := pair_nvk hx
  exact ⟨none, setB os, none, d, (fun z e => nomatch e), hd, fun H' k => ⟨.no _ false false (ty_tup (h.keep k).1) (kit_ty (by decide +kernel)) (kit_ty (by decide +kernel)) rfl,
    .inr ⟨p, xs, os, rfl, (h.keep k).1, hz, hos H' k, rfl⟩, .no _ (ty_tup (h.keep k).1) (kit_ty (by decide +kernel)), sd H' k⟩⟩
theorem num_ints {ks : List Int} (h : Tp b K H p (ks.map V.int)) (hk : ∀ k ∈ ks, k.natAbs < 10 ^ 45) (hl : ks.length ≤ 200) (hn : 200 ≤ n) (hm : 1 ≤ m) : Num n m b K H (.ref p) :=
  num_tp h (by rw [List.length_map]; omega) (fun x hx => by
    obtain ⟨k, rfl, _⟩ := mem_ints hx
    exact nvk_int k) ((dt_ints hk hl).mono hn hm) fun H' k => sd_ints (h.keep k).1
theorem num_mid {k1 k2 : List Int} (h : Tp b K H p (k1.map V.int ++ [v] ++ k2.map V.int)) (h1 : ∀ k ∈ k1, k.natAbs < 10 ^ 45) (h2 : ∀ k ∈ k2, k.natAbs < 10 ^ 45) (hl : k1.length + 1 + k2.length ≤ 200) (hv : Num n m b K H v) : Num (200 * (n + 1)) (m + 1) b K H (.ref p) := by
  obtain ⟨o, r, t, d, g1, g2, g3⟩ := id hv
  refine num_tp h (by simp only [List.length_append, List.length_map, List.length_cons, List.length_nil]; omega) (fun x hx => ?_) (dt_mid h1 h2 g2 hl) fun H' k => sd_mid (h.keep k).1 (g3 H' k).2.2.2
  rcases List.mem_append.mp hx with hx | hx
  · rcases List.mem_append.mp hx with hx | hx
    · obtain ⟨k, rfl, _⟩ := mem_ints hx
      exact nvk_int k
    · have : x = v := by simpa using hx
      rw [this]; exact hv.nv
  · obtain ⟨k, rfl, _⟩ := mem_ints hx
    exact nvk_int k
theorem num_tup1 (h : Tp b K H p [v]) (hv : Num n m b K H v) : Num (1 * (n + 1)) (m + 1) b K H (.ref p) := by
  obtain ⟨o, r, t, d, g1, g2, g3⟩ := id hv
  exact num_tp h (by show 1 ≤ 2000; decide) (fun x hx => by
    have : x = v := by simpa using hx
    rw [this]; exact hv.nv) (dt_tuple (ds := [d]) (fun x hx => by
    have : x = d := by simpa using hx
    rw [this]; exact g2) (Nat.le_refl 1)) fun H' k => sd_tup1 (h.keep k).1 (g3 H' k).2.2.2
end
end SB

end

section
set_option Elab.async false
set_option linter.all false
set_option maxRecDepth 100000
set_option maxHeartbeats 4000000
namespace K02
open PySem L2 SB
def spOfS : Sp := fun vs H Q _ => ∃ (b l : Addr) (z : Str), vs = [.ref b, .str z] ∧ BagL H b l ∧ 0 < z.length ∧ z.length ≤ 1000 ∧
  ∀ c H', c ∈ z.cps.toList → BagL H' b l → Keep b H H' → Q (.str (chr1 c)) H'
def spNumber (K : PySem.W.Frag) : Sp := fun vs H Q _ => ∃ (b l : Addr), vs = [.ref b] ∧ BagL H b l ∧ ∀ v H', Num 250 2 b K H' v → BagL H' b l → Keep b H H' → Q v H'
theorem nk {n m : Nat} {b : Addr} {K : PySem.W.Frag} : KeepP b (Num n m b K) := fun h k => h.keep k
section
variable {P : Program} {w : World} {K : PySem.W.Frag} {mg : Str → Option Value} {base : Heap}
theorem ok_ofS {f fD : Addr} {fd fdD : FuncData} (F : Fun K "_law_of" "_law_of" s_l_of f fd) (gLen : mg "len" = none) (gD : mg "_law_draw" = some (.ref fD)) (FD : FnOk P w K mg base CX0 1 fD fdD ["_law_bag_here", "_law_top"] spDrawL)
    (kD : PySem.W.keepIn K (.ref fD) = true) (bD : Binds K fdD ["_law_bag_here", "_law_top"] []) : FnOk P w K mg base CX0 2 f fd ["_law_bag_here", "_law_some"] spOfS := by
  refine F.ok sc_l_of (fun vs H Q E h => ?_) (fun cdv A outer s H vs Q E hr h => ?_)
  · obtain ⟨b, l, z, rfl, _⟩ := h
    rfl
  · obtain ⟨b, l, z, rfl, B, h0, h1, k⟩ := h
    have hsz : z.cps.toList.length = z.length := Array.length_toList
    refine ⟨_, pss_one (ps_ret (pe_ix ix_str (pv 1) (pe_call FD hr (by rfl) gD kD bD .nil pass0 (pa_cons (pv 0) (pa_cons (pe_callB call_len_str (by rfl) gLen PySem.boot_len (pa_cons (pv 1) pa_nil)) pa_nil))) (fun _ _ => rfl))), ?_⟩
    refine ⟨_, rfl, _, rfl, _, rfl, z, rfl, (by rw [sizeLine_eq]; omega), b, l, (z.length : Int), rfl, B, by omega, log_small (by omega) (by omega), fun d H' d0 d1 B' kk fr => ?_⟩
    obtain ⟨c, hc⟩ : ∃ c, z.cps.toList[d.toNat]? = some c := ⟨z.cps.toList[d.toNat]'(by omega), List.getElem?_eq_getElem (by omega)⟩
    refine ⟨z, d, c, rfl, rfl, (by rw [sizeLine_eq]; omega), ?_, k c H' (List.mem_of_getElem? hc) B' kk⟩
    rw [show d = ((d.toNat : Nat) : Int) by omega]
    exact atI_nat hc
theorem ok_number {f fD fO : Addr} {fd fdD fdO : FuncData} (F : Fun K "_law_number" "_law_number" s_l_number f fd)
    (gD : mg "_law_draw" = some (.ref fD)) (FD : FnOk P w K mg base CX0 1 fD fdD ["_law_bag_here", "_law_top"] spDrawL) (kD : PySem.W.keepIn K (.ref fD) = true) (bD : Binds K fdD ["_law_bag_here", "_law_top"] [])
    (gO : mg "_law_of" = some (.ref fO)) (FO : FnOk P w K mg base CX0 2 fO fdO ["_law_bag_here", "_law_some"] (spOfL K)) (kO : PySem.W.keepIn K (.ref fO) = true) (bO : Binds K fdO ["_law_bag_here", "_law_some"] []) :
    FnOk P w K mg base CX0 3 f fd ["_law_bag_here"] (spNumber K) := by
  refine F.ok sc_l_number (fun vs H Q E h => ?_) (fun cdv A outer s H vs Q E hr h => ?_)
  · obtain ⟨b, l, rfl, _⟩ := h
    rfl
  · obtain ⟨b, l, rfl, B, k⟩ := h
    have hr1 : Room 1 _ := hr.mono (by decide)
    have dr : ∀ {X : Cx}, True := True.intro
    refine ⟨_, pss_one (ps_ret (pe_call FO hr (by rfl) gO kO bO .nil pass0 (pa_cons (pv 0) (pa_cons (pe_lst (pa_cons pe_int (pa_cons pe_int (pa_cons pe_int (pa_cons pe_int (pa_cons (pe_un un_neg pe_int) (pa_cons (pe_un un_neg pe_int) (pa_cons (pe_op op_pow pe_int pe_int) (pa_cons pe_int
      (pa_cons (pe_call FD hr1 (by rfl) gD kD bD .nil pass0 (pa_cons (pv 0) (pa_cons pe_int pa_nil))) (pa_cons (pe_op op_sub (pe_call FD hr1 (by rfl) gD kD bD .nil pass0 (pa_cons (pv 0) (pa_cons pe_int pa_nil))) pe_int)
      (pa_cons pe_bl (pa_cons pe_bl (pa_cons pe_non (pa_cons pe_str (pa_cons (pe_tup (pa_cons pe_int pa_nil)) (pa_cons (pe_lst (pa_cons pe_int pa_nil)) (pa_cons pe_dnewK (pa_cons (pe_tup pa_nil) pa_nil))))))))))))))))))) pa_nil)))), ?_⟩
    refine ⟨_, rfl, _, rfl, _, rfl, _, _, rfl, rfl, ⟨by decide, by decide, by decide⟩, _, rfl, b, l, _, rfl, B, by decide, by decide, fun d H1 d0 d1 B1 k1 _ => ?_⟩
    refine ⟨_, rfl, b, l, _, rfl, B1, by decide, by decide, fun e H2 e0 e1 B2 k2 _ => ?_⟩
    refine ⟨_, _, rfl, rfl, (by show 1 ≤ sizeLine; decide), fun a1 h1 => ⟨(by show 1 ≤ sizeLine; decide), fun a2 h2 => fun a3 h3 => ⟨(by decide), fun a4 h4 => ⟨(by show 18 ≤ sizeLine; decide), fun q hq => ?_⟩⟩⟩⟩
    have i1 : ∀ {G : Hp} {i : Int}, i.natAbs < 10 ^ 45 → Num 250 2 b K G (.int i) := fun h => num_int h
    have g0 : GotP b l (Num 250 2 b K) H2 H2 [.int 0, .int 1, .int 999, .int 1000, .int (-1), .int (-999), .int (10 ^ (39 : Int).toNat), .int 1001, .int d, .int (e - 500), .bl true, .bl false, .non, .str "7"] :=
      ((((((((((((((GotP.start B2).val (i1 (by decide +kernel))).val (i1 (by decide +kernel))).val (i1 (by decide +kernel))).val (i1 (by decide +kernel))).val (i1 (by decide +kernel))).val (i1 (by decide +kernel))).val (i1 (by decide +kernel))).val (i1 (by decide +kernel))).val (i1 (by omega))).val (i1 (by omega))).val (num_bl true)).val (num_bl false)).val num_non).val (num_str (n := 250) ((smB_ok (by decide +kernel)).mono (by decide)) (by decide))
    have g1 := g0.new nk h1 (o := .tup [.int 7]) fun nb => num_ints (ks := [7]) ⟨SqT.of upd_same, nb⟩ (by decide +kernel) (by decide) (by decide) (by decide)
    have g2 := g1.new nk h2 (o := .lst [.int 7]) fun nb => num_intsL (ks := [7]) upd_same nb (by decide +kernel) (by decide) (by decide) (by decide)
    have g3 := g2.new nk h3 (o := .dK []) fun nb => num_dct upd_same nb (fun q h => by cases h) (dt_dct0.mono (by decide) (by decide))
    have g4 := g3.new nk h4 (o := .tup []) fun nb => num_ints (ks := []) ⟨SqT.of upd_same, nb⟩ (by decide +kernel) (by decide) (by decide) (by decide)
    have g5 := g4.skip nk hq (.lst [.int 0, .int 1, .int 999, .int 1000, .int (-1), .int (-999), .int (10 ^ (39 : Int).toNat), .int 1001, .int d, .int (e - 500), .bl true, .bl false, .non, .str "7", .ref a1, .ref a2, .ref a3, .ref a4])
    refine of_seqL (E := E0) g5.B (g4.B.ne hq) (.inl (SqL.of upd_same)) (by show 0 < 18; decide) (by show 18 < 2 ^ 62; decide) fun v H3 hv B3 k3 _ => ?_
    exact k v H3 ((g5.all v hv).keep k3) B3 (((k1.trans k2).trans g5.k).trans k3)
end
end K02

end

section
set_option Elab.async false
set_option linter.all false
set_option maxRecDepth 100000
set_option maxHeartbeats 4000000
namespace K02
open PySem L2 SB
theorem sm_join : ∀ {ys : List Str}, (∀ y ∈ ys, Sm 1 y) → Sm ys.length (Txt.join "" ys) := by
  intro ys h
  have e : Txt.join "" ys = Str.join ⟨#[]⟩ ys := StrLaws.glued_eq_join _ _
  rw [e]
  induction ys with
  | nil => exact ⟨Nat.le_refl _, fun c hc => by
      have : c ∈ ([] : List Nat) := hc
      cases this⟩
  | cons y ys ih =>
    rw [PyProof.Rows.join_nil_cons]
    have a := (h y List.mem_cons_self).app (ih (fun z hz => h z (List.mem_cons_of_mem _ hz)) (StrLaws.glued_eq_join _ _))
    rw [List.length_cons]
    exact a.mono (by omega)
theorem sm_chr {c : Nat} (h : c < 1114112) : Sm 1 (chr1 c) := ⟨Nat.le_refl _, fun x hx => by
  have : x = c := by simpa using hx
  rw [this]; exact h⟩
def spWord (K : PySem.W.Frag) : Sp := fun vs H Q _ => ∃ (b l : Addr), vs = [.ref b] ∧ BagL H b l ∧ ∀ v H', Num 250 2 b K H' v → BagL H' b l → Keep b H H' → Q v H'
theorem num_strL {n m : Nat} {b p : Addr} {K : PySem.W.Frag} {H : Hp} {z : Str} (h : H p = some (.lst [.str z])) (hb : p ≠ b) (hz : Sm n z) : Num (1 * (n + 1)) (m + 1) b K H (.ref p) :=
  num_lst h hb (dt_list (ds := [.str z]) (m := m) (fun x hx => by
    have : x = .str z := by simpa using hx
    rw [this]; exact (dt_str hz).mono (Nat.le_refl _) (Nat.zero_le _)) (Nat.le_refl 1)) fun H' k => .inl ⟨.lst (SqL.of (k _ _ h hb)) (dpAll_strs [z]), by simp [PyData.hasDict, PyData.hasDictAll]⟩
section
variable {P : Program} {w : World} {K : PySem.W.Frag} {mg : Str → Option Value} {base : Heap}
theorem strs_pick {b l : Addr} {H : Hp} {q : Addr} {zs : List Str} {Q : VK} (B : BagL H b l) (hq : H q = none) (n : Nat) (hz : ∀ z ∈ zs, Sm n z) (h0 : 0 < zs.length) (h1 : zs.length ≤ 100)
    (k : ∀ z H', Sm n z → BagL H' b l → Keep b H H' → Q (.str z) H') : spOfL K [.ref b, .ref q] (upd H q (.lst (zs.map V.str))) Q E0 :=
  of_seqL (E := E0) (B.new hq) (B.ne hq) (.inl (SqL.of upd_same)) (by rw [List.length_map]; exact h0) (by rw [List.length_map]; omega) fun v H' hv B' k' _ => by
    obtain ⟨z, hzs, rfl⟩ := List.mem_map.mp hv
    exact k z H' (hz z hzs) B' ((Keep.new (Keep.refl b H) hq).trans k')
theorem ok_word {f fD fO : Addr} {fd fdD fdO : FuncData} (F : Fun K "_law_word" "_law_word" s_l_word f fd) (gLen : mg "len" = none) (gRng : mg "range" = none)
    (gD : mg "_law_draw" = some (.ref fD)) (FD : FnOk P w K mg base CX0 1 fD fdD ["_law_bag_here", "_law_top"] spDrawL) (kD : PySem.W.keepIn K (.ref fD) = true) (bD : Binds K fdD ["_law_bag_here", "_law_top"] [])
    (gO : mg "_law_of" = some (.ref fO)) (FO : FnOk P w K mg base CX0 2 fO fdO ["_law_bag_here", "_law_some"] (spOfL K)) (FS : FnOk P w K mg base CX0 2 fO fdO ["_law_bag_here", "_law_some"] spOfS) (kO : PySem.W.keepIn K (.ref fO) = true) (bO : Binds K fdO ["_law_bag_here", "_law_some"] []) :
    FnOk P w K mg base CX0 3 f fd ["_law_bag_here"] (spWord K) := by
  refine F.ok sc_l_word (fun vs H Q E h => ?_) (fun cdv A outer s H vs Q E hr h => ?_)
  · obtain ⟨b, l, rfl, _⟩ := h
    rfl
  · obtain ⟨b, l, rfl, B, k⟩ := h
    have hr1 : Room 1 _ := hr.mono (by decide)
    have nd := sc_l_word.nd
    refine ⟨_, pss_cut (ps_set (i := 1) nd rfl (Or.inr rfl) (pe_call FO hr (by rfl) gO kO bO .nil pass0 (pa_cons (pv 0) (pa_cons (pe_lst (pa_cons pe_str (pa_cons pe_str (pa_cons pe_str (pa_cons pe_str (pa_cons pe_str (pa_cons pe_str pa_nil))))))) pa_nil))))
      (pss_cut (ps_set (i := 2) nd rfl (Or.inl rfl) (pe_op op_add_str (pe_call FS hr (by rfl) gO kO bO .nil pass0 (pa_cons (pv 0) (pa_cons pe_str pa_nil)))
        (pe_join pe_str (pe_lc (own := [("_law_n", 4)]) (g := gName 4) (tt := tYes) (te := tCall spOfS [] E0 (tCons (tVar 0) (tCons (tVar 1) tNil))) rfl nd
          (pi_range1 (by rfl) gRng (pa_cons (pe_call FO hr (by rfl) gO kO bO .nil pass0 (pa_cons (pv 0) (pa_cons (pe_lst (pa_cons pe_int (pa_cons pe_int (pa_cons pe_int (pa_cons pe_int (pa_cons pe_int (pa_cons pe_int (pa_cons pe_int (pa_cons pe_int pa_nil))))))))) pa_nil))) pa_nil)) (blkOk_by (N := N_l_word) (sc := defScope s_l_word) (by decide +kernel))
          (fun _ _ _ _ _ => pg_name (i := 4) nd rfl (Or.inl rfl)) (fun _ _ _ _ _ => pts_nil) (fun _ _ _ _ _ => pe_call FS hr (by rfl) gO kO bO .nil pass0 (pa_cons (pv 0) (pa_cons (pv 1) pa_nil)))))))
      (pss_cut (ps_if (pt_cmpR op_eq (pe_call FD hr1 (by rfl) gD kD bD .nil pass0 (pa_cons (pv 0) (pa_cons pe_int pa_nil))) pe_int (nomark _))
        (pss_cons (ps_par (i := 3) (j := 4) rfl nd rfl rfl (by decide) rfl rfl (pa_cons (pe_call FO hr (by rfl) gO kO bO .nil pass0 (pa_cons (pv 0) (pa_cons (pe_lst (pa_cons pe_str (pa_cons pe_str (pa_cons pe_str (pa_cons pe_str (pa_cons pe_str (pa_cons pe_str (pa_cons pe_str (pa_cons pe_str (pa_cons pe_str (pa_cons pe_str (pa_cons pe_str (pa_cons pe_str (pa_cons pe_str (pa_cons pe_str (pa_cons pe_str pa_nil)))))))))))))))) pa_nil)))
          (pa_cons (pe_call FD hr1 (by rfl) gD kD bD .nil pass0 (pa_cons (pv 0) (pa_cons (pe_callB call_len_str (by rfl) gLen PySem.boot_len (pa_cons (pv 2) pa_nil)) pa_nil))) pa_nil)) rfl)
        (pss_one (ps_set (i := 2) nd rfl (Or.inl rfl) (pe_op op_add_str (pe_op op_add_str (pe_slice sl_str (pv 2) po_none (po_some (pv 4))) (pv 3))
          (pe_slice sl_str (pv 2) (po_some (pe_op op_add (pv 4) (pe_call FD hr1 (by rfl) gD kD bD .nil pass0 (pa_cons (pv 0) (pa_cons pe_int pa_nil))))) po_none))))) pss_nil)
      (pss_one (ps_ret (pe_call FO hr (by rfl) gO kO bO .nil pass0 (pa_cons (pv 0) (pa_cons (pe_lst (pa_cons (pv 2) (pa_cons (pv 2) (pa_cons (pv 2) (pa_cons pe_str (pa_cons (pe_slice sl_str (pv 2) (po_some pe_int) po_none) (pa_cons (pe_tup (pa_cons (pv 2) pa_nil)) (pa_cons (pe_lst (pa_cons (pv 2) pa_nil)) (pa_cons pe_str (pa_cons pe_str (pa_cons pe_str pa_nil))))))))))) pa_nil))))))), ?_⟩
    refine ⟨fun σ H' => ∃ sg : Str, σ = [some (.ref b), some (.str sg), none, none, none] ∧ Sm 100 sg ∧ 0 < sg.length ∧ BagL H' b l ∧ Keep b H H', ?_, ?_⟩
    · refine ⟨_, rfl, (by show 6 ≤ sizeLine; decide), fun q hq => ?_⟩
      refine of_seqL (E := E0) (B.new hq) (B.ne hq) (.inl (SqL.of upd_same)) (by show 0 < 6; decide) (by show 6 < 2 ^ 62; decide) fun v H1 hv B1 k1 _ => ?_
      have kk := (Keep.new (Keep.refl b H) hq).trans k1
      simp only [List.mem_cons, List.not_mem_nil, or_false] at hv
      rcases hv with rfl | rfl | rfl | rfl | rfl | rfl <;> exact ⟨_, rfl, smB_ok (by decide +kernel), by decide, B1, kk⟩
    rintro σ H1 ⟨sg, rfl, sg1, sg0, B1, K1⟩
    refine ⟨fun σ H' => ∃ (z : Str) (x4 : Option V), σ = [some (.ref b), some (.str sg), some (.str z), none, x4] ∧ Sm 20 z ∧ 0 < z.length ∧ BagL H' b l ∧ Keep b H H', ?_, ?_⟩
    · refine ⟨_, rfl, b, l, _, rfl, B1, by decide, by decide, fun c H2 hc B2 k2 => ?_⟩
      have c1 : c < 1114112 := (smB_ok (z := "azmqx") (by decide +kernel)).2 c hc
      refine ⟨⟨_, rfl⟩, _, rfl, (by show 8 ≤ sizeLine; decide), fun q hq => ?_⟩
      refine of_seqL (E := E0) (B2.new hq) (B2.ne hq) (.inl (SqL.of upd_same)) (by show 0 < 8; decide) (by show 8 < 2 ^ 62; decide) fun v H3 hv B3 k3 _ => ?_
      obtain ⟨m, rfl, hm⟩ : ∃ m : Nat, v = .int (m : Int) ∧ m ≤ 13 := by
        simp only [List.mem_cons, List.not_mem_nil, or_false] at hv
        rcases hv with rfl | rfl | rfl | rfl | rfl | rfl | rfl | rfl
        · exact ⟨0, rfl, by decide⟩
        · exact ⟨1, rfl, by decide⟩
        · exact ⟨2, rfl, by decide⟩
        · exact ⟨5, rfl, by decide⟩
        · exact ⟨10, rfl, by decide⟩
        · exact ⟨11, rfl, by decide⟩
        · exact ⟨12, rfl, by decide⟩
        · exact ⟨13, rfl, by decide⟩
      have K3 := ((K1.trans k2).new hq).trans k3
      refine ⟨(m : Int), rfl, by omega, by omega, fun D hD => ?_⟩
      rw [Int.toNat_natCast]
      have nb := B3.ne hD
      have nl := B3.nl hD
      refine lc_range (lo := 0) (n := m) (fun i H' => BagL H' b l ∧ Keep b H3 H' ∧ ∃ ys : List Str, ys.length = i ∧ (∀ y ∈ ys, Sm 1 y) ∧ H' D = some (.lst (ys.map V.str)))
        ⟨B3.new hD, Keep.new (Keep.refl b H3) hD, [], rfl, (fun y h => by cases h), upd_same⟩ (fun i H' hi p => ?_) (fun H' p => ?_)
      · obtain ⟨Bi, ki, ys, yl, hy, hd⟩ := p
        refine ⟨rfl, _, rfl, _, rfl, b, l, sg, rfl, Bi, sg0, (by have := sg1.1; omega), fun c' H4 hc' B4 k4 => ?_⟩
        refine ⟨_, k4 _ _ hd nb, by rw [List.length_map, yl, sizeLine_eq]; omega, B4.put nb nl, (fun c0 o e nc => ?_), ys ++ [chr1 c'], by rw [List.length_append, yl]; rfl, (fun y h => ?_), ?_⟩
        · rw [upd_ne (ne_of_none e hD)]
          exact k4 _ _ (ki _ _ e nc) nc
        · rcases List.mem_append.mp h with h | h
          · exact hy y h
          · have : y = chr1 c' := by simpa using h
            rw [this]
            exact sm_chr (sg1.2 c' hc')
        · rw [upd_same, List.map_append]; rfl
      · obtain ⟨B5, k5, ys, yl, hy, hd⟩ := p
        have hsum : ∀ l : List Str, (∀ y ∈ l, Sm 1 y) → (l.map (·.length)).sum ≤ l.length := fun l => by
          induction l with
          | nil => intro _; simp
          | cons a r ih =>
            intro h
            have h1 := (h a List.mem_cons_self).1
            have h2 := ih fun y hy => h y (List.mem_cons_of_mem _ hy)
            rw [List.map_cons, List.sum_cons, List.length_cons]
            omega
        have hs1 := hsum ys hy
        have sj := sm_join hy
        have sz := (sm_chr c1).app sj
        refine ⟨_, D, ys, rfl, rfl, .inl (SqL.of hd), ?_, _, _, rfl, rfl, ?_, _, _, rfl, sz.mono (by omega), ?_, B5, K3.trans k5⟩
        · show (ys.map (·.length)).sum + ys.length * 0 ≤ 16777216
          omega
        · have := sj.1
          show 1 + _ ≤ sizeLine
          rw [sizeLine_eq]
          omega
        · rw [Str.length_append]
          show 0 < 1 + _
          omega
    rintro σ H2 ⟨z, x4, rfl, z1, z0, B2, K2⟩
    refine ⟨fun σ H' => ∃ (z : Str) (x3 x4 : Option V), σ = [some (.ref b), some (.str sg), some (.str z), x3, x4] ∧ Sm 140 z ∧ BagL H' b l ∧ Keep b H H', ?_, ?_⟩
    · refine ⟨_, rfl, b, l, _, rfl, B2, by decide, by decide, fun d H3 d0 d1 B3 k3 _ => ⟨rfl, _, rfl, ite2 (fun e => ?_) (fun e => ⟨z, _, _, rfl, z1.mono (by decide), B3, K2.trans k3⟩)⟩⟩
      refine ⟨_, rfl, (by show 15 ≤ sizeLine; decide), fun q hq => ?_⟩
      refine strs_pick (zs := ["A", "Z", "_", " ", "-", "\n", ".", "{", "@", "[", "/", ":", "0", "", "9"]) B3 hq 100 (fun y hy => smB_ok (List.all_eq_true.mp (show (["A", "Z", "_", " ", "-", "\n", ".", "{", "@", "[", "/", ":", "0", "", "9"] : List Str).all smB = true by decide +kernel) y hy)) (by decide) (by decide) fun y H4 hy B4 k4 => ?_
      have hz2 : z.length ≤ sizeLine := by have := z1.1; rw [sizeLine_eq]; omega
      refine ⟨_, rfl, _, rfl, z, rfl, hz2, b, l, _, rfl, B4, by omega, log_small (by omega) (by have := z1.1; omega), fun n H5 n0 n1 B5 k5 _ => ?_⟩
      have a1 := (z1.cut none (some n)).app hy
      refine ⟨_, _, rfl, _, rfl, _, rfl, _, rfl, z, rfl, hz2, _, rfl, _, _, rfl, rfl, (by have h1 := (z1.cut none (some n)).1; have h2 := hy.1; rw [sizeLine_eq]; omega), _, rfl, _, rfl, _, rfl, b, l, _, rfl, B5, by decide, by decide, fun d2 H6 e0 e1 B6 k6 _ => ?_⟩
      have a2 := a1.app (z1.cut (some (n + d2)) none)
      refine ⟨_, _, rfl, rfl, _, rfl, z, rfl, hz2, _, _, rfl, rfl, (by have h1 := a1.1; have h2 := (z1.cut (some (n + d2)) none).1; rw [sizeLine_eq]; omega), _, _, _, rfl, a2.mono (by decide), B6, (((K2.trans k3).trans k4).trans k5).trans k6⟩
    rintro σ H3 ⟨z, x3, x4, rfl, z1, B3, K3⟩
    have hz2 : z.length ≤ sizeLine := by have := z1.1; rw [sizeLine_eq]; omega
    refine ⟨_, rfl, _, rfl, _, rfl, _, rfl, _, rfl, _, rfl, z, rfl, hz2, _, rfl, (by show 1 ≤ sizeLine; decide), fun a1 h1 => ⟨_, rfl, (by show 1 ≤ sizeLine; decide), fun a2 h2 => ⟨(by show 10 ≤ sizeLine; decide), fun q hq => ?_⟩⟩⟩
    have is : ∀ {G : Hp} {y : Str}, Sm 140 y → Num 250 2 b K G (.str y) := fun h => (num_str (n := 140) (m := 2) h (by decide)).mono (by decide) (by decide)
    have ic : ∀ {G : Hp} {y : Str}, smB y = true → Num 250 2 b K G (.str y) := fun h => is ((smB_ok h).mono (by decide))
    have g0 : GotP b l (Num 250 2 b K) H3 H3 [.str z, .str z, .str z, .str "", .str (cutS z (some 1) none)] := (((((GotP.start B3).val (is z1)).val (is z1)).val (is z1)).val (ic (by decide +kernel))).val (is (z1.cut _ _))
    have g1 := g0.new nk h1 (o := .tup [.str z]) fun nb => (num_tup1 (n := 140) (m := 1) ⟨SqT.of upd_same, nb⟩ (num_str z1 (by decide))).mono (by decide) (by decide)
    have g2 := g1.new nk h2 (o := .lst [.str z]) fun nb => (num_strL (n := 140) (m := 1) upd_same nb z1).mono (by decide) (by decide)
    have g3 := ((g2.val (ic (y := "self") (by decide +kernel))).val (ic (y := "true") (by decide +kernel))).val (ic (y := "1a") (by decide +kernel))
    have g5 := g3.skip nk hq (.lst [.str z, .str z, .str z, .str "", .str (cutS z (some 1) none), .ref a1, .ref a2, .str "self", .str "true", .str "1a"])
    refine of_seqL (E := E0) g5.B (g3.B.ne hq) (.inl (SqL.of upd_same)) (by show 0 < 10; decide) (by show 10 < 2 ^ 62; decide) fun v H4 hv B4 k4 _ => ?_
    exact k v H4 ((g5.all v hv).keep k4) B4 ((K3.trans g5.k).trans k4)
end
end K02

end

section
set_option Elab.async false
set_option linter.all false
set_option maxRecDepth 100000
set_option maxHeartbeats 4000000
namespace K02
open PySem L2 SB
theorem shaped_tup (zs : List Int) : SeqAt.shaped (.tuple (zs.map PyData.int)) = true := by
  unfold SeqAt.shaped
  simp [PyData.canLay0, PyData.depth, canAll_ints, depthAll_ints]
/-- a row without marks, whatever is drawn later -/
def RowV (b : Addr) (K : PySem.W.Frag) (C : Addr) (H : Hp) (v : V) : Prop := ∃ a q ls, v = .ref a ∧ ∀ H', Keep b H H' → RowAt C H' a q none none ∧ SqT K H' q (ls.map V.int) ∧ Lot ls none none
def PVal (b : Addr) (K : PySem.W.Frag) (C : Addr) (H : Hp) (v : V) : Prop := Num 100000 6 b K H v ∨ RowV b K C H v
theorem pk {b C : Addr} {K : PySem.W.Frag} : KeepP b (PVal b K C) := fun h k => h.elim (fun h => .inl (h.keep k)) fun ⟨a, q, ls, e, h⟩ => .inr ⟨a, q, ls, e, fun H2 k2 => h H2 (k.trans k2)⟩
theorem pn {n m : Nat} {b C : Addr} {K : PySem.W.Frag} {H : Hp} {v : V} (h : Num n m b K H v) (hn : n ≤ 100000) (hm : m ≤ 6) : PVal b K C H v := .inl (h.mono hn hm)
def spTuple (K : PySem.W.Frag) (C : Addr) : Sp := fun vs H Q _ => ∃ (b l p : Addr) (ks : List Int), vs = [.ref b, .ref p] ∧ BagL H b l ∧ Tp b K H p (ks.map V.int) ∧ KSet ks ∧ ks.length ≤ 60 ∧ ∀ v H', PVal b K C H' v → BagL H' b l → Keep b H H' → Q v H'
abbrev tMid (K : PySem.W.Frag) (tx : TE) (tl : TO) : TE := tOp (rCatA K) (tOp (rCatA K) (L2.tSl (rSlA K) (tVar 1) tNoPart (tPart (tVar 3))) (tTup (tCons tx tNil))) (L2.tSl (rSlA K) (tVar 1) tl tNoPart)
section
variable {b l p : Addr} {K : PySem.W.Frag} {H : Hp} {ks : List Int} {σ : L2.St} {Q : VK} {n m : Nat} {tx : TE} {tl : TO}
theorem rd_mid (e1 : σ[1]? = some (some (.ref p))) (e3 : σ[3]? = some (some (.int (n : Int)))) (B : BagL H b l) (T : Tp b K H p (ks.map V.int)) (hs : KSet ks) (hl : ks.length ≤ 60)
    (hx : ∀ G (R : VK), Same H G → (∀ v G', Same G G' → Num 250 2 b K G' v → R v G') → tx σ G R) (ht : ∀ G (R : Option Int → Hp → Prop), R (some (m : Int)) G → tl σ G R)
    (k : ∀ r G, Same H G → Num 50200 3 b K G (.ref r) → Q (.ref r) G) : tMid K tx tl σ H Q := by
  refine ⟨_, e1, _, e3, _, rfl, rd_slA B T fun p1 G1 s1 t1 => ?_⟩
  rw [cut_take] at t1
  have B1 := B.same s1
  refine hx G1 _ s1 fun v G2 s2 nv => ?_
  refine ⟨(by show 1 ≤ sizeLine; decide), fun a ha => ?_⟩
  have B2 := B1.same s2
  have s3 : Same G2 (upd G2 a (.tup [v])) := Same.new (Same.refl G2) ha
  have l1 : ((ks.map V.int).take n).length ≤ 60 := by rw [List.length_take, List.length_map]; omega
  have l2 : ((ks.map V.int).drop m).length ≤ 60 := by rw [List.length_drop, List.length_map]; omega
  refine rd_catA (B2.same s3) (t1.sm (s2.trans s3)) (Tp.new B2 ha) (by show _ + 1 ≤ 4000; omega) fun p2 G4 s4 t4 => ?_
  have s14 := ((s1.trans s2).trans s3).trans s4
  refine ⟨_, e1, ht G4 _ ?_⟩
  show rSlA K (.ref p) (some (m : Int)) none G4 (fun y H2 => rCatA K (.ref p2) y H2 Q)
  refine rd_slA (B.same s14) (T.sm s14) fun p3 G5 s5 t5 => ?_
  rw [cut_drop] at t5
  refine rd_catA ((B.same s14).same s5) (t4.sm s5) t5 (by rw [List.length_append]; show _ + 1 + _ ≤ 4000; omega) fun p4 G6 s6 t6 => ?_
  have small : ∀ k ∈ ks, k.natAbs < 10 ^ 45 := fun k hk => by
    have a := hs.lo k hk
    have b := hs.hi k hk
    omega
  refine k p4 G6 ((s14.trans s5).trans s6) (num_mid (n := 250) (m := 2) (v := v) (k1 := ks.take n) (k2 := ks.drop m) (by rw [List.map_take, List.map_drop]; exact t6) (fun x hx => small x (List.mem_of_mem_take hx)) (fun x hx => small x (List.mem_of_mem_drop hx))
    (by rw [List.length_take, List.length_drop]; omega) (nv.keep (Keep.ofSame (((s3.trans s4).trans s5).trans s6))))
end
theorem row_new2 {K : PySem.W.Frag} {C x dx q : Addr} {H : Hp} {ls : List Int} {up dn : Option Int} {R : VK} {E : XK} (hx : H x = none) (hdx : H dx = none) (ne : dx ≠ x) (hs : SqT K H q (ls.map V.int)) (L : Lot ls up dn)
    (k : ∀ H', Same H H' → RowAt C H' x q up dn → R .non H') : spRow K C [.ref x, .ref q, mV up, mV dn] (upd (upd H dx (.own x)) x (.ins C dx [])) R E := by
  have s1 : Same H (upd (upd H dx (.own x)) x (.ins C dx [])) := Same.new (Same.new (Same.refl H) hdx) (by rw [upd_ne (fun e => ne e.symm)]; exact hx)
  exact ⟨x, dx, q, ls, up, dn, rfl, upd_same, sqT_same s1 hs, L, fun H' h1 kk => k H' (fun c o e => kk c o (s1 c o e) (ne_of_none e hx)) ⟨dx, h1⟩⟩
theorem rd_no {σ : L2.St} {H : Hp} {Q : Option Int → Hp → Prop} (h : Q none H) : tNoPart σ H Q := h
theorem key_sm : ∀ n : Fin 1000, smB (toString ((n.val : Nat) : Int) : Str) = true := by decide +kernel
theorem key_text_sm {k : Int} (h0 : 0 ≤ k) (h1 : k ≤ 999) : Sm 100 (toString k : Str) := by
  have := key_sm ⟨k.toNat, by omega⟩
  have e : ((k.toNat : Nat) : Int) = k := by omega
  simp only [e] at this
  exact smB_ok this
section
variable {P : Program} {w : World} {K : PySem.W.Frag} {mg : Str → Option Value} {base : Heap}
theorem ok_tuple {f fD fO fN fR C : Addr} {fd fdD fdO fdN fdR : FuncData} {dsR : List Value} (F : Fun K "_law_tuple" "_law_tuple" s_l_tuple f fd) (gLen : mg "len" = none) (gLst : mg "list" = none) (gStr : mg "str" = none)
    (gD : mg "_law_draw" = some (.ref fD)) (FD : FnOk P w K mg base CX0 1 fD fdD ["_law_bag_here", "_law_top"] spDrawL) (kD : PySem.W.keepIn K (.ref fD) = true) (bD : Binds K fdD ["_law_bag_here", "_law_top"] [])
    (gO : mg "_law_of" = some (.ref fO)) (FO : FnOk P w K mg base CX0 2 fO fdO ["_law_bag_here", "_law_some"] (spOfL K)) (kO : PySem.W.keepIn K (.ref fO) = true) (bO : Binds K fdO ["_law_bag_here", "_law_some"] [])
    (gN : mg "_law_number" = some (.ref fN)) (FN : FnOk P w K mg base CX0 3 fN fdN ["_law_bag_here"] (spNumber K)) (kN : PySem.W.keepIn K (.ref fN) = true) (bN : Binds K fdN ["_law_bag_here"] [])
    (gC : mg "Row" = some (.ref C)) (M : Mk K C fR) (FR : FnOk P w K mg base CX0 5 fR fdR ["self", "lot", "coming", "going"] (spRow K C)) (bR : Binds K fdR ["self", "lot", "coming", "going"] dsR) (rR : Vals [V.non, V.non] dsR) :
    FnOk P w K mg base CX0 7 f fd ["_law_bag_here", "_law_ks"] (spTuple K C) := by
  refine F.ok sc_l_tuple (fun vs H Q E h => ?_) (fun cdv A outer s H vs Q E hr h => ?_)
  · obtain ⟨b, l, p, ks, rfl, _⟩ := h
    rfl
  · obtain ⟨b, l, p, ks, rfl, B, T, hs, hl, k⟩ := h
    have hr1 : Room 1 _ := hr.mono (by decide)
    have hr2 : Room 2 _ := hr.mono (by decide)
    have hr3 : Room 3 _ := hr.mono (by decide)
    have nd := sc_l_tuple.nd
    have hu : (A.deeper (PyProof.Rows.envOfC "_law_tuple" (defScope s_l_tuple) s.heap.objs.size f cdv)).units + 64 < cLine := hr.units
    refine ⟨_, pss_cut (ps_set (i := 2) nd rfl (Or.inl rfl) (pe_call FN hr3 (by rfl) gN kN bN .nil pass0 (pa_cons (pv 0) pa_nil)))
      (pss_cut (ps_if (pt_cmpR (op_eqD hu) (pv 1) (pe_tup pa_nil) (nomark _)) (pss_one (ps_ret (pe_call FO hr2 (by rfl) gO kO bO .nil pass0 (pa_cons (pv 0) (pa_cons (pe_lst (pa_cons (pe_tup pa_nil) (pa_cons (pe_lst pa_nil) (pa_cons (pe_tup (pa_cons (pv 2) pa_nil)) (pa_cons (pe_lstB (pa_cons (pv 2) pa_nil)) (pa_cons (pv 2) (pa_cons pe_dnewK (pa_cons (pe_tup (pa_cons (pe_tup pa_nil) pa_nil)) pa_nil)))))))) pa_nil))))) pss_nil)
      (pss_cut (ps_par (i := 3) (j := 4) rfl nd rfl rfl (by decide) rfl rfl (pa_cons (pe_call FD hr1 (by rfl) gD kD bD .nil pass0 (pa_cons (pv 0) (pa_cons (pe_callB call_len_seq (by rfl) gLen PySem.boot_len (pa_cons (pv 1) pa_nil)) pa_nil)))
          (pa_cons (pe_call FO hr2 (by rfl) gO kO bO .nil pass0 (pa_cons (pv 0) (pa_cons (pv 1) pa_nil))) pa_nil)) rfl)
      (pss_cut (ps_set (i := 5) nd rfl (Or.inl rfl) (pe_lst (pa_cons (pv 1) (pa_cons (pv 1)
          (pa_cons (pe_op op_catA (pe_op op_catA (pe_slice sl_tupA (pv 1) po_none (po_some (pv 3))) (pe_tup (pa_cons (pv 2) pa_nil))) (pe_slice sl_tupA (pv 1) (po_some (pe_op op_add (pv 3) pe_int)) po_none))
          (pa_cons (pe_op op_catA (pe_op op_catA (pe_slice sl_tupA (pv 1) po_none (po_some (pv 3))) (pe_tup (pa_cons (pv 2) pa_nil))) (pe_slice sl_tupA (pv 1) (po_some (pv 3)) po_none))
          (pa_cons (pe_op op_catA (pv 1) (pe_tup (pa_cons (pv 2) pa_nil)))
          (pa_cons (pe_op op_catA (pe_op op_catA (pe_slice sl_tupA (pv 1) po_none (po_some (pv 3))) (pe_tup (pa_cons (pv 4) pa_nil))) (pe_slice sl_tupA (pv 1) (po_some (pv 3)) po_none))
          (pa_cons (pe_op op_catA (pe_slice sl_tupA (pv 1) po_none (po_some (pv 3))) (pe_slice sl_tupA (pv 1) (po_some (pe_op op_add (pv 3) pe_int)) po_none)) pa_nil)))))))))
      (pss_cut (ps_set (i := 5) nd rfl (Or.inl rfl) (pe_op op_cat (pv 5) (pe_lst (pa_cons (pe_revT (pv 1)) (pa_cons (pe_callTy call_list_of (by rfl) gLst (by decide +kernel) (pa_cons (pv 1) pa_nil))
          (pa_cons (pe_op op_catA (pe_slice sl_tupA (pv 1) (po_some (pv 3)) po_none) (pe_slice sl_tupA (pv 1) po_none (po_some (pv 3))))
          (pa_cons (pe_op op_catA (pv 1) (pv 1)) (pa_cons (pe_tup (pa_cons (pv 1) pa_nil))
          (pa_cons (pe_op op_catA (pe_op op_catA (pe_slice sl_tupA (pv 1) po_none (po_some (pv 3))) (pe_tup (pa_cons (pe_callTy call_str_int (by rfl) gStr (by decide +kernel) (pa_cons (pv 4) pa_nil)) pa_nil))) (pe_slice sl_tupA (pv 1) (po_some (pe_op op_add (pv 3) pe_int)) po_none))
          (pa_cons (pe_op op_catA (pe_op op_catA (pe_slice sl_tupA (pv 1) po_none (po_some (pv 3))) (pe_tup (pa_cons (pe_lst (pa_cons (pv 4) pa_nil)) pa_nil))) (pe_slice sl_tupA (pv 1) (po_some (pe_op op_add (pv 3) pe_int)) po_none))
          (pa_cons (pe_disp (pps_cons (pv 4) pe_int pps_nil) (by rfl) (by rfl) (fun z => by cases z) (by decide)) pa_nil)))))))))))
      (pss_one (ps_ret (pe_call FO hr2 (by rfl) gO kO bO .nil pass0 (pa_cons (pv 0) (pa_cons (pe_op op_cat (pv 5) (pe_lst
          (pa_cons (pe_op op_catA (pe_op op_catA (pe_slice sl_tupA (pv 1) po_none (po_some (pv 3))) (pe_tup (pa_cons pe_bl pa_nil))) (pe_slice sl_tupA (pv 1) (po_some (pe_op op_add (pv 3) pe_int)) po_none))
          (pa_cons (pe_op op_catA (pe_op op_catA (pe_slice sl_tupA (pv 1) po_none (po_some (pv 3))) (pe_tup (pa_cons pe_non pa_nil))) (pe_slice sl_tupA (pv 1) (po_some (pe_op op_add (pv 3) pe_int)) po_none))
          (pa_cons (pe_make M FR hr (by rfl) gC bR rR pass0 (pa_cons (pv 1) pa_nil)) (pa_cons (pe_callTy call_str_int (by rfl) gStr (by decide +kernel) (pa_cons (pv 4) pa_nil)) pa_nil)))))) pa_nil))))))))), ?_⟩
    refine ⟨fun σ H' => ∃ v, σ = [some (.ref b), some (.ref p), some v, none, none, none] ∧ Num 250 2 b K H' v ∧ BagL H' b l ∧ Keep b H H', ?_, ?_⟩
    · exact ⟨_, rfl, b, l, rfl, B, fun v H1 hv B1 k1 => ⟨v, rfl, hv, B1, k1⟩⟩
    rintro σ H1 ⟨v, rfl, hv, B1, K1⟩
    have T1 := T.keep K1
    refine ⟨fun σ H' => σ = [some (.ref b), some (.ref p), some v, none, none, none] ∧ 0 < ks.length ∧ Num 250 2 b K H' v ∧ BagL H' b l ∧ Keep b H H', ?_, ?_⟩
    · refine ⟨_, rfl, (by decide), fun De hDe => ?_⟩
      have s1 : Same H1 (upd H1 De (.tup [])) := Same.new (Same.refl H1) hDe
      refine ⟨.tuple (ks.map .int), .tuple [], .tup (T1.sm s1).1 (dpAll_ints ks), .tup (SqT.of upd_same) .nil, shaped_tup ks, shaped_tup [], _, rfl, ite2 (fun h => ?_) (fun h => ⟨rfl, ?_, hv.keep (Keep.ofSame s1), B1.new hDe, K1.new hDe⟩)⟩
      · have B1' := B1.new (o := .tup []) hDe
        have K1' := K1.new (o := .tup []) hDe
        have hv' := hv.keep (Keep.ofSame s1)
        generalize upd H1 De (.tup []) = G at B1' K1' hv'
        refine ⟨_, rfl, (by decide), fun a1 h1 => ⟨(by decide), fun a2 h2 => ⟨_, rfl, (by show 1 ≤ sizeLine; decide), fun a3 h3 => ⟨_, rfl, (by show 1 ≤ sizeLine; decide), fun a4 h4 n4 => ⟨_, rfl, fun a5 h5 => ⟨(by decide), fun i6 e6 => ⟨(by show 1 ≤ sizeLine; decide), fun a6 h6 => ⟨(by show 7 ≤ sizeLine; decide), fun q hq => ?_⟩⟩⟩⟩⟩⟩⟩⟩
        have hv0 : PVal b K C G v := pn hv' (by decide) (by decide)
        have g0 : GotP b l (PVal b K C) G G [v] := (GotP.start B1').val hv0
        have g1 := g0.new pk h1 (o := .tup []) fun nb => pn (num_ints (n := 200) (m := 1) (ks := []) ⟨SqT.of upd_same, nb⟩ (by decide +kernel) (by decide) (by decide) (by decide)) (by decide) (by decide)
        have g2 := g1.new pk h2 (o := .lst []) fun nb => pn (num_intsL (n := 200) (m := 1) (ks := []) upd_same nb (by decide +kernel) (by decide) (by decide) (by decide)) (by decide) (by decide)
        have hv2 := (hv'.keep (Keep.new (o := .tup []) (Keep.refl b G) h1)).keep (Keep.new (o := .lst []) (Keep.refl b _) h2)
        have g3 := g2.new pk h3 (o := .tup [v]) fun nb => pn (num_tup1 (n := 250) (m := 2) ⟨SqT.of upd_same, nb⟩ (hv2.keep (Keep.new (Keep.refl b _) h3))) (by decide) (by decide)
        have hv3 := hv2.keep (Keep.new (o := .tup [v]) (Keep.refl b _) h3)
        have g4 := g3.new pk h4 (o := .lst [v]) fun nb => pn (num_lst1 (n := 250) (m := 2) (d := .none) upd_same nb n4 (hv3.keep (Keep.new (Keep.refl b _) h4))) (by decide) (by decide)
        have g5 := g4.new pk h5 (o := .dK []) fun nb => pn (num_dct (n := 0) (m := 1) upd_same nb (fun q h => by cases h) dt_dct0) (by decide) (by decide)
        have f6 := g5.skip pk e6 (.tup [])
        have g6 := f6.new pk h6 (o := .tup [.ref i6]) fun nb => pn (num_tup1 (n := 200) (m := 1) ⟨SqT.of upd_same, nb⟩ (num_ints (ks := []) ⟨SqT.of (by rw [upd_ne (ne_of_none upd_same h6), upd_same]; rfl), g5.B.ne e6⟩ (by decide +kernel) (by decide) (by decide) (by decide))) (by decide) (by decide)
        have g7 := g6.skip pk hq (.lst [.ref a1, .ref a2, .ref a3, .ref a4, v, .ref a5, .ref a6])
        refine of_seqL (E := E0) g7.B (g6.B.ne hq) (.inl (SqL.of upd_same)) (by show 0 < 7; decide) (by show 7 < 2 ^ 62; decide) fun y H4 hy B4 k4 _ => ?_
        refine k y H4 (pk (g7.all y ?_) k4) B4 ((K1'.trans g7.k).trans k4)
        simp only [List.mem_cons, List.not_mem_nil, or_false, List.mem_append, List.nil_append, List.cons_append] at hy ⊢
        rcases hy with rfl | rfl | rfl | rfl | rfl | rfl | rfl <;> simp
      · cases ks with
        | nil => exact absurd rfl h
        | cons a r => exact Nat.zero_lt_succ _
    rintro σ H2 ⟨rfl, h0, hv2, B2, K2⟩
    have T2 := T.keep K2
    have hlm : ((ks.map V.int).length : Int) = (ks.length : Int) := by rw [List.length_map]
    refine ⟨fun σ H' => ∃ (n : Nat) (c : Int), σ = [some (.ref b), some (.ref p), some v, some (.int (n : Int)), some (.int c), none] ∧ n < ks.length ∧ c ∈ ks ∧ Num 250 2 b K H' v ∧ BagL H' b l ∧ Keep b H H', ?_, ?_⟩
    · refine ⟨_, rfl, _, rfl, p, _, rfl, .inr T2.1, b, l, _, rfl, B2, by omega, log_small (by omega) (by omega), fun d H3 d0 d1 B3 k3 _ => ?_⟩
      refine ⟨_, rfl, _, rfl, of_seqL (E := E0) B3 T.2 (.inr (T2.keep k3).1) (by rw [List.length_map]; exact h0) (by rw [List.length_map]; omega) fun y H4 hy B4 k4 _ => ?_⟩
      obtain ⟨c, rfl, hc⟩ := mem_ints hy
      refine ⟨_, _, rfl, d.toNat, c, ?_, by omega, hc, (hv2.keep k3).keep k4, B4, (K2.trans k3).trans k4⟩
      rw [show ((d.toNat : Nat) : Int) = d by omega]
      rfl
    rintro σ H3 ⟨n, c, rfl, hn, hc, hv3, B3, K3⟩
    have T3 := T.keep K3
    have c0 := hs.lo c hc
    have c1 := hs.hi c hc
    have cb : c.natAbs < 10 ^ 45 := by omega
    have clog : c.natAbs.log2 < 1920 := log_lt cb
    have small : ∀ k ∈ ks, k.natAbs < 10 ^ 45 := fun k hk => by
      have a := hs.lo k hk
      have b := hs.hi k hk
      omega
    have tl1 : ∀ G (R : Option Int → Hp → Prop), R (some ((n + 1 : Nat) : Int)) G → tPart (tOp (rI0 fun i j => .int (i + j)) (tVar 3) (tC (.int 1))) [some (.ref b), some (.ref p), some v, some (.int (n : Int)), some (.int c), none] G R := fun G R q => ⟨_, rfl, _, _, rfl, rfl, _, rfl, q⟩
    have tl0 : ∀ G (R : Option Int → Hp → Prop), R (some (n : Int)) G → tPart (tVar 3) [some (.ref b), some (.ref p), some v, some (.int (n : Int)), some (.int c), none] G R := fun G R q => ⟨_, rfl, _, rfl, q⟩
    have nks : ∀ {G : Hp}, Keep b H G → PVal b K C G (.ref p) := fun kk => pn (num_ints (n := 200) (m := 1) (T.keep kk) small (by omega) (by decide) (by decide)) (by decide) (by decide)
    have ltk : ∀ {j : Nat}, ((ks.map V.int).take j).length ≤ 60 := fun {j} => by rw [List.length_take, List.length_map]; omega
    have ldr : ∀ {j : Nat}, ((ks.map V.int).drop j).length ≤ 60 := fun {j} => by rw [List.length_drop, List.length_map]; omega
    refine ⟨fun σ H' => ∃ q vs, σ = [some (.ref b), some (.ref p), some v, some (.int (n : Int)), some (.int c), some (.ref q)] ∧ H' q = some (.lst vs) ∧ vs.length = 7 ∧ GotP b l (PVal b K C) H3 H' vs, ?_, ?_⟩
    · refine ⟨_, rfl, _, rfl, ?_⟩
      have g0 : GotP b l (PVal b K C) H3 H3 [.ref p, .ref p] := ((GotP.start B3).val (nks K3)).val (nks K3)
      refine rd_mid (n := n) (m := n + 1) rfl rfl B3 T3 hs hl (fun G R s q => ⟨_, rfl, q _ G (Same.refl G) (hv3.keep (Keep.ofSame s))⟩) tl1 fun r3 G3 s3 n3 => ?_
      have g3 := (g0.sm pk s3).val (pn n3 (by decide) (by decide))
      refine rd_mid (n := n) (m := n) rfl rfl g3.B (T3.keep g3.k) hs hl (fun G R s q => ⟨_, rfl, q _ G (Same.refl G) (hv3.keep (Keep.ofSame (s3.trans s)))⟩) tl0 fun r4 G4 s4 n4 => ?_
      have g4 := (g3.sm pk s4).val (pn n4 (by decide) (by decide))
      refine ⟨_, rfl, _, rfl, (by show 1 ≤ sizeLine; decide), fun a5 h5 => ?_⟩
      have f5 := g4.skip pk h5 (.tup [v])
      refine rd_catA f5.B (T3.keep f5.k) (Tp.new g4.B h5) (by rw [List.length_map]; show _ + 1 ≤ 4000; omega) fun r5 G5 s5 t5 => ?_
      have n5 : Num 50200 3 b K G5 (.ref r5) := num_mid (n := 250) (m := 2) (v := v) (k1 := ks) (k2 := []) (by rw [List.map_nil, List.append_nil]; exact t5) small (fun x hx => by cases hx) (by show _ + 1 + 0 ≤ 200; omega) (hv3.keep (f5.k.trans (Keep.ofSame s5)))
      have g5 := (f5.sm pk s5).val (pn n5 (by decide) (by decide))
      refine rd_mid (n := n) (m := n) rfl rfl g5.B (T3.keep g5.k) hs hl (fun G R s q => ⟨_, rfl, q _ G (Same.refl G) (num_int cb)⟩) tl0 fun r6 G6 s6 n6 => ?_
      have g6 := (g5.sm pk s6).val (pn n6 (by decide) (by decide))
      refine ⟨_, rfl, _, rfl, _, rfl, rd_slA g6.B (T3.keep g6.k) fun p7 G7 s7 t7 => ?_⟩
      rw [cut_take] at t7
      refine ⟨_, rfl, tl1 _ _ (rd_no (rd_slA (g6.B.same s7) ((T3.keep g6.k).sm s7) fun p8 G8 s8 t8 => ?_))⟩
      rw [cut_drop] at t8
      refine rd_catA ((g6.B.same s7).same s8) (t7.sm s8) t8 (by have h1 := @ltk n; have h2 := @ldr (n + 1); omega) fun r9 G9 s9 t9 => ?_
      have n9 : Num 200 1 b K G9 (.ref r9) := num_ints (ks := ks.take n ++ ks.drop (n + 1)) (by rw [List.map_append, List.map_take, List.map_drop]; exact t9) (fun x hx => (List.mem_append.mp hx).elim (fun h => small x (List.mem_of_mem_take h)) fun h => small x (List.mem_of_mem_drop h))
        (by rw [List.length_append, List.length_take, List.length_drop]; omega) (by decide) (by decide)
      have g9 := (g6.sm pk ((s7.trans s8).trans s9)).val (pn n9 (by decide) (by decide))
      refine ⟨(by show 7 ≤ sizeLine; decide), fun q hq => ?_⟩
      exact ⟨q, _, rfl, upd_same, rfl, g9.skip pk hq _⟩
    rintro σ H4 ⟨q4, vs4, rfl, hq4, hv4, G4⟩
    have K4 := K3.trans G4.k
    refine ⟨fun σ H' => ∃ q vs, σ = [some (.ref b), some (.ref p), some v, some (.int (n : Int)), some (.int c), some (.ref q)] ∧ H' q = some (.lst vs) ∧ vs.length = 15 ∧ GotP b l (PVal b K C) H3 H' vs, ?_, ?_⟩
    · have T4 := T.keep K4
      have N0 : GotP b l (PVal b K C) H4 H4 [] := GotP.start G4.B
      refine ⟨_, rfl, _, rfl, p, _, rfl, T4.1, fun a1 h1 => ?_⟩
      have g1 := N0.new pk h1 (o := .tup (ks.map V.int).reverse) fun nb => pn (num_ints (n := 200) (m := 1) (ks := ks.reverse) ⟨SqT.of (by rw [List.map_reverse]; exact upd_same), nb⟩ (fun x hx => small x (List.mem_reverse.mp hx)) (by rw [List.length_reverse]; omega) (by decide) (by decide)) (by decide) (by decide)
      refine ⟨_, rfl, p, _, rfl, .inr (T4.keep g1.k).1, fun a2 h2 => ?_⟩
      have g2 := g1.new pk h2 (o := .lst (ks.map V.int)) fun nb => pn (num_intsL (n := 200) (m := 1) (ks := ks) upd_same nb small (by omega) (by decide) (by decide)) (by decide) (by decide)
      refine ⟨_, rfl, _, rfl, _, rfl, rd_no (rd_slA g2.B (T4.keep g2.k) fun p3 G3 s3 t3 => ?_)⟩
      rw [cut_drop] at t3
      refine ⟨_, rfl, _, rfl, _, rfl, rd_slA (g2.B.same s3) ((T4.keep g2.k).sm s3) fun p4 G5 s4 t4 => ?_⟩
      rw [cut_take] at t4
      refine rd_catA ((g2.B.same s3).same s4) (t3.sm s4) t4 (by have h1 := @ltk n; have h2 := @ldr n; omega) fun r5 G6 s5 t5 => ?_
      have n5 : Num 200 1 b K G6 (.ref r5) := num_ints (ks := ks.drop n ++ ks.take n) (by rw [List.map_append, List.map_take, List.map_drop]; exact t5) (fun x hx => (List.mem_append.mp hx).elim (fun h => small x (List.mem_of_mem_drop h)) fun h => small x (List.mem_of_mem_take h))
        (by rw [List.length_append, List.length_take, List.length_drop]; omega) (by decide) (by decide)
      have g3 := (g2.sm pk ((s3.trans s4).trans s5)).val (pn n5 (by decide) (by decide))
      refine ⟨_, rfl, _, rfl, rd_catA g3.B (T4.keep g3.k) (T4.keep g3.k) (by rw [List.length_map]; omega) fun rB G7 s6 t6 => ?_⟩
      have n6 : Num 200 1 b K G7 (.ref rB) := num_ints (ks := ks ++ ks) (by rw [List.map_append]; exact t6) (fun x hx => (List.mem_append.mp hx).elim (small x) (small x)) (by rw [List.length_append]; omega) (by decide) (by decide)
      have g4 := (g3.sm pk s6).val (pn n6 (by decide) (by decide))
      refine ⟨_, rfl, (by show 1 ≤ sizeLine; decide), fun a5 h5 => ?_⟩
      have g5 := g4.new pk h5 (o := .tup [.ref p]) fun nb => pn (num_tup1 (n := 200) (m := 1) ⟨SqT.of upd_same, nb⟩ (num_ints (ks := ks) ((T4.keep g4.k).keep (Keep.new (Keep.refl b _) h5)) small (by omega) (by decide) (by decide))) (by decide) (by decide)
      refine rd_mid (n := n) (m := n + 1) rfl rfl g5.B (T4.keep g5.k) hs hl (fun G R s q => ⟨_, rfl, c, rfl, clog, q _ G (Same.refl G) ((num_str (n := 100) (m := 2) (key_text_sm c0 c1) (by decide)).mono (by decide) (by decide))⟩) tl1 fun r6 G8 s8 n8 => ?_
      have g6 := (g5.sm pk s8).val (pn n8 (by decide) (by decide))
      refine rd_mid (n := n) (m := n + 1) rfl rfl g6.B (T4.keep g6.k) hs hl (fun G R s q => ⟨_, rfl, (by show 1 ≤ sizeLine; decide), fun a ha => q _ _ (Same.new (Same.refl G) ha) ((num_intsL (n := 200) (m := 1) (ks := [c]) upd_same ((g6.B.same s).ne ha) (fun x hx => by
          have : x = c := by simpa using hx
          rw [this]; exact cb) (by show 1 ≤ 200; decide) (by decide) (by decide)).mono (by decide) (by decide))⟩) tl1 fun r7 G9 s9 n9 => ?_
      have g7 := (g6.sm pk s9).val (pn n9 (by decide) (by decide))
      refine fun a8 h8 => ⟨_, rfl, upd_same, [(.inl c, .int 1)], rfl, (by show 1 ≤ 15; decide), ?_⟩
      rw [upd_upd]
      have g8 := g7.new pk h8 (o := .dK (mergeK [] [(.inl c, .int 1)])) fun nb => pn (num_dct (n := 2) (m := 1) upd_same nb (fun q h => by
          have : q = (.inl c, .int 1) := by simpa [mergeK, putK] using h
          rw [this]; rfl) (dt_dct1 cb)) (by decide) (by decide)
      refine ⟨(by show 8 ≤ sizeLine; decide), fun m2 hm2 => ?_⟩
      have gA := g8.skip pk hm2 (.lst [.ref a1, .ref a2, .ref r5, .ref rB, .ref a5, .ref r6, .ref r7, .ref a8])
      have qb : q4 ≠ b := fun e => by
        obtain ⟨ns, i, g, m, c, hb, _⟩ := G4.B
        rw [e, hb] at hq4
        cases hq4
        simp at hv4
      exact ⟨q4, m2, _, _, rfl, rfl, gA.k _ _ hq4 qb, upd_same, (by rw [hv4]; show 7 + 8 ≤ sizeLine; decide), fun q2 hq2 => ⟨q2, _, rfl, upd_same, (by rw [List.length_append, hv4]; rfl), G4.app pk (gA.skip pk hq2 _)⟩⟩
    rintro σ H5 ⟨q5, vs5, rfl, hq5, hv5, G5⟩
    have K5 := K3.trans G5.k
    have T5 := T.keep K5
    have N0 : GotP b l (PVal b K C) H5 H5 [] := GotP.start G5.B
    have qb : q5 ≠ b := fun e => by
      obtain ⟨ns, i, g, m, c, hb, _⟩ := G5.B
      rw [e, hb] at hq5
      cases hq5
      simp at hv5
    refine ⟨_, rfl, _, rfl, ?_⟩
    refine rd_mid (n := n) (m := n + 1) rfl rfl N0.B T5 hs hl (fun G R s q => q _ G (Same.refl G) (num_bl true)) tl1 fun r1 G1 s1 n1 => ?_
    have g1 := (N0.sm pk s1).val (pn n1 (by decide) (by decide))
    refine rd_mid (n := n) (m := n + 1) rfl rfl g1.B (T5.keep g1.k) hs hl (fun G R s q => q _ G (Same.refl G) num_non) tl1 fun r2 G2 s2 n2 => ?_
    have g2 := (g1.sm pk s2).val (pn n2 (by decide) (by decide))
    have L : Lot ks none none := ⟨hs, h0, by omega, (fun k e => nomatch e), fun k e => nomatch e⟩
    refine ⟨_, rfl, fun x dx hx hdx ne => ?_⟩
    refine row_new2 (up := none) (dn := none) hx hdx ne (T5.keep g2.k).1 L fun G3 s3 ra => ⟨rfl, ?_⟩
    have g3 : GotP b l (PVal b K C) H5 G3 ([] ++ [.ref r1] ++ [.ref r2] ++ [.ref x]) := (g2.sm pk s3).val (.inr ⟨x, p, ks, rfl, fun G' kk => ⟨by
      obtain ⟨dx', e⟩ := ra
      exact ⟨dx', kk _ _ e (g2.B.ne hx)⟩, ((T5.keep g2.k).keep ((Keep.ofSame s3).trans kk)).1, L⟩⟩)
    refine ⟨_, rfl, c, rfl, clog, ?_⟩
    have g4 := g3.val (w := .str (toString c)) (pn (num_str (n := 100) (m := 1) (key_text_sm c0 c1) (by decide)) (by decide) (by decide))
    refine ⟨(by show 4 ≤ sizeLine; decide), fun m2 hm2 => ?_⟩
    have gA := g4.skip pk hm2 (.lst [.ref r1, .ref r2, .ref x, .str (toString c)])
    refine ⟨q5, m2, _, _, rfl, rfl, gA.k _ _ hq5 qb, upd_same, (by rw [hv5]; show 15 + 4 ≤ sizeLine; decide), fun q2 hq2 => ?_⟩
    have gB := G5.app pk (gA.skip pk hq2 (.lst (vs5 ++ [.ref r1, .ref r2, .ref x, .str (toString c)])))
    refine of_seqL (E := E0) gB.B (gA.B.ne hq2) (.inl (SqL.of upd_same)) (by rw [List.length_append, hv5]; show 0 < 15 + 4; decide) (by rw [List.length_append, hv5]; show 15 + 4 < 2 ^ 62; decide) fun y H6 hy B6 k6 _ => ?_
    exact k y H6 (pk (gB.all y hy) k6) B6 ((K3.trans gB.k).trans k6)
end
end K02

end

section
set_option Elab.async false
set_option linter.all false
set_option maxRecDepth 100000
set_option maxHeartbeats 4000000
namespace K02
open PySem L2 SB
/-- a value that may be no key: a number or not; the same as itself, whatever is drawn later -/
def Ov (b : Addr) (K : PySem.W.Frag) (H : Hp) (v : V) : Prop := ∃ o, ∀ H', Keep b H H' → NV K H' v o ∧ Alike K H' 2 v v
section
variable {b l p : Addr} {K : PySem.W.Frag} {H H' : Hp} {v : V}
theorem ok_ {b : Addr} {K : PySem.W.Frag} : KeepP b (Ov b K) := fun ⟨o, h⟩ k => ⟨o, fun H2 k2 => h H2 (k.trans k2)⟩
theorem al_flat {n : Nat} (h : flatV v = true) : Alike K H n v v := by
  cases n with
  | zero => exact .inl ⟨rfl, h⟩
  | succ n => exact .inl (.inl ⟨rfl, h⟩)
theorem ov_non : Ov b K H .non := ⟨none, fun _ _ => ⟨.no _ false false (.base .non) (kit_ty (by decide +kernel)) (kit_ty (by decide +kernel)) rfl, al_flat rfl⟩⟩
theorem ov_bl (x : Bool) : Ov b K H (.bl x) := ⟨none, fun _ _ => ⟨.no _ true true (.base (.bl x)) (kit_ty (by decide +kernel)) (kit_ty (by decide +kernel)) rfl, al_flat rfl⟩⟩
theorem ov_int (x : Int) : Ov b K H (.int x) := ⟨some x, fun _ _ => ⟨.int x, al_flat rfl⟩⟩
theorem ov_str (x : Str) : Ov b K H (.str x) := ⟨none, fun _ _ => ⟨.no _ false false (.base (.str x)) (kit_ty (by decide +kernel)) (kit_ty (by decide +kernel)) rfl, al_flat rfl⟩⟩
theorem al_self {n : Nat} : ∀ {xs : List V}, (∀ x ∈ xs, Alike K H n x x) → Paired (Alike K H n) xs xs
  | [], _ => .nil
  | x :: xs, h => .cons (h x List.mem_cons_self) (al_self fun y hy => h y (List.mem_cons_of_mem _ hy))
theorem al_tup {n : Nat} {xs : List V} (h : SqT K H p xs) (hz : xs.length ≤ 2000) (hx : ∀ x ∈ xs, Alike K H n x x) : Alike K H (n + 1) (.ref p) (.ref p) :=
  .inr (.inr ⟨p, p, xs, xs, rfl, rfl, h, h, by rw [sizeLine_eq]; omega, al_self hx⟩)
theorem al_lst {n : Nat} {xs : List V} (h : SqL K H p xs) (hz : xs.length ≤ 2000) (hx : ∀ x ∈ xs, Alike K H n x x) : Alike K H (n + 1) (.ref p) (.ref p) :=
  .inr (.inl ⟨p, p, xs, xs, rfl, rfl, h, h, by rw [sizeLine_eq]; omega, al_self hx⟩)
theorem flat_mem {ks : List Int} {x : V} (h : x ∈ ks.map V.int) : flatV x = true := by
  obtain ⟨k, rfl, _⟩ := mem_ints h
  rfl
theorem ov_tup {ks : List Int} (h : Tp b K H p (ks.map V.int)) (hz : ks.length ≤ 2000) : Ov b K H (.ref p) :=
  ⟨none, fun H' k => ⟨.no _ false false (ty_tup (h.keep k).1) (kit_ty (by decide +kernel)) (kit_ty (by decide +kernel)) rfl, al_tup (h.keep k).1 (by rw [List.length_map]; exact hz) fun x hx => al_flat (flat_mem hx)⟩⟩
theorem ov_lst {ks : List Int} (h : H p = some (.lst (ks.map V.int))) (hb : p ≠ b) (hz : ks.length ≤ 2000) : Ov b K H (.ref p) :=
  ⟨none, fun H' k => ⟨.no _ false false (.base (.lst (k _ _ h hb))) (kit_ty (by decide +kernel)) (kit_ty (by decide +kernel)) rfl, al_lst (SqL.of (k _ _ h hb)) (by rw [List.length_map]; exact hz) fun x hx => al_flat (flat_mem hx)⟩⟩
/-- a list with a tuple of whole numbers in it -/
theorem ov_lstT {q : Addr} {ks : List Int} (h : H p = some (.lst [.ref q])) (hb : p ≠ b) (T : Tp b K H q (ks.map V.int)) (hz : ks.length ≤ 2000) : Ov b K H (.ref p) :=
  ⟨none, fun H' k => ⟨.no _ false false (.base (.lst (k _ _ h hb))) (kit_ty (by decide +kernel)) (kit_ty (by decide +kernel)) rfl, al_lst (SqL.of (k _ _ h hb)) (by show 1 ≤ 2000; decide) fun x hx => by
    have : x = .ref q := by simpa using hx
    rw [this]
    exact al_tup (T.keep k).1 (by rw [List.length_map]; exact hz) fun y hy => al_flat (flat_mem hy)⟩⟩
theorem ov_dct {kvs : List (Key × V)} (h : H p = some (.dK kvs)) (hb : p ≠ b) (hf : ∀ q ∈ kvs, valV kvs q.1 = some q.2 ∧ flatB q.2 = true) : Ov b K H (.ref p) :=
  ⟨none, fun H' k => ⟨.no _ false false (.base (.dK (k _ _ h hb))) (kit_ty (by decide +kernel)) (kit_ty (by decide +kernel)) rfl, .inl (.inr ⟨p, kvs, rfl, rfl, k _ _ h hb, hf⟩)⟩⟩
end
def spOdd (K : PySem.W.Frag) : Sp := fun vs H Q _ => ∃ (b l p m : Addr) (ks : List Int) (ms : List V), vs = [.ref b, .ref p, .ref m] ∧ BagL H b l ∧ Tp b K H p (ks.map V.int) ∧ (∀ k ∈ ks, 0 ≤ k ∧ k ≤ 999) ∧ ks.length ≤ 60 ∧ H m = some (.lst ms) ∧ m ≠ b ∧ ms.length ≤ 10 ∧ (∀ v ∈ ms, Ov b K H v) ∧
  ∀ v H', Ov b K H' v → BagL H' b l → Keep b H H' → Q v H'
section
variable {P : Program} {w : World} {K : PySem.W.Frag} {mg : Str → Option Value} {base : Heap}
theorem ok_odd {f fO fS : Addr} {fd fdO fdS : FuncData} (F : Fun K "_law_odd" "_law_odd" s_l_odd f fd) (gStr : mg "str" = none)
    (gO : mg "_law_of" = some (.ref fO)) (FO : FnOk P w K mg base CX0 2 fO fdO ["_law_bag_here", "_law_some"] (spOfL K)) (kO : PySem.W.keepIn K (.ref fO) = true) (bO : Binds K fdO ["_law_bag_here", "_law_some"] [])
    (gS : mg "_law_stranger" = some (.ref fS)) (FS : FnOk P w K mg base CX0 3 fS fdS ["_law_bag_here", "_law_ks"] (spStr K)) (kS : PySem.W.keepIn K (.ref fS) = true) (bS : Binds K fdS ["_law_bag_here", "_law_ks"] []) :
    FnOk P w K mg base CX0 4 f fd ["_law_bag_here", "_law_ks", "_law_more"] (spOdd K) := by
  refine F.ok sc_l_odd (fun vs H Q E h => ?_) (fun cdv A outer s H vs Q E hr h => ?_)
  · obtain ⟨b, l, p, m, ks, ms, rfl, _⟩ := h
    rfl
  · obtain ⟨b, l, p, m, ks, ms, rfl, B, T, hs, hl, hm, nmb, hml, hmo, k⟩ := h
    have hr2 : Room 2 _ := hr.mono (by decide)
    have nd := sc_l_odd.nd
    have hu : (A.deeper (PyProof.Rows.envOfC "_law_odd" (defScope s_l_odd) s.heap.objs.size f cdv)).units + 64 < cLine := hr.units
    refine ⟨_, (pss_cut (ps_set (i := 3) nd rfl (Or.inl rfl) (pe_call FS hr (by rfl) gS kS bS .nil pass0 (pa_cons (pv 0) (pa_cons (pv 1) pa_nil)))) (pss_cut (ps_set (i := 4) nd rfl (Or.inl rfl) (pe_lst (pa_cons pe_non (pa_cons pe_bl (pa_cons pe_bl (pa_cons (pe_un un_neg pe_int) (pa_cons pe_int (pa_cons (pe_op op_pow pe_int pe_int) (pa_cons pe_str (pa_cons pe_str (pa_cons (pe_callTy call_str_int (by rfl) gStr (by decide +kernel) (pa_cons (pv 3) pa_nil)) (pa_cons (pv 3) (pa_cons (pv 3) (pa_cons (pe_tup (pa_cons (pv 3) pa_nil)) (pa_cons (pe_lst (pa_cons (pv 3) pa_nil)) (pa_cons (pe_tup pa_nil) (pa_cons pe_dnewK (pa_cons (pe_disp (pps_cons (pv 3) pe_int pps_nil) (by rfl) (by rfl) (fun z => by cases z) (by decide)) pa_nil)))))))))))))))))) (pss_cut (ps_if (pt_cmpR (op_neD hu) (pv 1) (pe_tup pa_nil) (nomark _)) (pss_cons (ps_set (i := 5) nd rfl (Or.inl rfl) (pe_call FO hr2 (by rfl) gO kO bO .nil pass0 (pa_cons (pv 0) (pa_cons (pv 1) pa_nil)))) (pss_one (ps_set (i := 4) nd rfl (Or.inl rfl) (pe_op op_cat (pv 4) (pe_lst (pa_cons (pe_callTy call_str_int (by rfl) gStr (by decide +kernel) (pa_cons (pv 5) pa_nil)) (pa_cons (pe_tup (pa_cons (pv 5) pa_nil)) (pa_cons (pe_lst (pa_cons (pv 5) pa_nil)) (pa_cons (pe_op op_sub (pe_un un_neg pe_int) (pv 5)) (pa_cons (pe_op op_add (pv 5) pe_int) (pa_cons (pe_lst (pa_cons (pv 1) pa_nil)) (pa_cons (pv 1) pa_nil)))))))))))) pss_nil) (pss_one (ps_ret (pe_call FO hr2 (by rfl) gO kO bO .nil pass0 (pa_cons (pv 0) (pa_cons (pe_op op_cat (pv 4) (pv 2)) pa_nil)))))))), ?_⟩
    have lg : ∀ {c : Int}, 0 ≤ c → c ≤ 999 → c.natAbs.log2 < 1920 := fun h0 h1 => log_lt (by omega)
    refine ⟨fun σ H' => ∃ z : Int, σ = [some (.ref b), some (.ref p), some (.ref m), some (.int z), none, none] ∧ 0 ≤ z ∧ z ≤ 999 ∧ BagL H' b l ∧ Keep b H H', ?_, ?_⟩
    · exact ⟨_, rfl, _, rfl, b, l, p, ks, rfl, B, T.2, T.1, by omega, hs, fun z H1 z0 z1 B1 k1 => ⟨z, rfl, z0, z1, B1, k1⟩⟩
    rintro σ H1 ⟨z, rfl, z0, z1, B1, K1⟩
    refine ⟨fun σ H' => ∃ q vs, σ = [some (.ref b), some (.ref p), some (.ref m), some (.int z), some (.ref q), none] ∧ H' q = some (.lst vs) ∧ vs.length = 16 ∧ GotP b l (Ov b K) H H' vs, ?_, ?_⟩
    · refine ⟨_, rfl, _, _, rfl, rfl, ⟨by decide, by decide, by decide⟩, _, rfl, z, rfl, lg z0 z1, _, rfl, _, rfl, _, rfl, (by show 1 ≤ sizeLine; decide), fun a1 h1 => ⟨_, rfl, (by show 1 ≤ sizeLine; decide), fun a2 h2 => ⟨(by decide), fun a3 h3 => fun a4 h4 => fun a5 h5 => ⟨_, rfl, upd_same, [(.inl z, .int 1)], rfl, (by show 1 ≤ 15; decide), ?_⟩⟩⟩⟩
      rw [upd_upd]
      refine ⟨(by show 16 ≤ sizeLine; decide), fun q hq => ?_⟩
      have g0 : GotP b l (Ov b K) H H1 _ := (((((((((((⟨B1, K1, fun v h => by cases h⟩ : GotP b l (Ov b K) H H1 []).val ov_non).val (ov_bl true)).val (ov_bl false)).val (ov_int (-1))).val (ov_int 1000)).val (ov_int (10 ^ (39 : Int).toNat))).val (ov_str "")).val (ov_str "1")).val (ov_str (toString z))).val (ov_int z)).val (ov_int z)
      have g1 := g0.new ok_ h1 (o := .tup [.int z]) fun nb => ov_tup (ks := [z]) ⟨SqT.of upd_same, nb⟩ (by show 1 ≤ 2000; decide)
      have g2 := g1.new ok_ h2 (o := .lst [.int z]) fun nb => ov_lst (ks := [z]) upd_same nb (by show 1 ≤ 2000; decide)
      have g3 := g2.new ok_ h3 (o := .tup []) fun nb => ov_tup (ks := []) ⟨SqT.of upd_same, nb⟩ (by decide)
      have g4 := g3.new ok_ h4 (o := .dK []) fun nb => ov_dct upd_same nb fun q h => by cases h
      have g5 := g4.new ok_ h5 (o := .dK (mergeK [] [(.inl z, .int 1)])) fun nb => ov_dct upd_same nb fun q h => by
        have : q = (.inl z, .int 1) := by simpa [mergeK, putK] using h
        rw [this]
        exact ⟨by simp [mergeK, putK, valV], rfl⟩
      exact ⟨q, _, rfl, upd_same, rfl, g5.skip ok_ hq _⟩
    rintro σ H2 ⟨q2, vs2, rfl, hq2, hv2, G2⟩
    have T2 := T.keep G2.k
    refine ⟨fun σ H' => ∃ q vs x5, σ = [some (.ref b), some (.ref p), some (.ref m), some (.int z), some (.ref q), x5] ∧ H' q = some (.lst vs) ∧ 16 ≤ vs.length ∧ vs.length ≤ 23 ∧ GotP b l (Ov b K) H H' vs, ?_, ?_⟩
    · refine ⟨_, rfl, (by decide), fun De hDe => ?_⟩
      have G2' := G2.skip ok_ hDe (.tup [])
      have qn : q2 ≠ De := ne_of_none hq2 hDe
      have hq2' : upd H2 De (.tup []) q2 = some (.lst vs2) := by rw [upd_ne qn]; exact hq2
      have T2' := T.keep G2'.k
      have sme : SqT K (upd H2 De (.tup [])) De [] := SqT.of upd_same
      refine ⟨.tuple (ks.map .int), .tuple [], .tup T2'.1 (dpAll_ints ks), .tup sme .nil, shaped_tup ks, shaped_tup [], _, rfl, ite2 (fun h => ?_) (fun h => ⟨q2, vs2, _, rfl, hq2', by omega, by omega, G2'⟩)⟩
      generalize upd H2 De (.tup []) = G at G2' hq2' T2'
      have h0 : 0 < ks.length := by
        cases ks with
        | nil => cases h
        | cons a r => exact Nat.zero_lt_succ _
      refine ⟨_, rfl, _, rfl, of_seqL (E := E0) G2'.B T.2 (.inr T2'.1) (by rw [List.length_map]; exact h0) (by rw [List.length_map]; omega) fun y G3 hy B3 k3 _ => ?_⟩
      obtain ⟨c, rfl, hc⟩ := mem_ints hy
      obtain ⟨c0, c1⟩ := hs c hc
      have G3' := G2'.go ok_ B3 k3
      have qb : q2 ≠ b := fun e => by
        obtain ⟨ns, i, g, m, c, hb, _⟩ := G2'.B
        rw [e, hb] at hq2'
        cases hq2'
        simp at hv2
      refine ⟨_, rfl, _, rfl, c, rfl, lg c0 c1, _, rfl, (by show 1 ≤ sizeLine; decide), fun a1 h1 => ⟨_, rfl, (by show 1 ≤ sizeLine; decide), fun a2 h2 => ⟨_, rfl, _, rfl, _, _, rfl, rfl, _, rfl, _, _, rfl, rfl, _, rfl, (by show 1 ≤ sizeLine; decide), fun a3 h3 => ⟨_, rfl, (by show 7 ≤ sizeLine; decide), fun m2 hm2 => ?_⟩⟩⟩⟩
      have N0 : GotP b l (Ov b K) G3 G3 [.str (toString c)] := (GotP.start B3).val (ov_str _)
      have g1 := N0.new ok_ h1 (o := .tup [.int c]) fun nb => ov_tup (ks := [c]) ⟨SqT.of upd_same, nb⟩ (by show 1 ≤ 2000; decide)
      have g2 := g1.new ok_ h2 (o := .lst [.int c]) fun nb => ov_lst (ks := [c]) upd_same nb (by show 1 ≤ 2000; decide)
      have g2' := (g2.val (ov_int (-1 - c))).val (ov_int (c + 1000))
      have T3 := T.keep (G3'.k.trans g2.k)
      have g3 := g2'.new ok_ h3 (o := .lst [.ref p]) fun nb => ov_lstT upd_same nb (T3.keep (Keep.new (Keep.refl b _) h3)) (by omega)
      have g4 := g3.val (ov_tup (T.keep (G3'.k.trans g3.k)) (by omega))
      have gA := g4.skip ok_ hm2 (.lst [.str (toString c), .ref a1, .ref a2, .int (-1 - c), .int (c + 1000), .ref a3, .ref p])
      refine ⟨q2, m2, _, _, rfl, rfl, gA.k _ _ (k3 _ _ hq2' qb) qb, upd_same, (by rw [hv2]; show 16 + 7 ≤ sizeLine; decide), fun q3 hq3 => ?_⟩
      exact ⟨q3, _, _, rfl, upd_same, (by rw [List.length_append, hv2]; show 16 ≤ 16 + 7; decide), (by rw [List.length_append, hv2]; show 16 + 7 ≤ 23; decide), G3'.app ok_ (gA.skip ok_ hq3 _)⟩
    rintro σ H3 ⟨q3, vs3, x5, rfl, hq3, hv3, hv3', G3⟩
    refine ⟨_, rfl, _, rfl, _, rfl, q3, m, vs3, ms, rfl, rfl, hq3, G3.k _ _ hm nmb, (by rw [sizeLine_eq]; omega), fun q4 hq4 => ?_⟩
    have G4 := G3.skip ok_ hq4 (.lst (vs3 ++ ms))
    refine of_seqL (E := E0) G4.B (G3.B.ne hq4) (.inl (SqL.of upd_same)) (by rw [List.length_append]; omega) (by rw [List.length_append]; omega) fun y H5 hy B5 k5 _ => ?_
    refine k y H5 (ok_ ?_ k5) B5 (G4.k.trans k5)
    exact (List.mem_append.mp hy).elim (G4.all y) fun h => ok_ (hmo y h) G4.k
end
end K02

end

section
set_option Elab.async false
set_option linter.all false
set_option maxRecDepth 100000
set_option maxHeartbeats 4000000
namespace K02
open PySem L2 SB
/-- the sign ahead of a key; the text of a row -/
def sgn (up dn : Option Int) (k : Int) : Str := if decide (V.int k = mV up) = true then "+" else if decide (V.int k = mV dn) = true then "-" else ""
def rowText (ls : List Int) (up dn : Option Int) : Str := Txt.join " " (ls.map fun k => sgn up dn k ++ (toString k : Str))
theorem sgn_len (up dn : Option Int) (k : Int) : (sgn up dn k).length ≤ 1 := by
  unfold sgn
  split
  · decide
  · split <;> decide
theorem row_len {ls : List Int} {up dn : Option Int} (L : Lot ls up dn) : (rowText ls up dn).length ≤ 6000 := by
  have h := StrLaws.join_length_le (" " : Str) (ls.map fun k => sgn up dn k ++ (toString k : Str))
  have e : rowText ls up dn = Str.join " " (ls.map fun k => sgn up dn k ++ (toString k : Str)) := StrLaws.glued_eq_join _ _
  rw [e]
  have few := L.few
  have hs : ∀ l : List Int, (∀ k ∈ l, 0 ≤ k ∧ k ≤ 999) → ((l.map fun k => sgn up dn k ++ (toString k : Str)).map (·.length)).sum ≤ l.length * 5 := fun l => by
    induction l with
    | nil => intro _; simp
    | cons a r ih =>
      intro h
      have h1 := h a List.mem_cons_self
      have h2 := ih fun y hy => h y (List.mem_cons_of_mem _ hy)
      have h3 := sgn_len up dn a
      have h4 := key_len h1.1 h1.2
      rw [List.map_cons, List.map_cons, List.sum_cons, List.length_cons, Str.length_append]
      omega
  have := hs ls fun k hk => ⟨L.ks.lo k hk, L.ks.hi k hk⟩
  rw [List.length_map] at h
  have e1 : (" " : Str).length = 1 := by decide
  rw [e1] at h
  omega
def rowRepr (ls : List Int) (up dn : Option Int) : Str := ((Str.empty ++ "Row(") ++ rowText ls up dn) ++ ")"
def spSignD (K : PySem.W.Frag) (C : Addr) : Sp := fun vs H Q _ => ∃ r q up dn k, vs = [.ref r, .int k] ∧ RowAt C H r q up dn ∧ Q (.str (sgn up dn k)) H
def spTextD (K : PySem.W.Frag) (C : Addr) : Sp := fun vs H Q _ => ∃ r q ls up dn, vs = [.ref r] ∧ RowAt C H r q up dn ∧ SqT K H q (ls.map V.int) ∧ Lot ls up dn ∧ ∀ H', Same H H' → Q (.str (rowText ls up dn)) H'
def spRepr (K : PySem.W.Frag) (C : Addr) : Sp := fun vs H Q _ => ∃ r q ls up dn, vs = [.ref r] ∧ RowAt C H r q up dn ∧ SqT K H q (ls.map V.int) ∧ Lot ls up dn ∧ ∀ H', Same H H' → Q (.str (rowRepr ls up dn)) H'
section
variable {P : Program} {w : World} {K : PySem.W.Frag} {mg : Str → Option Value} {base : Heap}
theorem ok_signD {f C : Addr} {fd : FuncData} (F : Fun K "_sign" "Row._sign" s_Row_sign f fd) (T : RowC K C) : FnOk P w K mg base CX0 1 f fd ["self", "key"] (spSignD K C) := by
  refine F.ok sc_Row_sign (fun vs H Q E h => ?_) (fun cdv A outer s H vs Q E hr h => ?_)
  · obtain ⟨r, q, up, dn, k, rfl, _⟩ := h
    rfl
  · obtain ⟨r, q, up, dn, z, rfl, ⟨dx, ha⟩, k⟩ := h
    refine ⟨_, pss_cons (ps_if (pt_cmpR op_eq (pv 1) (pe_fld (pv 0) rfl) (nomark _)) (pss_one (ps_ret pe_str)) pss_nil)
      (pss_cons (ps_if (pt_cmpR op_eq (pv 1) (pe_fld (pv 0) rfl) (nomark _)) (pss_one (ps_ret pe_str)) pss_nil) (pss_one (ps_ret pe_str))), ?_⟩
    refine ⟨_, rfl, _, rfl, r, C, dx, _, _, rfl, ha, T.cl, T.nC, rfl, by cases up <;> rfl, _, rfl, ite2 (fun e => ?_) (fun e => ?_)⟩
    · have h : sgn up dn z = "+" := if_pos e
      rw [h] at k
      exact k
    refine ⟨_, rfl, _, rfl, r, C, dx, _, _, rfl, ha, T.cl, T.nG, rfl, by cases dn <;> rfl, _, rfl, ite2 (fun e' => ?_) (fun e' => ?_)⟩
    · have h : sgn up dn z = "-" := (if_neg e).trans (if_pos e')
      rw [h] at k
      exact k
    · have h : sgn up dn z = "" := (if_neg e).trans (if_neg e')
      rw [h] at k
      exact k
theorem ok_textD {f C fS : Addr} {fd fdS : FuncData} (F : Fun K "text" "Row.text" s_Row_text f fd) (T : RowC K C) (gStr : mg "str" = none) (mS : Meth K C "_sign" fS) (FS : FnOk P w K mg base CX0 1 fS fdS ["self", "key"] (spSignD K C)) (bS : Binds K fdS ["self", "key"] []) :
    FnOk P w K mg base CX0 2 f fd ["self"] (spTextD K C) := by
  refine F.ok sc_Row_text (fun vs H Q E h => ?_) (fun cdv A outer s H vs Q E hr h => ?_)
  · obtain ⟨r, q, ls, up, dn, rfl, _⟩ := h
    rfl
  · obtain ⟨r, q, ls, up, dn, rfl, ⟨dx, ha⟩, hs, L, k⟩ := h
    have nd := sc_Row_text.nd
    refine ⟨_, pss_one (ps_ret (pe_join pe_str (pe_lc (own := [("key", 1)]) (g := gName 1) (tt := tYes) (te := tOp (fun x y H Q => ∃ i j, x = .str i ∧ y = .str j ∧ i.length + j.length ≤ sizeLine ∧ Q (.str (i ++ j)) H) (tMeth C "_sign" (spSignD K C) [] E0 (tVar 0) (tCons (tVar 1) tNil)) (tCB (fun xs H Q => ∃ i, xs = [.int i] ∧ i.natAbs.log2 < 1920 ∧ Q (.str (toString i)) H) (tCons (tVar 1) tNil))) rfl nd
        (pi_tup (pe_fld (pv 0) rfl)) (blkOk_by (N := N_Row_text) (sc := defScope s_Row_text) (by decide +kernel))
        (fun _ _ _ _ _ => pg_name (i := 1) nd rfl (Or.inl rfl)) (fun _ _ _ _ _ => pts_nil) (fun _ _ _ _ _ => pe_op op_add_str (pe_meth (pv 0) T.cl mS FS hr bS .nil pass0 (pa_cons (pv 1) pa_nil)) (pe_callTy call_str_int (by rfl) gStr (by decide +kernel) (pa_cons (pv 1) pa_nil)))))), ?_⟩
    let tx : Int → Str := fun k => sgn up dn k ++ (toString k : Str)
    refine ⟨⟨_, rfl⟩, _, rfl, r, C, dx, _, _, rfl, ha, T.cl, T.nL, rfl, q, rfl, ⟨_, hs⟩, fun D hD => lc_tup (K := K) (a := q) (xs := ls.map V.int) (fun i H' => Same H H' ∧ H' D = some (.lst (((ls.take i).map tx).map V.str)))
      ⟨Same.new (Same.refl H) hD, upd_same⟩ (fun i H' _ p => sqT_same p.1 hs) (fun i x H' hx p => ?_) (fun H1 p => ?_)⟩
    · obtain ⟨z, rfl, hz⟩ := ints_at hx
      obtain ⟨s1, hd⟩ := p
      have hm := List.mem_of_getElem? hz
      have z0 := L.ks.lo z hm
      have z1 := L.ks.hi z hm
      have few := L.few
      have hil : i < ls.length := (List.getElem?_eq_some_iff.mp hz).1
      have kl := key_len z0 z1
      have gl := sgn_len up dn z
      refine ⟨rfl, _, rfl, r, dx, _, rfl, s1 _ _ ha, rfl, _, rfl, r, q, up, dn, z, rfl, ⟨dx, s1 _ _ ha⟩, ?_⟩
      refine ⟨_, rfl, z, rfl, log_lt (by omega), _, _, rfl, rfl, by rw [sizeLine_eq]; omega, _, hd, ?_, (fun c o e => ?_), ?_⟩
      · rw [List.length_map, List.length_map, List.length_take, sizeLine_eq]; omega
      · rw [upd_ne (ne_of_none e hD)]
        exact s1 c o e
      · rw [upd_same, List.take_add_one, hz, List.map_append, List.map_append]; rfl
    · obtain ⟨s1, hd⟩ := p
      rw [List.length_map, List.take_length] at hd
      have few := L.few
      refine ⟨_, D, ls.map tx, rfl, rfl, .inl (SqL.of hd), ?_, k H1 s1⟩
      have hsum : ∀ l : List Int, (∀ k ∈ l, 0 ≤ k ∧ k ≤ 999) → ((l.map tx).map (·.length)).sum ≤ l.length * 5 := fun l => by
        induction l with
        | nil => intro _; simp
        | cons a r ih =>
          intro h
          have h1 := h a List.mem_cons_self
          have h2 := ih fun y hy => h y (List.mem_cons_of_mem _ hy)
          have h3 := sgn_len up dn a
          have h4 := key_len h1.1 h1.2
          have h5 : (tx a).length = (sgn up dn a).length + (toString a : Str).length := Str.length_append _ _
          rw [List.map_cons, List.map_cons, List.sum_cons, List.length_cons]
          omega
      have := hsum ls fun k hk => ⟨L.ks.lo k hk, L.ks.hi k hk⟩
      show ((ls.map tx).map (·.length)).sum + (ls.map tx).length * 1 ≤ 16777216
      rw [List.length_map]
      omega
theorem ok_repr {f C fT : Addr} {fd fdT : FuncData} (F : Fun K "__repr__" "Row.__repr__" s_Row_repr f fd) (T : RowC K C) (mT : Meth K C "text" fT) (FT : FnOk P w K mg base CX0 2 fT fdT ["self"] (spTextD K C)) (bT : Binds K fdT ["self"] []) :
    FnOk P w K mg base CX0 3 f fd ["self"] (spRepr K C) := by
  refine F.ok sc_Row_repr (fun vs H Q E h => ?_) (fun cdv A outer s H vs Q E hr h => ?_)
  · obtain ⟨r, q, ls, up, dn, rfl, _⟩ := h
    rfl
  · obtain ⟨r, q, ls, up, dn, rfl, ⟨dx, ha⟩, hs, L, k⟩ := h
    refine ⟨_, pss_one (ps_ret (pe_joined (.cons pe_str (.cons (pe_fmt (pe_meth0 (pv 0) T.cl mT FT hr bT .nil pass0)) (.cons pe_str .nil))))), ?_⟩
    have hl := row_len L
    refine ⟨_, rfl, (by decide), _, rfl, r, dx, _, rfl, ha, rfl, r, q, ls, up, dn, rfl, ⟨dx, ha⟩, hs, L, fun H' s' => .inl ⟨_, rfl, (by rw [sizeLine_eq]; omega), _, rfl, ?_, _, rfl, ?_, k H' s'⟩⟩
    · rw [Str.length_append]
      show 4 + _ ≤ sizeLine
      rw [sizeLine_eq]; omega
    · rw [Str.length_append, Str.length_append]
      show 4 + _ + 1 ≤ sizeLine
      rw [sizeLine_eq]; omega
end
end K02

end

section
set_option Elab.async false
set_option linter.all false
set_option maxRecDepth 100000
set_option maxHeartbeats 4000000
namespace K02
open PySem L2 SB RZ
theorem alike_cases {K : PySem.W.Frag} {H : Hp} {n : Nat} {x y : V} (h : Alike K H n x y) : Leaf H x y ∨ ∃ m, n = m + 1 ∧
    ((∃ a b xs ys, x = .ref a ∧ y = .ref b ∧ SqL K H a xs ∧ SqL K H b ys ∧ xs.length < sizeLine ∧ Paired (Alike K H m) xs ys) ∨ ∃ a b xs ys, x = .ref a ∧ y = .ref b ∧ SqT K H a xs ∧ SqT K H b ys ∧ xs.length < sizeLine ∧ Paired (Alike K H m) xs ys) := by
  cases n with
  | zero => exact .inl h
  | succ m =>
    rcases h with h | h | h
    · exact .inl h
    · exact .inr ⟨m, rfl, .inl h⟩
    · exact .inr ⟨m, rfl, .inr h⟩
section
variable {P : Program} {w : World} {K : PySem.W.Frag} {mg : Str → Option Value} {base : Heap}
structure TSame (mg : Str → Option Value) : Prop where
  isi : mg "isinstance" = none
  lst : mg "list" = none
  tup : mg "tuple" = none
  len : mg "len" = none
  all : mg "all" = none
  zip : mg "zip" = none
  bool : mg "bool" = none
  int : mg "int" = none
  str : mg "str" = none
theorem ok_same {f : Addr} {fd : FuncData} (F : Fun K "_law_same" "_law_same" s_l_same f fd) (T : TSame mg) (gS : mg "_law_same" = some (.ref f)) (bS : Binds K fd ["_law_found", "_law_due"] []) :
    ∀ n, FnOk P w K mg base CX0 n f fd ["_law_found", "_law_due"] (spSame K n)
  | 0 => ⟨fun _ _ _ _ h => h.elim, fun _ _ _ _ _ _ _ _ _ _ _ _ _ h => h.elim⟩
  | n + 1 => by
    have G := ok_same F T gS bS n
    refine F.ok sc_l_same (fun vs H Q E h => ?_) (fun cdv A outer s H vs Q E hr h => ?_)
    · obtain ⟨x, y, rfl, _⟩ := h
      rfl
    · obtain ⟨x, y, rfl, al, k⟩ := h
      have nd := sc_l_same.nd
      have hu : (A.deeper (PyProof.Rows.envOfC "_law_same" (defScope s_l_same) s.heap.objs.size f cdv)).units + 64 < cLine := hr.units
      refine ⟨_, pss_cons (ps_if (pt_val (pe_callB call_isiT (by rfl) T.isi (by decide +kernel) (pa_cons (pv 1) (pa_cons (pe_tup (pa_cons (pe_bltn (v := .ty "list") (by rfl) T.lst (by decide +kernel) rfl) (pa_cons (pe_bltn (v := .ty "tuple") (by rfl) T.tup (by decide +kernel) rfl) pa_nil))) pa_nil))))
          (pss_cons (ps_if (PW.pt (pw_or (pt_cmpR op_ne (pe_callB call_isi (by rfl) T.isi (by decide +kernel) (pa_cons (pv 0) (pa_cons (pe_bltn (v := .ty "list") (by rfl) T.lst (by decide +kernel) rfl) pa_nil))) (pe_callB call_isi (by rfl) T.isi (by decide +kernel) (pa_cons (pv 1) (pa_cons (pe_bltn (v := .ty "list") (by rfl) T.lst (by decide +kernel) rfl) pa_nil))) (nomark _))
              (pw_or1 (pt_cmpR op_ne (pe_callB call_isi (by rfl) T.isi (by decide +kernel) (pa_cons (pv 0) (pa_cons (pe_bltn (v := .ty "tuple") (by rfl) T.tup (by decide +kernel) rfl) pa_nil))) (pe_callB call_isi (by rfl) T.isi (by decide +kernel) (pa_cons (pv 1) (pa_cons (pe_bltn (v := .ty "tuple") (by rfl) T.tup (by decide +kernel) rfl) pa_nil))) (nomark _)))))
            (pss_one (ps_ret pe_bl)) pss_nil)
          (pss_one (ps_ret (pe_and (pe_cmpR op_eq (pe_callB call_len_seq (by rfl) T.len PySem.boot_len (pa_cons (pv 0) pa_nil)) (pe_callB call_len_seq (by rfl) T.len PySem.boot_len (pa_cons (pv 1) pa_nil)) (nomark _))
            (pe_one (pe_callB (cr_all rfl) (by rfl) T.all (by decide +kernel) (pa_cons (pe_lc (own := [("_law_p", 2), ("_law_q", 3)]) (g := gTup K 2 (gCons (gName 2) (gCons (gName 3) gNil))) (tt := tYes) (te := tCall (spSame K n) [] E0 (tCons (tVar 2) (tCons (tVar 3) tNil))) rfl nd
              (pi_zipA (by rfl) T.zip (pa_cons (pv 0) (pa_cons (pv 1) pa_nil))) (blkOk_by (N := ["_law_found", "_law_due", "_law_p", "_law_q"]) (sc := defScope s_l_same) (by decide +kernel))
              (fun _ _ _ _ _ => pg_tup rfl (pgs_cons (pg_name (i := 2) nd rfl (Or.inl rfl)) (pgs_cons (pg_name (i := 3) nd rfl (Or.inl rfl)) pgs_nil))) (fun _ _ _ _ _ => pts_nil)
              (fun _ _ _ _ _ => pe_call G hr (by rfl) gS F.kp bS .nil pass0 (pa_cons (pv 2) (pa_cons (pv 3) pa_nil)))) pa_nil)))))))
          pss_nil)
        (pss_cons (ps_if (pt_val (pe_callB call_isiT (by rfl) T.isi (by decide +kernel) (pa_cons (pv 0) (pa_cons (pe_tup (pa_cons (pe_bltn (v := .ty "list") (by rfl) T.lst (by decide +kernel) rfl) (pa_cons (pe_bltn (v := .ty "tuple") (by rfl) T.tup (by decide +kernel) rfl) pa_nil))) pa_nil)))) (pss_one (ps_ret pe_bl)) pss_nil)
        (pss_cons (ps_if (PW.pt (pw_or (pt_cmpR op_isN (pv 1) pe_non (nomark _)) (pw_or1 (pt_cmpR op_isN (pv 0) pe_non (nomark _))))) (pss_one (ps_ret (pe_and (pe_cmpR op_isN (pv 1) pe_non (nomark _)) (pe_one (pe_cmpR op_isN (pv 0) pe_non (nomark _)))))) pss_nil)
        (pss_cons (ps_if (PW.pt (pw_or (pt_val (pe_callB call_isi (by rfl) T.isi (by decide +kernel) (pa_cons (pv 1) (pa_cons (pe_bltn (v := .ty "bool") (by rfl) T.bool (by decide +kernel) rfl) pa_nil)))) (pw_or1 (pt_val (pe_callB call_isi (by rfl) T.isi (by decide +kernel) (pa_cons (pv 0) (pa_cons (pe_bltn (v := .ty "bool") (by rfl) T.bool (by decide +kernel) rfl) pa_nil)))))))
            (pss_one (ps_ret (pe_and (pe_callB call_isi (by rfl) T.isi (by decide +kernel) (pa_cons (pv 1) (pa_cons (pe_bltn (v := .ty "bool") (by rfl) T.bool (by decide +kernel) rfl) pa_nil))) (pe_and (pe_callB call_isi (by rfl) T.isi (by decide +kernel) (pa_cons (pv 0) (pa_cons (pe_bltn (v := .ty "bool") (by rfl) T.bool (by decide +kernel) rfl) pa_nil))) (pe_one (pe_cmpR op_eq (pv 0) (pv 1) (nomark _))))))) pss_nil)
        (pss_cons (ps_if (PW.pt (pw_or (pt_val (pe_callB call_isi (by rfl) T.isi (by decide +kernel) (pa_cons (pv 1) (pa_cons (pe_bltn (v := .ty "int") (by rfl) T.int (by decide +kernel) rfl) pa_nil)))) (pw_or1 (pt_val (pe_callB call_isi (by rfl) T.isi (by decide +kernel) (pa_cons (pv 0) (pa_cons (pe_bltn (v := .ty "int") (by rfl) T.int (by decide +kernel) rfl) pa_nil)))))))
            (pss_one (ps_ret (pe_and (pe_callB call_isi (by rfl) T.isi (by decide +kernel) (pa_cons (pv 1) (pa_cons (pe_bltn (v := .ty "int") (by rfl) T.int (by decide +kernel) rfl) pa_nil))) (pe_and (pe_callB call_isi (by rfl) T.isi (by decide +kernel) (pa_cons (pv 0) (pa_cons (pe_bltn (v := .ty "int") (by rfl) T.int (by decide +kernel) rfl) pa_nil))) (pe_one (pe_cmpR op_eq (pv 0) (pv 1) (nomark _))))))) pss_nil)
        (pss_cons (ps_if (PW.pt (pw_or (pt_val (pe_callB call_isi (by rfl) T.isi (by decide +kernel) (pa_cons (pv 1) (pa_cons (pe_bltn (v := .ty "str") (by rfl) T.str (by decide +kernel) rfl) pa_nil)))) (pw_or1 (pt_val (pe_callB call_isi (by rfl) T.isi (by decide +kernel) (pa_cons (pv 0) (pa_cons (pe_bltn (v := .ty "str") (by rfl) T.str (by decide +kernel) rfl) pa_nil)))))))
            (pss_one (ps_ret (pe_and (pe_callB call_isi (by rfl) T.isi (by decide +kernel) (pa_cons (pv 1) (pa_cons (pe_bltn (v := .ty "str") (by rfl) T.str (by decide +kernel) rfl) pa_nil))) (pe_and (pe_callB call_isi (by rfl) T.isi (by decide +kernel) (pa_cons (pv 0) (pa_cons (pe_bltn (v := .ty "str") (by rfl) T.str (by decide +kernel) rfl) pa_nil))) (pe_one (pe_cmpR op_eq (pv 0) (pv 1) (nomark _))))))) pss_nil)
        (pss_one (ps_ret (pe_cmpR (op_eqV hu) (pv 0) (pv 1) (nomark _))))))))), ?_⟩
      have same0 : Same H H := Same.refl H
      have atoms : ∀ {U : String}, x = y → TyX K H x (.type U) → kitB U "list" = some false → kitB U "tuple" = some false → True := fun _ _ _ _ => trivial
      rcases alike_cases al with (⟨rfl, fl⟩ | ⟨a, kvs, rfl, rfl, ha, hk⟩) | ⟨m, rfl, ⟨a, b, xs, ys, rfl, rfl, h1, h2, hz, hp⟩ | ⟨a, b, xs, ys, rfl, rfl, h1, h2, hz, hp⟩⟩
      · cases x with
        | non =>
          have ty : ∀ H', TyX K H' V.non (.type "NoneType") := fun H' => .base .non
          refine rd_isLT (i := 1) rfl (ty _) (lt_of (b := false) (c := false) (by decide +kernel) (by decide +kernel)) fun H1 s1 => ⟨_, rfl, iteF ?_⟩
          refine rd_isLT (i := 0) rfl (ty _) (lt_of (b := false) (c := false) (by decide +kernel) (by decide +kernel)) fun H2 s2 => ⟨_, rfl, iteF ?_⟩
          refine ⟨_, rfl, rfl, _, rfl, iteT (iteT ?_)⟩
          exact ⟨_, rfl, rfl, _, rfl, iteT ⟨_, rfl, rfl, k _ (s1.trans s2)⟩⟩
        | bl q =>
          have ty : ∀ H', TyX K H' (V.bl q) (.type "bool") := fun H' => .base (.bl q)
          refine rd_isLT (i := 1) rfl (ty _) (lt_of (b := false) (c := false) (by decide +kernel) (by decide +kernel)) fun H1 s1 => ⟨_, rfl, iteF ?_⟩
          refine rd_isLT (i := 0) rfl (ty _) (lt_of (b := false) (c := false) (by decide +kernel) (by decide +kernel)) fun H2 s2 => ⟨_, rfl, iteF ?_⟩
          refine ⟨_, rfl, rfl, _, rfl, iteF ⟨_, rfl, rfl, _, rfl, iteF ?_⟩⟩
          refine rd_is (i := 1) rfl (ty _) (by decide +kernel) ⟨_, rfl, iteT (iteT ?_)⟩
          refine rd_is (i := 1) rfl (ty _) (by decide +kernel) ⟨_, rfl, iteT (rd_is (i := 0) rfl (ty _) (by decide +kernel) ⟨_, rfl, iteT ?_⟩)⟩
          refine ⟨_, rfl, _, rfl, by cases q <;> rfl, ?_⟩
          rw [decide_eq_true rfl]
          exact k _ (s1.trans s2)
        | int q =>
          have ty : ∀ H', TyX K H' (V.int q) (.type "int") := fun H' => .base (.int q)
          refine rd_isLT (i := 1) rfl (ty _) (lt_of (b := false) (c := false) (by decide +kernel) (by decide +kernel)) fun H1 s1 => ⟨_, rfl, iteF ?_⟩
          refine rd_isLT (i := 0) rfl (ty _) (lt_of (b := false) (c := false) (by decide +kernel) (by decide +kernel)) fun H2 s2 => ⟨_, rfl, iteF ?_⟩
          refine ⟨_, rfl, rfl, _, rfl, iteF ⟨_, rfl, rfl, _, rfl, iteF ?_⟩⟩
          refine rd_is (i := 1) rfl (ty _) (by decide +kernel) ⟨_, rfl, iteF (rd_is (i := 0) rfl (ty _) (by decide +kernel) ⟨_, rfl, iteF ?_⟩)⟩
          refine rd_is (i := 1) rfl (ty _) (by decide +kernel) ⟨_, rfl, iteT (iteT ?_)⟩
          refine rd_is (i := 1) rfl (ty _) (by decide +kernel) ⟨_, rfl, iteT (rd_is (i := 0) rfl (ty _) (by decide +kernel) ⟨_, rfl, iteT ?_⟩)⟩
          refine ⟨_, rfl, _, rfl, rfl, ?_⟩
          rw [decide_eq_true rfl]
          exact k _ (s1.trans s2)
        | str q =>
          have ty : ∀ H', TyX K H' (V.str q) (.type "str") := fun H' => .base (.str q)
          refine rd_isLT (i := 1) rfl (ty _) (lt_of (b := false) (c := false) (by decide +kernel) (by decide +kernel)) fun H1 s1 => ⟨_, rfl, iteF ?_⟩
          refine rd_isLT (i := 0) rfl (ty _) (lt_of (b := false) (c := false) (by decide +kernel) (by decide +kernel)) fun H2 s2 => ⟨_, rfl, iteF ?_⟩
          refine ⟨_, rfl, rfl, _, rfl, iteF ⟨_, rfl, rfl, _, rfl, iteF ?_⟩⟩
          refine rd_is (i := 1) rfl (ty _) (by decide +kernel) ⟨_, rfl, iteF (rd_is (i := 0) rfl (ty _) (by decide +kernel) ⟨_, rfl, iteF ?_⟩)⟩
          refine rd_is (i := 1) rfl (ty _) (by decide +kernel) ⟨_, rfl, iteF (rd_is (i := 0) rfl (ty _) (by decide +kernel) ⟨_, rfl, iteF ?_⟩)⟩
          refine rd_is (i := 1) rfl (ty _) (by decide +kernel) ⟨_, rfl, iteT (iteT ?_)⟩
          refine rd_is (i := 1) rfl (ty _) (by decide +kernel) ⟨_, rfl, iteT (rd_is (i := 0) rfl (ty _) (by decide +kernel) ⟨_, rfl, iteT ?_⟩)⟩
          refine ⟨_, rfl, _, rfl, rfl, ?_⟩
          rw [decide_eq_true rfl]
          exact k _ (s1.trans s2)
        | byt q => cases fl
        | flt q => cases fl
        | ref q => cases fl
        | ty q => cases fl
      · have ty : ∀ H', Same H H' → TyX K H' (V.ref a) (.type "dict") := fun H' ss => .base (.dK (ss _ _ ha))
        refine rd_isLT (i := 1) rfl (ty _ same0) (lt_of (b := false) (c := false) (by decide +kernel) (by decide +kernel)) fun H1 s1 => ⟨_, rfl, iteF ?_⟩
        refine rd_isLT (i := 0) rfl (ty _ s1) (lt_of (b := false) (c := false) (by decide +kernel) (by decide +kernel)) fun H2 s2 => ⟨_, rfl, iteF ?_⟩
        have t2 := ty _ (s1.trans s2)
        refine ⟨_, rfl, rfl, _, rfl, iteF ⟨_, rfl, rfl, _, rfl, iteF ?_⟩⟩
        refine rd_is (i := 1) rfl t2 (by decide +kernel) ⟨_, rfl, iteF (rd_is (i := 0) rfl t2 (by decide +kernel) ⟨_, rfl, iteF ?_⟩)⟩
        refine rd_is (i := 1) rfl t2 (by decide +kernel) ⟨_, rfl, iteF (rd_is (i := 0) rfl t2 (by decide +kernel) ⟨_, rfl, iteF ?_⟩)⟩
        refine rd_is (i := 1) rfl t2 (by decide +kernel) ⟨_, rfl, iteF (rd_is (i := 0) rfl t2 (by decide +kernel) ⟨_, rfl, iteF ?_⟩)⟩
        have ha2 := (s1.trans s2) _ _ ha
        exact ⟨_, rfl, _, rfl, 1, by decide, .inr ⟨a, a, kvs, kvs, rfl, rfl, ha2, ha2, rfl, fun p hp => ⟨_, (hk p hp).1, .inl ⟨rfl, (hk p hp).2⟩⟩⟩, k _ (s1.trans s2)⟩
      · refine rd_isLT (i := 1) rfl (ty_list h2) (lt_of (b := true) (c := false) (by decide +kernel) (by decide +kernel)) fun H1 s1 => ⟨_, rfl, iteT ?_⟩
        have g1 := (s1.seq h1)
        have g2 := (s1.seq h2)
        refine rd_is (b := true) (i := 0) rfl (ty_list g1) (by decide +kernel) (rd_is (b := true) (i := 1) rfl (ty_list g2) (by decide +kernel) ⟨rfl, _, rfl, iteNS rfl ?_⟩)
        refine rd_is (b := false) (i := 0) rfl (ty_list g1) (by decide +kernel) (rd_is (b := false) (i := 1) rfl (ty_list g2) (by decide +kernel) ⟨rfl, _, rfl, iteNS rfl ?_⟩)
        have el := paired_len hp
        refine ⟨_, rfl, a, xs, rfl, .inl g1, _, rfl, b, ys, rfl, .inl g2, rfl, true, congrArg V.bl (decide_eq_true (by rw [el])), iteT ?_⟩
        refine ⟨_, rfl, _, rfl, a, b, xs, ys, rfl, .inl ⟨g1, g2, fun D hD => ?_⟩⟩
        refine lc_walk (n := xs.length) (fun i H' => Same H1 H' ∧ H' D = some (.lst ((List.replicate i true).map V.bl))) ⟨Same.new (Same.refl H1) hD, upd_same⟩ (fun i H' hi p => ?_) (fun H' p => ?_) (fun i v H' H'' hi p yl => ?_) (fun H' p => ?_)
        · exact ⟨xs, ys, xs[i], ys[i]'(by omega), (p.1.seq g1), (p.1.seq g2), List.getElem?_eq_getElem hi, List.getElem?_eq_getElem (by omega)⟩
        · exact ⟨xs, ys, (p.1.seq g1), (p.1.seq g2), .inl (Nat.le_refl _)⟩
        · obtain ⟨T', u, v', rfl, hT, rfl, q1, q2⟩ := yl
          have e1 := q1 xs (p.1.seq g1)
          have e2 := q2 ys (p.1.seq g2)
          have s3 : Same H' (upd H' T' (.tup [u, v'])) := Same.new (Same.refl H') hT
          refine ⟨T', [u, v'], rfl, SqT.of upd_same, rfl, u, [v'], rfl, v', [], rfl, rfl, rfl, ?_⟩
          refine ⟨_, rfl, _, rfl, u, v', rfl, (paired_at hp e1 e2).same ((s1.trans p.1).trans s3), fun H4 s4 => ?_⟩
          refine ⟨_, s4 _ _ (s3 _ _ p.2), by rw [List.length_map, List.length_replicate]; omega, (fun c o e => ?_), ?_⟩
          · have e' := s4 _ _ (s3 _ _ (p.1 _ _ e))
            rw [upd_ne (ne_of_none e hD)]
            exact e'
          · rw [upd_same, List.replicate_succ', List.map_append]
            rfl
        · refine ⟨D, List.replicate xs.length true, rfl, SqL.of p.2, ?_⟩
          have e : (List.replicate xs.length true).all id = true := by simp
          rw [e]
          exact k _ (s1.trans p.1)
      · refine rd_isLT (i := 1) rfl (ty_tup h2) (lt_of (b := false) (c := true) (by decide +kernel) (by decide +kernel)) fun H1 s1 => ⟨_, rfl, iteT ?_⟩
        have g1 := (sqT_same s1 h1)
        have g2 := (sqT_same s1 h2)
        refine rd_is (b := false) (i := 0) rfl (ty_tup g1) (by decide +kernel) (rd_is (b := false) (i := 1) rfl (ty_tup g2) (by decide +kernel) ⟨rfl, _, rfl, iteNS rfl ?_⟩)
        refine rd_is (b := true) (i := 0) rfl (ty_tup g1) (by decide +kernel) (rd_is (b := true) (i := 1) rfl (ty_tup g2) (by decide +kernel) ⟨rfl, _, rfl, iteNS rfl ?_⟩)
        have el := paired_len hp
        refine ⟨_, rfl, a, xs, rfl, .inr g1, _, rfl, b, ys, rfl, .inr g2, rfl, true, congrArg V.bl (decide_eq_true (by rw [el])), iteT ?_⟩
        refine ⟨_, rfl, _, rfl, a, b, xs, ys, rfl, .inr ⟨g1, g2, fun D hD => ?_⟩⟩
        refine lc_walk (n := xs.length) (fun i H' => Same H1 H' ∧ H' D = some (.lst ((List.replicate i true).map V.bl))) ⟨Same.new (Same.refl H1) hD, upd_same⟩ (fun i H' hi p => ?_) (fun H' p => ?_) (fun i v H' H'' hi p yl => ?_) (fun H' p => ?_)
        · exact ⟨xs, ys, xs[i], ys[i]'(by omega), (sqT_same p.1 g1), (sqT_same p.1 g2), List.getElem?_eq_getElem hi, List.getElem?_eq_getElem (by omega)⟩
        · exact ⟨xs, ys, (sqT_same p.1 g1), (sqT_same p.1 g2), .inl (Nat.le_refl _)⟩
        · obtain ⟨T', u, v', rfl, hT, rfl, q1, q2⟩ := yl
          have e1 := q1 xs (sqT_same p.1 g1)
          have e2 := q2 ys (sqT_same p.1 g2)
          have s3 : Same H' (upd H' T' (.tup [u, v'])) := Same.new (Same.refl H') hT
          refine ⟨T', [u, v'], rfl, SqT.of upd_same, rfl, u, [v'], rfl, v', [], rfl, rfl, rfl, ?_⟩
          refine ⟨_, rfl, _, rfl, u, v', rfl, (paired_at hp e1 e2).same ((s1.trans p.1).trans s3), fun H4 s4 => ?_⟩
          refine ⟨_, s4 _ _ (s3 _ _ p.2), by rw [List.length_map, List.length_replicate]; omega, (fun c o e => ?_), ?_⟩
          · have e' := s4 _ _ (s3 _ _ (p.1 _ _ e))
            rw [upd_ne (ne_of_none e hD)]
            exact e'
          · rw [upd_same, List.replicate_succ', List.map_append]
            rfl
        · refine ⟨D, List.replicate xs.length true, rfl, SqL.of p.2, ?_⟩
          have e : (List.replicate xs.length true).all id = true := by simp
          rw [e]
          exact k _ (s1.trans p.1)
end
end K02

end

section
set_option Elab.async false
set_option linter.all false
set_option maxRecDepth 100000
set_option maxHeartbeats 4000000
/-! tuple(range(a, b, c)). -/
namespace SB
open PySem PySem.Spec PyProof.Rows L2
def rg3 (a c : Int) (n : Nat) : List Int := (List.range n).map fun m : Nat => a + (m : Int) * c
def tTupRg3 (ta : TA) : TE := fun σ H Q => ta σ H fun vs H1 => ∃ (i j c : Int) (n : Nat), vs = [.int i, .int j, .int c] ∧ RgC i j c n ∧ n ≤ 2 ^ 24 ∧ ∀ q, H1 q = none → Q (.ref q) (upd H1 q (.tup ((rg3 i c n).map V.int)))
theorem vals_rg3 {a c : Int} {n : Nat} {acc : Array Value} (h : ItemsOf (fun i v => ∃ t, v = .int (a + i * c) t) acc n) : Vals ((rg3 a c n).map V.int) acc.toList := by
  have e : acc.toList.length = n := by rw [Array.length_toList]; exact h.1
  unfold rg3
  rw [List.map_map, ← e]
  refine vals_of_get acc.toList _ fun j u hj => ?_
  obtain ⟨t, rfl⟩ := h.2 j u (by rw [← hj, Array.getElem?_toList])
  exact ⟨t, rfl⟩
section
variable {X : Cx} {a b c : Expr} {ta : TA}
theorem pe_tupRg3 {p p2 pos pos2 : Pos} (hc : X.calm = true) (hg : Gl X "tuple") (hm : X.mg "tuple" = none) (hg2 : Gl X "range") (hm2 : X.mg "range" = none) (ha : PA X [a, b, c] ta)
    (na : starEach [.Call (.Name "range" p2) [a, b, c] [] pos2] X.env = (false, eval (.Call (.Name "range" p2) [a, b, c] [] pos2) X.env) :: starEach [] X.env := by rfl)
    (hs : starEach [a, b, c] X.env = (false, eval a X.env) :: starEach [b, c] X.env := by rfl) (hpl : (backTo pos2 (starEach [b, c] X.env)).any (·.1) = false := by rfl) :
    PE X (.Call (.Name "tuple" p) [.Call (.Name "range" p2) [a, b, c] [] pos2] [] pos) (tTupRg3 ta) := by
  refine ⟨fun pins s σ H Q I h => ?_⟩
  refine Call_ (ld_blt I hg hm boot_tuple (PyProof.Rows.callWith_type1 (args_cons ?_ na) na))
  refine Call_ (ld_blt I hg2 hm2 boot_range (PyProof.Rows.callWith_type1 (thn (ha.run pos2 pins s σ H _ I h) fun us s1 ⟨vs, H1, I1, r1, q1⟩ => ?_) hs hpl))
  obtain ⟨i, j, k, n, e, ⟨c0, c1, c2, c3⟩, hn, q⟩ := q1
  subst e
  cases r1 with
  | cons r rr =>
    cases rr with
    | cons r' rr =>
      cases rr with
      | cons r'' rr =>
        cases rr
        obtain ⟨t, rfl⟩ := r
        obtain ⟨t', rfl⟩ := r'
        obtain ⟨t'', rfl⟩ := r''
        refine call_range_3 c0 ?_ (.inl (PyProof.noPylong_small c1))
        have I2 : Inv X pins σ H1 { s1 with heap := s1.heap.push { cls := .type "range", data := .fields #[.int i t, .int j t', .int k t''] } } := I1.kept (t' := s1.toks) fun b o e => Heap.get?_push_of_some _ e
        refine args_nil ?_
        refine call_tuple_range (n := n) (I2.ok.hd hc) (IsRange.new ..) c2 c3 hn fun h' tk acc hk hi => ?_
        have I3 : Inv X pins σ H1 { s1 with heap := h', toks := tk } := I2.kept hk
        refine ⟨.ref h'.objs.size, upd H1 h'.objs.size (.tup ((rg3 i k n).map V.int)), I3.laid (t' := tk) (fun c o e => Heap.get?_push_of_some _ e) (Nat.le_refl _) (show ObjOk X.prog X.w _ _ _ (.tup ((rg3 i k n).map V.int)) from ⟨?_, acc.toList, vals_rg3 hi, ?_⟩), rfl, q _ (I3.hok.fresh (Nat.le_refl _))⟩
        · unfold rg3
          rw [List.length_map, List.length_map, List.length_range, sizeLine_eq]; omega
        · rw [Array.toArray_toList]; exact IsTup.new _ _
end
theorem rg_look : ∀ (d : Fin 600) (c : Fin 3), (Builtin.Range.small (d.val : Int) 1000 ((c.val : Int) + 1) && decide (100 ≤ Builtin.Range.rangeSize (d.val : Int) 1000 ((c.val : Int) + 1)) && decide (Builtin.Range.rangeSize (d.val : Int) 1000 ((c.val : Int) + 1) ≤ 1000)) = true := by decide +kernel
theorem rg_small {d e : Int} (d0 : 0 ≤ d) (d1 : d < 600) (e0 : 0 ≤ e) (e1 : e < 3) : ∃ n : Nat, RgC d 1000 (1 + e) n ∧ 100 ≤ n ∧ n ≤ 1000 ∧ (n : Int) = (1000 - d - 1) / (1 + e) + 1 := by
  have h := rg_look ⟨d.toNat, by omega⟩ ⟨e.toNat, by omega⟩
  simp only [Bool.and_eq_true, decide_eq_true_eq] at h
  rw [show ((d.toNat : Nat) : Int) = d by omega, show ((e.toNat : Nat) : Int) + 1 = 1 + e by omega] at h
  obtain ⟨⟨h1, h2⟩, h3⟩ := h
  refine ⟨(Builtin.Range.rangeSize d 1000 (1 + e)).toNat, ⟨by omega, by omega, h1, by omega⟩, by omega, by omega, ?_⟩
  have e4 : Builtin.Range.rangeSize d 1000 (1 + e) = (1000 - d - 1) / (1 + e) + 1 := by
    unfold Builtin.Range.rangeSize
    rw [if_pos (by omega), if_pos (by omega)]
  omega
theorem rg_len (a c : Int) (n : Nat) : (rg3 a c n).length = n := by unfold rg3; rw [List.length_map, List.length_range]
theorem rg_kset {d c : Int} {n : Nat} (d0 : 0 ≤ d) (d1 : d < 1000) (c0 : 0 < c) (hn : (n : Int) = (1000 - d - 1) / c + 1) : KSet (rg3 d c n) where
  up := by
    unfold rg3
    rw [List.pairwise_map]
    refine List.pairwise_lt_range.imp fun {a b} h => ?_
    have : (a : Int) * c < (b : Int) * c := Int.mul_lt_mul_of_pos_right (by omega) c0
    omega
  lo k hk := by
    obtain ⟨m, hm, rfl⟩ := List.mem_map.mp hk
    have : 0 ≤ (m : Int) * c := Int.mul_nonneg (by omega) (by omega)
    omega
  hi k hk := by
    obtain ⟨m, hm, rfl⟩ := List.mem_map.mp hk
    have hm' := List.mem_range.mp hm
    have h1 : (m : Int) ≤ (1000 - d - 1) / c := by omega
    have h2 : (m : Int) * c ≤ (1000 - d - 1) / c * c := Int.mul_le_mul_of_nonneg_right h1 (by omega)
    have h3 : (1000 - d - 1) / c * c ≤ 1000 - d - 1 := Int.ediv_mul_le _ (by omega)
    omega
end SB

end

section
set_option Elab.async false
set_option linter.all false
set_option maxRecDepth 100000
set_option maxHeartbeats 8000000
namespace K02
open PySem L2 SB
def gF {α : Type} (us ws : List α) : List α := match us, ws with
  | [], [a, b] => [b, a]
  | _, _ => []
structure Defs (P : Program) (w : World) (K : PySem.W.Frag) (mg : Str → Option Value) (base : Heap) (C : Addr) : Prop where
  bg : ∃ f fd, mg "_law_bag" = some (.ref f) ∧ PySem.W.keepIn K (.ref f) = true ∧ Binds K fd ["_law_script"] [] ∧ FnOk P w K mg base CX0 1 f fd ["_law_script"] (spBagL K)
  dr : ∃ f fd, mg "_law_draw" = some (.ref f) ∧ PySem.W.keepIn K (.ref f) = true ∧ Binds K fd ["_law_bag_here", "_law_top"] [] ∧ FnOk P w K mg base CX0 1 f fd ["_law_bag_here", "_law_top"] spDrawL
  of : ∃ f fd, mg "_law_of" = some (.ref f) ∧ PySem.W.keepIn K (.ref f) = true ∧ Binds K fd ["_law_bag_here", "_law_some"] [] ∧ FnOk P w K mg base CX0 2 f fd ["_law_bag_here", "_law_some"] (spOfL K)
  ky : ∃ f fd, mg "_law_keys" = some (.ref f) ∧ PySem.W.keepIn K (.ref f) = true ∧ Binds K fd ["_law_bag_here", "_law_many"] [] ∧ FnOk P w K mg base CX0 3 f fd ["_law_bag_here", "_law_many"] (spKeys K)
  st : ∃ f fd, mg "_law_stranger" = some (.ref f) ∧ PySem.W.keepIn K (.ref f) = true ∧ Binds K fd ["_law_bag_here", "_law_ks"] [] ∧ FnOk P w K mg base CX0 3 f fd ["_law_bag_here", "_law_ks"] (spStr K)
  lk : ∃ f fd, mg "_law_is_key" = some (.ref f) ∧ PySem.W.keepIn K (.ref f) = true ∧ Binds K fd ["_law_v"] [] ∧ FnOk P w K mg base CX0 1 f fd ["_law_v"] (spKey K)
  ls : ∃ f fd, mg "_law_is_set" = some (.ref f) ∧ PySem.W.keepIn K (.ref f) = true ∧ Binds K fd ["_law_v"] [] ∧ FnOk P w K mg base CX0 2 f fd ["_law_v"] (spSet K)
  ln : ∃ f fd, mg "_law_is_name" = some (.ref f) ∧ PySem.W.keepIn K (.ref f) = true ∧ Binds K fd ["_law_v"] [] ∧ FnOk P w K mg base CX0 1 f fd ["_law_v"] (spName K)
  wo : ∃ f fd, mg "_law_word" = some (.ref f) ∧ PySem.W.keepIn K (.ref f) = true ∧ Binds K fd ["_law_bag_here"] [] ∧ FnOk P w K mg base CX0 3 f fd ["_law_bag_here"] (spWord K)
  nu : ∃ f fd, mg "_law_number" = some (.ref f) ∧ PySem.W.keepIn K (.ref f) = true ∧ Binds K fd ["_law_bag_here"] [] ∧ FnOk P w K mg base CX0 3 f fd ["_law_bag_here"] (spNumber K)
  tu : ∃ f fd, mg "_law_tuple" = some (.ref f) ∧ PySem.W.keepIn K (.ref f) = true ∧ Binds K fd ["_law_bag_here", "_law_ks"] [] ∧ FnOk P w K mg base CX0 7 f fd ["_law_bag_here", "_law_ks"] (spTuple K C)
  od : ∃ f fd, mg "_law_odd" = some (.ref f) ∧ PySem.W.keepIn K (.ref f) = true ∧ Binds K fd ["_law_bag_here", "_law_ks", "_law_more"] [] ∧ FnOk P w K mg base CX0 4 f fd ["_law_bag_here", "_law_ks", "_law_more"] (spOdd K)
  sr : ∃ f fd, mg "_law_stretch" = some (.ref f) ∧ PySem.W.keepIn K (.ref f) = true ∧ Binds K fd ["_law_ks", "_law_p", "_law_q", "_law_named"] [] ∧ FnOk P w K mg base CX0 6 f fd ["_law_ks", "_law_p", "_law_q", "_law_named"] (spStre K)
  du : ∃ f fd, mg "_law_stretch_due" = some (.ref f) ∧ PySem.W.keepIn K (.ref f) = true ∧ Binds K fd ["_law_ks", "_law_p", "_law_q"] [] ∧ FnOk P w K mg base CX0 2 f fd ["_law_ks", "_law_p", "_law_q"] (spDue K)
  la : ∃ f fd, mg "_law_near" = some (.ref f) ∧ PySem.W.keepIn K (.ref f) = true ∧ Binds K fd ["_law_ks", "_law_p"] [] ∧ FnOk P w K mg base CX0 1 f fd ["_law_ks", "_law_p"] (spNear K)
  ju : ∃ f fd, mg "_law_judged" = some (.ref f) ∧ PySem.W.keepIn K (.ref f) = true ∧ Binds K fd ["_law_v", "_law_named"] [] ∧ FnOk P w K mg base CX0 5 f fd ["_law_v", "_law_named"] (spJudge K)
  sm : ∃ f fd, mg "_law_same" = some (.ref f) ∧ PySem.W.keepIn K (.ref f) = true ∧ Binds K fd ["_law_found", "_law_due"] [] ∧ FnOk P w K mg base CX0 4 f fd ["_law_found", "_law_due"] (spSame K 4)
  ne : ∃ f fd, mg "neighbours_of" = some (.ref f) ∧ PySem.W.keepIn K (.ref f) = true ∧ Binds K fd ["living", "key"] [] ∧ FnOk P w K mg base CX0 1 f fd ["living", "key"] (spNear K) ∧ KBinds K fd ["living", "key"] ["key", "living"] gF gF
  T : RowC K C

  tyC : ∀ H r q, RowAt C H r q none none → TyX K H (.ref r) (.ref C)
  cint : PySem.W.kitOne K (.ref C) (.type "int") = some false
  cbool : PySem.W.kitOne K (.ref C) (.type "bool") = some false
  ctup : PySem.W.kitOne K (.ref C) (.type "tuple") = some false
  cstr : PySem.W.kitOne K (.ref C) (.type "str") = some false
  rep : ∃ f fd, PySem.W.findIn K (.ref C) "__repr__" = some (some (.ref f)) ∧ PySem.W.isFn K (.ref f) = true ∧ Binds K fd ["self"] [] ∧ FnOk P w K mg base CX0 3 f fd ["self"] (spRepr K C)
  lst : mg "list" = none
  len : mg "len" = none
  tup : mg "tuple" = none
  rng : mg "range" = none
  rpr : mg "repr" = none
def spLaw (K : PySem.W.Frag) : Sp := fun vs H Q _ => ∃ (a : Addr) (ns : List Int), vs = [.ref a] ∧ SqL K H a (ns.map V.int) ∧ ns.length ≤ 63 ∧ ∀ H', Q (.bl true) H'
def sg (a b : Addr) (x2 x3 x4 x5 x6 x7 x8 x9 x10 x11 x12 x13 x14 x15 x16 x17 : Option V) : L2.St := [some (.ref a), some (.ref b), x2, x3, x4, x5, x6, x7, x8, x9, x10, x11, x12, x13, x14, x15, x16, x17]
section
variable {K : PySem.W.Frag} {H : Hp}
theorem al_flatT {t u : Addr} {us : List V} {n : Nat} (h1 : SqT K H t us) (h2 : SqT K H u us) (hf : ∀ x ∈ us, flatV x = true) (hz : us.length ≤ 2000) : Alike K H (n + 1) (.ref t) (.ref u) :=
  .inr (.inr ⟨t, u, us, us, rfl, rfl, h1, h2, by rw [sizeLine_eq]; omega, al_self fun x hx => al_flat (hf x hx)⟩)
theorem al_flatL {t u : Addr} {us : List V} {n : Nat} (h1 : SqL K H t us) (h2 : SqL K H u us) (hf : ∀ x ∈ us, flatV x = true) (hz : us.length ≤ 2000) : Alike K H (n + 1) (.ref t) (.ref u) :=
  .inr (.inl ⟨t, u, us, us, rfl, rfl, h1, h2, by rw [sizeLine_eq]; omega, al_self fun x hx => al_flat (hf x hx)⟩)
theorem al_str {t u : Addr} {ks : List Int} {x y : V} {o1 o2 : Option Int} {n : Nat} (h1 : StrR H t ks x y o1 o2) (h2 : StrR H u ks x y o1 o2) (ax : Alike K H (n + 1) x x) (ay : Alike K H (n + 1) y y) (hz : ks.length ≤ 1000) : Alike K H (n + 2) (.ref t) (.ref u) := by
  have two : ∀ {v : V}, Alike K H (n + 1) v v → H t = some (.tup [.str "UnknownKey", v]) → H u = some (.tup [.str "UnknownKey", v]) → Alike K H (n + 2) (.ref t) (.ref u) := fun {v} av a1 a2 =>
    .inr (.inr ⟨t, u, _, _, rfl, rfl, SqT.of a1, SqT.of a2, (by show 2 < sizeLine; decide), .cons (al_flat rfl) (.cons av .nil)⟩)
  cases e1 : liveB ks o1 with
  | false => exact two ax (h1.1 e1) (h2.1 e1)
  | true =>
    cases e2 : liveB ks o2 with
    | false => exact two ay (h1.2.1 e1 e2) (h2.2.1 e1 e2)
    | true =>
      cases o1 with
      | none => cases e1
      | some i =>
        cases o2 with
        | none => cases e2
        | some j =>
          obtain ⟨q1, a1, b1⟩ := h1.2.2 i j rfl rfl e1 e2
          obtain ⟨q2, a2, b2⟩ := h2.2.2 i j rfl rfl e1 e2
          have hl := List.length_filter_le (betw i j) ks
          exact .inr (.inr ⟨t, u, _, _, rfl, rfl, SqT.of a1, SqT.of a2, (by show 2 < sizeLine; decide), .cons (al_flat rfl) (.cons (al_flatT (SqT.of b1) (SqT.of b2) (fun x hx => flat_mem hx) (by rw [List.length_map]; omega)) .nil)⟩)
theorem StrR.sm {H' : Hp} {t : Addr} {ks : List Int} {x y : V} {o1 o2 : Option Int} (h : StrR H t ks x y o1 o2) (s : Same H H') : StrR H' t ks x y o1 o2 :=
  ⟨fun e => s _ _ (h.1 e), fun e1 e2 => s _ _ (h.2.1 e1 e2), fun i j a1 a2 e1 e2 => let ⟨q, b1, b2⟩ := h.2.2 i j a1 a2 e1 e2; ⟨q, s _ _ b1, s _ _ b2⟩⟩
theorem near_flat (ks : List Int) (k : Int) : ∀ x ∈ [lowV ks k, highV ks k], flatV x = true := fun x hx => by
  simp only [List.mem_cons, List.not_mem_nil, or_false] at hx
  rcases hx with rfl | rfl
  · rcases low_cases ks k with ⟨_, e⟩ | ⟨_, y, _, e⟩ <;> rw [e] <;> rfl
  · rcases high_cases ks k with ⟨_, e⟩ | ⟨y, _, _, e⟩ <;> rw [e] <;> rfl
theorem sv_lv {v : V} {r : Bool} (h : SV K H v r) : ∃ lr, LV K H v lr ∧ ((r = false ∧ lr = false) ∨ ∃ a xs, v = .ref a ∧ SqT K H a xs ∧ xs.length ≤ 2000 ∧ lr = (r && decide (0 < xs.length))) := by
  rcases h with ⟨t, h1, h2, h3⟩ | ⟨a, xs, os, h1, h2, hz, h3, h4⟩
  · exact ⟨false, .inl ⟨t, h1, h2, rfl⟩, .inl ⟨h3, rfl⟩⟩
  · exact ⟨r && decide (0 < xs.length), .inr ⟨a, xs, os, h1, h2, hz, h3, by rw [h4]⟩, .inr ⟨a, xs, h1, h2, hz, rfl⟩⟩
theorem tv_sm {H' : Hp} {v : V} {t : Option Str} (h : TV K H v t) (s : Same H H') : TV K H' v t := by
  cases h with
  | str z => exact .str z
  | no t ty h => exact .no t (tyX_sm s ty) h
end
/-- what all values are asked -/
theorem pv_facts {P : Program} {w : World} {K : PySem.W.Frag} {mg : Str → Option Value} {base : Heap} {b C : Addr} {H : Hp} {v : V} (M : Defs P w K mg base C) (h : PVal b K C H v) :
    ∃ o r t, Sm0 t ∧ ∀ H', Keep b H H' → NV K H' v o ∧ SV K H' v r ∧ TV K H' v t := by
  rcases h with ⟨o, r, t, d, h1, h2, h3⟩ | ⟨a, q, ls, rfl, h⟩
  · exact ⟨o, r, t, h1, fun H' k => let ⟨a, b, c, _⟩ := h3 H' k; ⟨a, b, c⟩⟩
  · exact ⟨none, false, none, (fun z e => nomatch e), fun H' k => by
      have ty := M.tyC H' a q (h H' k).1
      exact ⟨.no _ false false ty M.cint M.cbool rfl, .inl ⟨_, ty, M.ctup, rfl⟩, .no _ ty M.cstr⟩⟩
/-- the text by repr, the same each time -/
theorem pv_rep {K : PySem.W.Frag} {b C : Addr} {H : Hp} {v : V} (h : PVal b K C H v) :
    ∃ z, ∀ H', Keep b H H' → ∀ Q : VK, (∀ H2, Same H' H2 → Q (.str z) H2) → rReprD K [v] H' Q ∨ rReprO C (spRepr K C) [v] H' Q := by
  rcases h with ⟨o, r, t, d, h1, h2, h3⟩ | ⟨a, q, ls, rfl, h⟩
  · exact ⟨d.shown, fun H' k Q hq => .inl ⟨v, d, rfl, (h3 H' k).2.2.2.rd, h2.sh, h2.fits (by decide), Nat.le_trans h2.dp (by decide), hq H' (Same.refl H')⟩⟩
  · exact ⟨rowRepr ls none none, fun H' k Q hq => .inr (by
      obtain ⟨⟨dx, e⟩, hs, L⟩ := h H' k
      exact ⟨a, dx, _, rfl, e, a, q, ls, none, none, rfl, ⟨dx, e⟩, hs, L, fun H2 s2 => ⟨_, rfl, hq H2 s2⟩⟩)⟩
/-- a pair of two values that may be no keys -/
def Pr (b : Addr) (K : PySem.W.Frag) (H : Hp) (v : V) : Prop := ∃ t x y, v = .ref t ∧ H t = some (.tup [x, y]) ∧ t ≠ b ∧ Ov b K H x ∧ Ov b K H y
theorem prk {b : Addr} {K : PySem.W.Frag} : KeepP b (Pr b K) := fun ⟨t, x, y, e, h, n, h1, h2⟩ k => ⟨t, x, y, e, k _ _ h n, n, ok_ h1 k, ok_ h2 k⟩
theorem kset_take {ks : List Int} (h : KSet ks) (n : Nat) : KSet (ks.take n) :=
  ⟨h.up.sublist (List.take_sublist n ks), fun k m => h.lo k (List.mem_of_mem_take m), fun k m => h.hi k (List.mem_of_mem_take m)⟩
theorem ov_nvk {b : Addr} {K : PySem.W.Frag} {H : Hp} {v : V} (h : Ov b K H v) : NVk b K H v := let ⟨o, h⟩ := h; ⟨o, fun H' k => (h H' k).1⟩
/-- a tuple of values that may be no keys -/
def Ln (b : Addr) (K : PySem.W.Frag) (H : Hp) (v : V) : Prop := ∃ a ys, v = .ref a ∧ Tp b K H a ys ∧ ys.length ≤ 2000 ∧ 0 < ys.length ∧ ∀ y ∈ ys, NVk b K H y
theorem ln_keep {b : Addr} {K : PySem.W.Frag} : KeepP b (Ln b K) := fun ⟨a, ys, e, h, hz, h0, hy⟩ k => ⟨a, ys, e, h.keep k, hz, h0, fun y m => (hy y m).keep k⟩
theorem ln_facts {b : Addr} {K : PySem.W.Frag} {H : Hp} {v : V} (h : Ln b K H v) : ∃ r, ∀ H', Keep b H H' → NV K H' v none ∧ SV K H' v r ∧ LV K H' v r ∧ TV K H' v none := by
  obtain ⟨a, ys, rfl, h, hz, h0, hy⟩ := h
  obtain ⟨os, hos⟩ := pair_nvk hy
  refine ⟨setB os, fun H' k => ⟨.no _ false false (ty_tup (h.keep k).1) (kit_ty (by decide +kernel)) (kit_ty (by decide +kernel)) rfl,
    .inr ⟨a, ys, os, rfl, (h.keep k).1, hz, hos H' k, rfl⟩, .inr ⟨a, ys, os, rfl, (h.keep k).1, hz, hos H' k, ?_⟩, .no _ (ty_tup (h.keep k).1) (kit_ty (by decide +kernel))⟩⟩
  rw [decide_eq_true h0, Bool.and_true]

section
variable {P : Program} {w : World} {K : PySem.W.Frag} {mg : Str → Option Value} {base : Heap}
theorem ok_law {f C : Addr} {fd : FuncData} (F : Fun K "law" "law" s_law f fd) (M0 : Defs P w K mg base C) : AtCaller P w K mg base f fd "_law_script" (spLaw K) := by
  obtain ⟨fBg, dBg, gBg, kBg, bBg, Dbg⟩ := M0.bg
  obtain ⟨fDr, dDr, gDr, kDr, bDr, Ddr⟩ := M0.dr
  obtain ⟨fOf, dOf, gOf, kOf, bOf, Dof⟩ := M0.of
  obtain ⟨fKy, dKy, gKy, kKy, bKy, Dky⟩ := M0.ky
  obtain ⟨fSt, dSt, gSt, kSt, bSt, Dst⟩ := M0.st
  obtain ⟨fLk, dLk, gLk, kLk, bLk, Dlk⟩ := M0.lk
  obtain ⟨fLs, dLs, gLs, kLs, bLs, Dls⟩ := M0.ls
  obtain ⟨fLn, dLn, gLn, kLn, bLn, Dln⟩ := M0.ln
  obtain ⟨fWo, dWo, gWo, kWo, bWo, Dwo⟩ := M0.wo
  obtain ⟨fNu, dNu, gNu, kNu, bNu, Dnu⟩ := M0.nu
  obtain ⟨fTu, dTu, gTu, kTu, bTu, Dtu⟩ := M0.tu
  obtain ⟨fOd, dOd, gOd, kOd, bOd, Dod⟩ := M0.od
  obtain ⟨fSr, dSr, gSr, kSr, bSr, Dsr⟩ := M0.sr
  obtain ⟨fDu, dDu, gDu, kDu, bDu, Ddu⟩ := M0.du
  obtain ⟨fLa, dLa, gLa, kLa, bLa, Dla⟩ := M0.la
  obtain ⟨fJu, dJu, gJu, kJu, bJu, Dju⟩ := M0.ju
  obtain ⟨fSm, dSm, gSm, kSm, bSm, Dsm⟩ := M0.sm
  obtain ⟨fNe, dNe, gNe, kNe, bNe, Dne, kbNe⟩ := M0.ne
  obtain ⟨fRp, dRp, iRp, nRp, bRp, Drp⟩ := M0.rep
  refine caller_ok (k := 9) F sc_law ⟨rfl, by decide, by decide⟩ (fun cdv s H v Q hr h => ?_)
  have hr1 : Room 1 _ := hr.mono (by decide)
  have hr2 : Room 2 _ := hr.mono (by decide)
  have hr3 : Room 3 _ := hr.mono (by decide)
  have hr4 : Room 4 _ := hr.mono (by decide)
  have hr5 : Room 5 _ := hr.mono (by decide)
  have hr6 : Room 6 _ := hr.mono (by decide)
  have hr7 : Room 7 _ := hr.mono (by decide)
  have hr8 : Room 8 _ := hr.mono (by decide)
  have hu : (callerA.deeper (PyProof.Rows.envOfC "law" (defScope s_law) s.heap.objs.size f cdv)).units + 40 < cLine := by have := hr.units; omega
  obtain ⟨a, ns, e, hS, hlen, k⟩ := h
  obtain rfl : v = .ref a := List.head_eq_of_cons_eq e
  have nd := sc_law.nd
  refine ⟨_, (pss_cut (ps_set (i := 1) nd rfl (Or.inl rfl) (pe_call Dbg hr1 (by rfl) gBg kBg bBg .nil pass0 (pa_cons (pv 0) pa_nil))) (pss_cut (ps_for PassesOwn.never rfl (pi_range1 (by rfl) M0.rng (pa_cons pe_int pa_nil)) (pg_name (i := 2) nd rfl (Or.inl rfl)) (pss_cut (ps_set (i := 3) nd rfl (Or.inl rfl) (pe_call Dky hr3 (by rfl) gKy kKy bKy .nil pass0 (pa_cons (pv 1) (pa_cons (pe_call Dof hr2 (by rfl) gOf kOf bOf .nil pass0 (pa_cons (pv 1) (pa_cons (pe_lst (pa_cons pe_int (pa_cons pe_int (pa_cons pe_int (pa_cons pe_int (pa_cons pe_int (pa_cons pe_int (pa_cons pe_int (pa_cons pe_int (pa_cons pe_int (pa_cons pe_int pa_nil))))))))))) pa_nil))) pa_nil)))) (pss_cut (ps_for PassesOwn.never rfl (pi_range1 (by rfl) M0.rng (pa_cons pe_int pa_nil)) (pg_name (i := 4) nd rfl (Or.inl rfl)) (pss_cut (ps_set (i := 5) nd rfl (Or.inl rfl) (pe_call Dof hr2 (by rfl) gOf kOf bOf .nil pass0 (pa_cons (pv 1) (pa_cons (pe_lst (pa_cons (pe_call Dtu hr7 (by rfl) gTu kTu bTu .nil pass0 (pa_cons (pv 1) (pa_cons (pv 3) pa_nil))) (pa_cons (pe_call Dtu hr7 (by rfl) gTu kTu bTu .nil pass0 (pa_cons (pv 1) (pa_cons (pv 3) pa_nil))) (pa_cons (pe_call Dwo hr3 (by rfl) gWo kWo bWo .nil pass0 (pa_cons (pv 1) pa_nil)) (pa_cons (pe_call Dnu hr3 (by rfl) gNu kNu bNu .nil pass0 (pa_cons (pv 1) pa_nil)) pa_nil))))) pa_nil)))) (pss_cut (ps_set (i := 6) nd rfl (Or.inl rfl) (pe_lst (pa_cons (pe_call Dlk hr1 (by rfl) gLk kLk bLk .nil pass0 (pa_cons (pv 5) pa_nil)) (pa_cons (pe_call Dls hr2 (by rfl) gLs kLs bLs .nil pass0 (pa_cons (pv 5) pa_nil)) (pa_cons (pe_and (pe_call Dls hr2 (by rfl) gLs kLs bLs .nil pass0 (pa_cons (pv 5) pa_nil)) (pe_one (pe_cmpR op_gt (pe_callB call_len_seq (by rfl) M0.len PySem.boot_len (pa_cons (pv 5) pa_nil)) pe_int (nomark _)))) (pa_cons (pe_call Dln hr1 (by rfl) gLn kLn bLn .nil pass0 (pa_cons (pv 5) pa_nil)) pa_nil)))))) (pss_cut (ps_set (i := 7) nd rfl (Or.inl rfl) (pe_callB (cr_or (cr_reprD rfl hu) (cr_reprO iRp nRp Drp hr4 bRp)) (by rfl) M0.rpr (by decide +kernel) (pa_cons (pv 5) pa_nil))) (pss_one (ps_if (PW.pt (pw_or (pt_not (pt_val (pe_call Dsm hr4 (by rfl) gSm kSm bSm .nil pass0 (pa_cons (pe_lst (pa_cons (pe_call Dju hr5 (by rfl) gJu kJu bJu .nil pass0 (pa_cons (pv 5) (pa_cons pe_bl pa_nil))) (pa_cons (pe_call Dju hr5 (by rfl) gJu kJu bJu .nil pass0 (pa_cons (pv 5) (pa_cons pe_bl pa_nil))) pa_nil))) (pa_cons (pe_lst (pa_cons (pv 6) (pa_cons (pv 6) pa_nil))) pa_nil))))) (pw_or1 (pt_cmpR op_ne (pe_callB (cr_or (cr_reprD rfl hu) (cr_reprO iRp nRp Drp hr4 bRp)) (by rfl) M0.rpr (by decide +kernel) (pa_cons (pv 5) pa_nil)) (pv 7) (nomark _))))) (pss_one (ps_ret pe_bl)) pss_nil)))))) (pss_one (ps_for PassesOwn.never rfl (pi_range1 (by rfl) M0.rng (pa_cons pe_int pa_nil)) (pg_name (i := 4) nd rfl (Or.inl rfl)) (pss_cut (ps_par3 (i := 8) (j := 9) (l := 10) rfl nd rfl rfl rfl (by decide) (by decide) (by decide) rfl rfl rfl (pa_cons (pe_call Dof hr2 (by rfl) gOf kOf bOf .nil pass0 (pa_cons (pv 1) (pa_cons (pe_op op_cat (pe_callTy call_list_of (by rfl) M0.lst (by decide +kernel) (pa_cons (pv 3) pa_nil)) (pe_lst (pa_cons pe_int pa_nil))) pa_nil))) (pa_cons (pe_call Dof hr2 (by rfl) gOf kOf bOf .nil pass0 (pa_cons (pv 1) (pa_cons (pe_op op_cat (pe_callTy call_list_of (by rfl) M0.lst (by decide +kernel) (pa_cons (pv 3) pa_nil)) (pe_lst (pa_cons pe_int pa_nil))) pa_nil))) (pa_cons (pe_call Dst hr3 (by rfl) gSt kSt bSt .nil pass0 (pa_cons (pv 1) (pa_cons (pv 3) pa_nil))) pa_nil))) rfl) (pss_cut (ps_par (i := 11) (j := 12) rfl nd rfl rfl (by decide) rfl rfl (pa_cons (pe_call Dod hr4 (by rfl) gOd kOd bOd .nil pass0 (pa_cons (pv 1) (pa_cons (pv 3) (pa_cons (pe_lst (pa_cons (pv 10) pa_nil)) pa_nil)))) (pa_cons (pe_call Dod hr4 (by rfl) gOd kOd bOd .nil pass0 (pa_cons (pv 1) (pa_cons (pe_slice sl_tupA (pv 3) po_none (po_some pe_int)) (pa_cons (pe_lst (pa_cons (pe_lst (pa_cons (pv 8) pa_nil)) (pa_cons (pe_tup (pa_cons (pv 9) pa_nil)) pa_nil))) pa_nil)))) pa_nil)) rfl) (pss_cut (ps_for PassesOwn.never rfl (pi_list (pe_lst (pa_cons (pe_tup (pa_cons (pv 8) (pa_cons (pv 9) pa_nil))) (pa_cons (pe_tup (pa_cons (pv 9) (pa_cons (pv 8) pa_nil))) (pa_cons (pe_tup (pa_cons (pv 8) (pa_cons (pv 8) pa_nil))) (pa_cons (pe_tup (pa_cons (pv 8) (pa_cons (pv 11) pa_nil))) (pa_cons (pe_tup (pa_cons (pv 11) (pa_cons (pv 9) pa_nil))) (pa_cons (pe_tup (pa_cons (pv 11) (pa_cons (pv 12) pa_nil))) (pa_cons (pe_tup (pa_cons (pv 12) (pa_cons (pv 11) pa_nil))) (pa_cons (pe_tup (pa_cons pe_bl (pa_cons (pv 8) pa_nil))) (pa_cons (pe_tup (pa_cons (pv 9) (pa_cons pe_bl pa_nil))) pa_nil))))))))))) (pg_tup rfl (pgs_cons (pg_name (i := 13) nd rfl (Or.inl rfl)) (pgs_cons (pg_name (i := 14) nd rfl (Or.inl rfl)) pgs_nil))) (pss_one (ps_if (pt_not (pt_val (pe_call Dsm hr4 (by rfl) gSm kSm bSm .nil pass0 (pa_cons (pe_call Dsr hr6 (by rfl) gSr kSr bSr .nil pass0 (pa_cons (pv 3) (pa_cons (pv 13) (pa_cons (pv 14) (pa_cons (pe_cmpR op_eq (pv 4) pe_int (nomark _)) pa_nil))))) (pa_cons (pe_call Ddu hr2 (by rfl) gDu kDu bDu .nil pass0 (pa_cons (pv 3) (pa_cons (pv 13) (pa_cons (pv 14) pa_nil)))) pa_nil))))) (pss_one (ps_ret pe_bl)) pss_nil))) (pss_one (ps_for PassesOwn.never rfl (pi_list (pe_lst (pa_cons (pv 8) (pa_cons (pv 9) (pa_cons (pv 10) (pa_cons (pe_call Ddr hr1 (by rfl) gDr kDr bDr .nil pass0 (pa_cons (pv 1) (pa_cons pe_int pa_nil))) (pa_cons pe_int (pa_cons pe_int pa_nil)))))))) (pg_name (i := 13) nd rfl (Or.inl rfl)) (pss_cut (ps_set (i := 15) nd rfl (Or.inl rfl) (pe_ifExp (pt_cmpR op_eq (pv 4) pe_int (nomark _)) (pe_callKW (E := fun _ => E0) Dne hr1 (by rfl) gNe kNe kbNe (fun _ _ _ _ _ _ _ h => h.elim) (pk_cons (pv 13) (pk_cons (pv 3) pk_nil))) (pe_call Dne hr1 (by rfl) gNe kNe bNe .nil pass0 (pa_cons (pv 3) (pa_cons (pv 13) pa_nil))))) (pss_one (ps_if (pt_not (pt_val (pe_call Dsm hr4 (by rfl) gSm kSm bSm .nil pass0 (pa_cons (pv 15) (pa_cons (pe_call Dla hr1 (by rfl) gLa kLa bLa .nil pass0 (pa_cons (pv 3) (pa_cons (pv 13) pa_nil))) pa_nil))))) (pss_one (ps_ret pe_bl)) pss_nil))))))))))))) (pss_cut (ps_set (i := 16) nd rfl (Or.inl rfl) (pe_slice sl_tupA (pe_tupRg3 rfl (by rfl) M0.tup (by rfl) M0.rng (pa_cons (pe_call Ddr hr1 (by rfl) gDr kDr bDr .nil pass0 (pa_cons (pv 1) (pa_cons pe_int pa_nil))) (pa_cons pe_int (pa_cons (pe_op op_add pe_int (pe_call Ddr hr1 (by rfl) gDr kDr bDr .nil pass0 (pa_cons (pv 1) (pa_cons pe_int pa_nil)))) pa_nil)))) po_none (po_some (pe_call Dof hr2 (by rfl) gOf kOf bOf .nil pass0 (pa_cons (pv 1) (pa_cons (pe_lst (pa_cons pe_int (pa_cons pe_int (pa_cons pe_int (pa_cons pe_int (pa_cons pe_int pa_nil)))))) pa_nil)))))) (pss_cut (ps_par (i := 8) (j := 4) rfl nd rfl rfl (by decide) rfl rfl (pa_cons (pe_call Dof hr2 (by rfl) gOf kOf bOf .nil pass0 (pa_cons (pv 1) (pa_cons (pv 16) pa_nil))) (pa_cons (pe_call Ddr hr1 (by rfl) gDr kDr bDr .nil pass0 (pa_cons (pv 1) (pa_cons (pe_callB call_len_seq (by rfl) M0.len PySem.boot_len (pa_cons (pv 16) pa_nil)) pa_nil))) pa_nil)) rfl) (pss_cut (ps_set (i := 17) nd rfl (Or.inl rfl) (pe_op op_catA (pe_op op_catA (pe_slice sl_tupA (pv 16) po_none (po_some (pv 4))) (pe_tup (pa_cons (pe_call Dof hr2 (by rfl) gOf kOf bOf .nil pass0 (pa_cons (pv 1) (pa_cons (pe_lst (pa_cons pe_bl (pa_cons (pv 8) (pa_cons pe_int (pa_cons (pe_un un_neg pe_int) (pa_cons pe_non (pa_cons pe_str pa_nil))))))) pa_nil))) pa_nil))) (pe_slice sl_tupA (pv 16) (po_some (pe_op op_add (pv 4) pe_int)) po_none))) (pss_cut (ps_for PassesOwn.never rfl (pi_list (pe_lst (pa_cons (pv 16) (pa_cons (pv 17) pa_nil)))) (pg_name (i := 5) nd rfl (Or.inl rfl)) (pss_one (ps_if (pt_not (pt_val (pe_call Dsm hr4 (by rfl) gSm kSm bSm .nil pass0 (pa_cons (pe_call Dju hr5 (by rfl) gJu kJu bJu .nil pass0 (pa_cons (pv 5) (pa_cons pe_bl pa_nil))) (pa_cons (pe_lst (pa_cons pe_bl (pa_cons (pe_call Dls hr2 (by rfl) gLs kLs bLs .nil pass0 (pa_cons (pv 5) pa_nil)) (pa_cons (pe_call Dls hr2 (by rfl) gLs kLs bLs .nil pass0 (pa_cons (pv 5) pa_nil)) (pa_cons pe_bl pa_nil))))) pa_nil))))) (pss_one (ps_ret pe_bl)) pss_nil))) (pss_cut (ps_set (i := 15) nd rfl (Or.inl rfl) (pe_lst (pa_cons (pe_call Dsr hr6 (by rfl) gSr kSr bSr .nil pass0 (pa_cons (pv 16) (pa_cons (pv 8) (pa_cons (pe_ix ix_tup (pv 16) (pv 4) (fun _ _ => rfl)) (pa_cons pe_bl pa_nil))))) (pa_cons (pe_call Dne hr1 (by rfl) gNe kNe bNe .nil pass0 (pa_cons (pv 16) (pa_cons (pv 8) pa_nil))) pa_nil)))) (pss_one (ps_ret (pe_call Dsm hr4 (by rfl) gSm kSm bSm .nil pass0 (pa_cons (pv 15) (pa_cons (pe_lst (pa_cons (pe_call Ddu hr2 (by rfl) gDu kDu bDu .nil pass0 (pa_cons (pv 16) (pa_cons (pv 8) (pa_cons (pe_ix ix_tup (pv 16) (pv 4) (fun _ _ => rfl)) pa_nil)))) (pa_cons (pe_call Dla hr1 (by rfl) gLa kLa bLa .nil pass0 (pa_cons (pv 16) (pa_cons (pv 8) pa_nil))) pa_nil))) pa_nil)))))))))))), ?_⟩
  refine ⟨fun σ H => ∃ b l, σ = sg a b none none none none none none none none none none none none none none none none ∧ BagL H b l, ?_, ?_⟩
  · exact ⟨_, rfl, a, ns, rfl, hS, by omega, fun b l H0 hb0 hl0 s0 B0 => ⟨b, l, rfl, B0⟩⟩
  rintro σ H0 ⟨b, l, rfl, B0⟩
  refine ⟨fun σ H => (∃ x2 x3 x4 x5 x6 x7 x8 x9 x10 x11 x12 x13 x14 x15 x16 x17, σ = sg a b x2 x3 x4 x5 x6 x7 x8 x9 x10 x11 x12 x13 x14 x15 x16 x17) ∧ BagL H b l, ?_, ?_⟩
  · refine ⟨6, rfl, by decide, by decide, for_range (n := 6) (fun i σ H => (∃ x2 x3 x4 x5 x6 x7 x8 x9 x10 x11 x12 x13 x14 x15 x16 x17, σ = sg a b x2 x3 x4 x5 x6 x7 x8 x9 x10 x11 x12 x13 x14 x15 x16 x17) ∧ BagL H b l) ⟨⟨_, _, _, _, _, _, _, _, _, _, _, _, _, _, _, _, rfl⟩, B0⟩ ?_ (fun σ H h => h)⟩
    rintro i σ H hi ⟨⟨x2, x3, x4, x5, x6, x7, x8, x9, x10, x11, x12, x13, x14, x15, x16, x17, rfl⟩, B1⟩
    refine ⟨fun σ H => ∃ (p : Addr) (ks : List Int), (∃ x2 x4 x5 x6 x7 x8 x9 x10 x11 x12 x13 x14 x15 x16 x17, σ = sg a b x2 (some (.ref p)) x4 x5 x6 x7 x8 x9 x10 x11 x12 x13 x14 x15 x16 x17) ∧ KSet ks ∧ ks.length ≤ 60 ∧ Tp b K H p (ks.map V.int) ∧ BagL H b l, ?_, ?_⟩
    · refine ⟨_, rfl, _, rfl, (by show 10 ≤ sizeLine; decide), fun q hq => ?_⟩
      refine of_seqL (E := E0) (B1.new hq) (B1.ne hq) (.inl (SqL.of upd_same)) (by show 0 < 10; decide) (by show 10 < 2 ^ 62; decide) fun v H1 hv B2 k1 _ => ?_
      obtain ⟨n, rfl, hn⟩ : ∃ n : Nat, v = .int (n : Int) ∧ n ≤ 60 := by
        simp only [List.mem_cons, List.not_mem_nil, or_false] at hv
        rcases hv with rfl | rfl | rfl | rfl | rfl | rfl | rfl | rfl | rfl | rfl
        · exact ⟨0, rfl, by decide⟩
        · exact ⟨1, rfl, by decide⟩
        · exact ⟨2, rfl, by decide⟩
        · exact ⟨3, rfl, by decide⟩
        · exact ⟨5, rfl, by decide⟩
        · exact ⟨8, rfl, by decide⟩
        · exact ⟨12, rfl, by decide⟩
        · exact ⟨13, rfl, by decide⟩
        · exact ⟨30, rfl, by decide⟩
        · exact ⟨60, rfl, by decide⟩
      refine ⟨b, l, n, rfl, B2, hn, fun p ks H2 hk hl hp hp2 B3 k2 => ⟨p, ks, ⟨_, _, _, _, _, _, _, _, _, _, _, _, _, _, _, rfl⟩, hk, by omega, ⟨SqT.of hp2, B2.ne hp⟩, B3⟩⟩
    rintro σ H1 ⟨p, ks, ⟨x2, x4, x5, x6, x7, x8, x9, x10, x11, x12, x13, x14, x15, x16, x17, rfl⟩, hk, hz, T1, B1⟩
    refine ⟨fun σ H => (∃ x2 x4 x5 x6 x7 x8 x9 x10 x11 x12 x13 x14 x15 x16 x17, σ = sg a b x2 (some (.ref p)) x4 x5 x6 x7 x8 x9 x10 x11 x12 x13 x14 x15 x16 x17) ∧ Tp b K H p (ks.map V.int) ∧ BagL H b l, ?_, ?_⟩
    · refine ⟨3, rfl, by decide, by decide, for_range (n := 3) (fun i σ H => (∃ x2 x4 x5 x6 x7 x8 x9 x10 x11 x12 x13 x14 x15 x16 x17, σ = sg a b x2 (some (.ref p)) x4 x5 x6 x7 x8 x9 x10 x11 x12 x13 x14 x15 x16 x17) ∧ Tp b K H p (ks.map V.int) ∧ BagL H b l) ⟨⟨_, _, _, _, _, _, _, _, _, _, _, _, _, _, _, rfl⟩, T1, B1⟩ ?_ (fun σ H h => h)⟩
      rintro j σ H hj ⟨⟨x2, x4, x5, x6, x7, x8, x9, x10, x11, x12, x13, x14, x15, x16, x17, rfl⟩, T1, B1⟩
      refine ⟨fun σ H => ∃ v, σ = sg a b x2 (some (.ref p)) (some (.int (0 + (j : Int)))) (some v) x6 x7 x8 x9 x10 x11 x12 x13 x14 x15 x16 x17 ∧ PVal b K C H v ∧ Tp b K H p (ks.map V.int) ∧ BagL H b l, ?_, ?_⟩
      · refine ⟨_, rfl, _, rfl, _, rfl, b, l, p, ks, rfl, B1, T1, hk, hz, fun v1 H1 p1 B2 k1 => ?_⟩
        refine ⟨_, rfl, _, rfl, b, l, p, ks, rfl, B2, T1.keep k1, hk, hz, fun v2 H2 p2 B3 k2 => ?_⟩
        refine ⟨_, rfl, b, l, rfl, B3, fun v3 H3 p3 B4 k3 => ?_⟩
        refine ⟨_, rfl, b, l, rfl, B4, fun v4 H4 p4 B5 k4 => ?_⟩
        refine ⟨(by show 4 ≤ sizeLine; decide), fun q hq => ?_⟩
        have g : GotP b l (PVal b K C) H H4 [v1, v2, v3, v4] := ⟨B5, ((k1.trans k2).trans k3).trans k4, fun v hv => by
          simp only [List.mem_cons, List.not_mem_nil, or_false] at hv
          rcases hv with rfl | rfl | rfl | rfl
          · exact pk p1 ((k2.trans k3).trans k4)
          · exact pk p2 (k3.trans k4)
          · exact pk (pn p3 (by decide) (by decide)) k4
          · exact pn p4 (by decide) (by decide)⟩
        have g2 := g.skip pk hq (.lst [v1, v2, v3, v4])
        exact of_seqL (E := E0) g2.B (B5.ne hq) (.inl (SqL.of upd_same)) (by show 0 < 4; decide) (by show 4 < 2 ^ 62; decide) fun v H5 hv B6 k6 _ => ⟨v, rfl, pk (g2.all v hv) k6, T1.keep (g2.k.trans k6), B6⟩
      rintro σ H2 ⟨v, rfl, pv2, T2, B2⟩
      obtain ⟨o, r, t, sm, fv⟩ := pv_facts M0 pv2
      obtain ⟨nv, sv, tv⟩ := fv H2 (Keep.refl b H2)
      obtain ⟨lr, lv, hlr⟩ := sv_lv sv
      refine ⟨fun σ H => ∃ D, σ = sg a b x2 (some (.ref p)) (some (.int (0 + (j : Int)))) (some v) (some (.ref D)) x7 x8 x9 x10 x11 x12 x13 x14 x15 x16 x17 ∧ H D = some (.lst [.bl (keyB o), .bl r, .bl lr, .bl (nameB t)]) ∧ Same H2 H, ?_, ?_⟩
      · refine ⟨_, rfl, v, o, rfl, nv, _, rfl, v, r, rfl, sv, fun H3 s3 => ⟨_, rfl, v, r, rfl, sv.sm s3, fun H4 s4 => ⟨_, rfl, ?_⟩⟩⟩
        rcases hlr with ⟨rfl, rfl⟩ | ⟨a', xs, e', hxs, hl', e2⟩
        · exact iteF ⟨_, rfl, v, t, rfl, (tv_sm tv (s3.trans s4)), sm, fun H5 s5 => ⟨(by show 4 ≤ sizeLine; decide), fun D hD => ⟨D, rfl, upd_same, Same.new ((s3.trans s4).trans s5) hD⟩⟩⟩
        · cases r with
          | false =>
            have e3 : lr = false := e2
            subst e3
            exact iteF ⟨_, rfl, v, t, rfl, (tv_sm tv (s3.trans s4)), sm, fun H5 s5 => ⟨(by show 4 ≤ sizeLine; decide), fun D hD => ⟨D, rfl, upd_same, Same.new ((s3.trans s4).trans s5) hD⟩⟩⟩
          | true =>
            have e4 : decide ((xs.length : Int) > 0) = lr := by
              rw [e2]
              by_cases h0 : 0 < xs.length
              · rw [decide_eq_true h0, decide_eq_true (show (xs.length : Int) > 0 by omega)]; rfl
              · rw [decide_eq_false h0, decide_eq_false (show ¬ (xs.length : Int) > 0 by omega)]; rfl
            subst e'
            exact iteT ⟨_, rfl, a', xs, rfl, .inr (sqT_same (s3.trans s4) hxs), _, _, rfl, rfl, _, rfl, _, t, rfl, (tv_sm tv (s3.trans s4)), sm, fun H5 s5 => ⟨(by show 4 ≤ sizeLine; decide), fun D hD => ⟨D, rfl, (by rw [← e4]; exact upd_same), Same.new ((s3.trans s4).trans s5) hD⟩⟩⟩
      rintro σ H3 ⟨D, rfl, hD, s3⟩
      obtain ⟨z, hzr⟩ := pv_rep pv2
      refine ⟨fun σ H => σ = sg a b x2 (some (.ref p)) (some (.int (0 + (j : Int)))) (some v) (some (.ref D)) (some (.str z)) x8 x9 x10 x11 x12 x13 x14 x15 x16 x17 ∧ H D = some (.lst [.bl (keyB o), .bl r, .bl lr, .bl (nameB t)]) ∧ Same H2 H, ?_, ?_⟩
      · exact ⟨_, rfl, hzr H3 (Keep.ofSame s3) _ fun H4 s4 => ⟨rfl, s4 _ _ hD, s3.trans s4⟩⟩
      rintro σ H4 ⟨rfl, hD4, s4⟩
      refine ⟨_, rfl, v, false, o, r, lr, t, rfl, nv.sm s4, sv.sm s4, lv.sm s4, (tv_sm tv s4), sm, fun D1 H5 _ s5 e1 => ?_⟩
      have s45 := s4.trans s5
      refine ⟨_, rfl, v, true, o, r, lr, t, rfl, nv.sm s45, sv.sm s45, lv.sm s45, (tv_sm tv s45), sm, fun D2 H6 _ s6 e2 => ?_⟩
      have s46 := s45.trans s6
      refine ⟨(by show 2 ≤ sizeLine; decide), fun L1 hL1 => ⟨_, rfl, _, rfl, (by show 2 ≤ sizeLine; decide), fun L2 hL2 => ?_⟩⟩
      have s67 : Same H6 (upd (upd H6 L1 (.lst [.ref D1, .ref D2])) L2 (.lst [.ref D, .ref D])) := Same.new (Same.new (Same.refl H6) hL1) hL2
      have hDx := s67 _ _ (s6 _ _ (s5 _ _ hD4))
      have fl : ∀ x ∈ [V.bl (keyB o), V.bl r, V.bl lr, V.bl (nameB t)], flatV x = true := fun x hx => by
        simp only [List.mem_cons, List.not_mem_nil, or_false] at hx
        rcases hx with rfl | rfl | rfl | rfl <;> rfl
      refine ⟨.ref L1, .ref L2, rfl, .inr (.inl ⟨L1, L2, [.ref D1, .ref D2], [.ref D, .ref D], rfl, rfl, SqL.of (by rw [upd_ne (ne_of_none upd_same hL2), upd_same]), SqL.of upd_same, (by show 2 < sizeLine; decide),
        .cons (al_flatL (SqL.of (s67 _ _ (s6 _ _ e1))) (SqL.of hDx) fl (by show 4 ≤ 2000; decide)) (.cons (al_flatL (SqL.of (s67 _ _ e2)) (SqL.of hDx) fl (by show 4 ≤ 2000; decide)) .nil)⟩), fun H7 s7 => ⟨_, rfl, iteF ?_⟩⟩
      have s47 := (s46.trans s67).trans s7
      refine ⟨_, rfl, hzr H7 (Keep.ofSame s47) _ fun H8 s8 => ⟨_, rfl, rfl, _, rfl, ?_⟩⟩
      rw [decide_eq_true (show V.str z = V.str z from rfl)]
      exact iteF ⟨⟨_, _, _, _, _, _, _, _, _, _, _, _, _, _, _, rfl⟩, T2.sm (s47.trans s8), B2.same (s47.trans s8)⟩
    rintro σ H2 ⟨⟨x2, x4, x5, x6, x7, x8, x9, x10, x11, x12, x13, x14, x15, x16, x17, rfl⟩, T2, B2⟩
    refine ⟨3, rfl, by decide, by decide, for_range (n := 3) (fun i σ H => (∃ x2 x4 x5 x6 x7 x8 x9 x10 x11 x12 x13 x14 x15 x16 x17, σ = sg a b x2 (some (.ref p)) x4 x5 x6 x7 x8 x9 x10 x11 x12 x13 x14 x15 x16 x17) ∧ Tp b K H p (ks.map V.int) ∧ BagL H b l) ⟨⟨_, _, _, _, _, _, _, _, _, _, _, _, _, _, _, rfl⟩, T2, B2⟩ ?_ (fun σ H h => ?_)⟩
    · rintro j σ H hj ⟨⟨x2, x4, x5, x6, x7, x8, x9, x10, x11, x12, x13, x14, x15, x16, x17, rfl⟩, T1, B1⟩
      have hk01 : ∀ k ∈ ks, 0 ≤ k ∧ k ≤ 999 := fun k h => ⟨hk.lo k h, hk.hi k h⟩
      refine ⟨fun σ H => ∃ c1 c2 c3 : Int, σ = sg a b x2 (some (.ref p)) (some (.int (0 + (j : Int)))) x5 x6 x7 (some (.int c1)) (some (.int c2)) (some (.int c3)) x11 x12 x13 x14 x15 x16 x17 ∧ Tp b K H p (ks.map V.int) ∧ BagL H b l, ?_, ?_⟩
      · refine ⟨_, rfl, _, rfl, p, _, rfl, .inr T1.1, fun a1 h1 => ⟨(by show 1 ≤ sizeLine; decide), fun a2 h2 => ?_⟩⟩
        refine ⟨a1, a2, _, _, rfl, rfl, by rw [upd_ne (ne_of_none upd_same h2), upd_same], upd_same, by rw [List.length_map, sizeLine_eq]; show ks.length + 1 ≤ _; omega, fun a3 h3 => ?_⟩
        have Bx := ((B1.new (o := .lst (ks.map V.int)) h1).new (o := .lst [.int 7]) h2).new (o := .lst (ks.map V.int ++ [.int 7])) h3
        have kx := ((Keep.new (Keep.refl b H) (o := .lst (ks.map V.int)) h1).new (o := .lst [.int 7]) h2).new (o := .lst (ks.map V.int ++ [.int 7])) h3
        refine of_seqL (E := E0) Bx (((B1.new h1).new h2).ne h3) (.inl (SqL.of upd_same)) (by rw [List.length_append]; show 0 < _ + 1; omega) (by rw [List.length_append, List.length_map]; show _ + 1 < _; omega) fun v H4 hv B4 k4 _ => ?_
        obtain ⟨c1, rfl⟩ : ∃ z : Int, v = .int z := by
          rcases List.mem_append.mp hv with hv | hv
          · obtain ⟨z, e, _⟩ := mem_ints hv
            exact ⟨z, e⟩
          · exact ⟨7, by simpa using hv⟩
        have T4 := T1.keep (kx.trans k4)
        refine ⟨_, rfl, _, rfl, p, _, rfl, .inr T4.1, fun a1 h1 => ⟨(by show 1 ≤ sizeLine; decide), fun a2 h2 => ?_⟩⟩
        refine ⟨a1, a2, _, _, rfl, rfl, by rw [upd_ne (ne_of_none upd_same h2), upd_same], upd_same, by rw [List.length_map, sizeLine_eq]; show ks.length + 1 ≤ _; omega, fun a3 h3 => ?_⟩
        have By := ((B4.new (o := .lst (ks.map V.int)) h1).new (o := .lst [.int 0]) h2).new (o := .lst (ks.map V.int ++ [.int 0])) h3
        have ky := ((Keep.new (Keep.refl b H4) (o := .lst (ks.map V.int)) h1).new (o := .lst [.int 0]) h2).new (o := .lst (ks.map V.int ++ [.int 0])) h3
        refine of_seqL (E := E0) By (((B4.new h1).new h2).ne h3) (.inl (SqL.of upd_same)) (by rw [List.length_append]; show 0 < _ + 1; omega) (by rw [List.length_append, List.length_map]; show _ + 1 < _; omega) fun v H5 hv B5 k5 _ => ?_
        obtain ⟨c2, rfl⟩ : ∃ z : Int, v = .int z := by
          rcases List.mem_append.mp hv with hv | hv
          · obtain ⟨z, e, _⟩ := mem_ints hv
            exact ⟨z, e⟩
          · exact ⟨0, by simpa using hv⟩
        have T5 := T4.keep (ky.trans k5)
        exact ⟨_, rfl, _, rfl, b, l, p, ks, rfl, B5, T5.2, T5.1, by omega, hk01, fun c3 H6 _ _ B6 k6 => ⟨_, _, _, rfl, c1, c2, c3, rfl, T5.keep k6, B6⟩⟩
      rintro σ H1 ⟨c1, c2, c3, rfl, T2, B2⟩
      refine ⟨fun σ H => ∃ u1 u2 : V, σ = sg a b x2 (some (.ref p)) (some (.int (0 + (j : Int)))) x5 x6 x7 (some (.int c1)) (some (.int c2)) (some (.int c3)) (some u1) (some u2) x13 x14 x15 x16 x17 ∧ Ov b K H u1 ∧ Ov b K H u2 ∧ Tp b K H p (ks.map V.int) ∧ BagL H b l, ?_, ?_⟩
      · refine ⟨_, rfl, _, rfl, _, rfl, (by show 1 ≤ sizeLine; decide), fun m1 hm1 => ?_⟩
        refine ⟨b, l, p, m1, ks, _, rfl, B2.new hm1, T2.keep (Keep.new (Keep.refl b _) hm1), hk01, hz, upd_same, B2.ne hm1, (by show 1 ≤ 10; decide), (fun v hv => by
          obtain rfl : v = .int c3 := by simpa using hv
          exact ov_int c3), fun u1 H2 o1 B3 k3 => ?_⟩
        have T3 := T2.keep ((Keep.new (Keep.refl b _) hm1).trans k3)
        refine ⟨_, rfl, _, rfl, 1, rfl, rd_slA B3 T3 fun p2 H3 s3 T4 => ?_⟩
        rw [show (cutV (ks.map V.int) none (some 1)) = (ks.take 1).map V.int from by rw [show (1 : Int) = ((1 : Nat) : Int) from rfl, cut_take, List.map_take]] at T4
        refine ⟨_, rfl, (by show 1 ≤ sizeLine; decide), fun m2 hm2 => ⟨_, rfl, (by show 1 ≤ sizeLine; decide), fun m3 hm3 => ⟨(by show 2 ≤ sizeLine; decide), fun m4 hm4 => ?_⟩⟩⟩
        have B5 := B3.same s3
        have h0 : GotP b l (Ov b K) H3 H3 [] := GotP.start B5
        have h1 := h0.new ok_ hm2 (o := .lst [.int c1]) fun nb => ov_lst (ks := [c1]) upd_same nb (by show 1 ≤ 2000; decide)
        have h2 := h1.new ok_ hm3 (o := .tup [.int c2]) fun nb => ov_tup (ks := [c2]) ⟨SqT.of upd_same, nb⟩ (by show 1 ≤ 2000; decide)
        have h3 := h2.skip ok_ hm4 (.lst [.ref m2, .ref m3])
        refine ⟨b, l, p2, m4, ks.take 1, _, rfl, h3.B, T4.keep h3.k, fun k h => hk01 k (List.mem_of_mem_take h), by rw [List.length_take]; omega, upd_same, h2.B.ne hm4, (by show 2 ≤ 10; decide), h3.all, fun u2 H6 o2 B6 k6 => ?_⟩
        have k36 := (Keep.ofSame s3).trans (h3.k.trans k6)
        exact ⟨_, _, rfl, u1, u2, rfl, ok_ o1 k36, o2, T3.keep k36, B6⟩
      rintro σ H3 ⟨u1, u2, rfl, o1, o2, T3, B3⟩
      refine ⟨fun σ H => (∃ x13 x14, σ = sg a b x2 (some (.ref p)) (some (.int (0 + (j : Int)))) x5 x6 x7 (some (.int c1)) (some (.int c2)) (some (.int c3)) (some u1) (some u2) x13 x14 x15 x16 x17) ∧ Tp b K H p (ks.map V.int) ∧ BagL H b l, ?_, ?_⟩
      · refine ⟨_, rfl, _, rfl, (by show 2 ≤ sizeLine; decide), fun a1 h1 => ?_⟩
        refine ⟨_, rfl, _, rfl, (by show 2 ≤ sizeLine; decide), fun a2 h2 => ?_⟩
        refine ⟨_, rfl, _, rfl, (by show 2 ≤ sizeLine; decide), fun a3 h3 => ?_⟩
        refine ⟨_, rfl, _, rfl, (by show 2 ≤ sizeLine; decide), fun a4 h4 => ?_⟩
        refine ⟨_, rfl, _, rfl, (by show 2 ≤ sizeLine; decide), fun a5 h5 => ?_⟩
        refine ⟨_, rfl, _, rfl, (by show 2 ≤ sizeLine; decide), fun a6 h6 => ?_⟩
        refine ⟨_, rfl, _, rfl, (by show 2 ≤ sizeLine; decide), fun a7 h7 => ?_⟩
        refine ⟨_, rfl, (by show 2 ≤ sizeLine; decide), fun a8 h8 => ?_⟩
        refine ⟨_, rfl, (by show 2 ≤ sizeLine; decide), fun a9 h9 => ?_⟩
        refine ⟨(by show 9 ≤ sizeLine; decide), fun q hq => ?_⟩
        have g1 := (GotP.start B3 (P := Pr b K)).new prk h1 (o := .tup [.int c1, .int c2]) fun nb => ⟨a1, _, _, rfl, upd_same, nb, ov_int _, ov_int _⟩
        have g2 := g1.new prk h2 (o := .tup [.int c2, .int c1]) fun nb => ⟨a2, _, _, rfl, upd_same, nb, ov_int _, ov_int _⟩
        have g3 := g2.new prk h3 (o := .tup [.int c1, .int c1]) fun nb => ⟨a3, _, _, rfl, upd_same, nb, ov_int _, ov_int _⟩
        have g4 := g3.new prk h4 (o := .tup [.int c1, u1]) fun nb => ⟨a4, _, _, rfl, upd_same, nb, ov_int _, ok_ o1 (g3.k.new h4)⟩
        have g5 := g4.new prk h5 (o := .tup [u1, .int c2]) fun nb => ⟨a5, _, _, rfl, upd_same, nb, ok_ o1 (g4.k.new h5), ov_int _⟩
        have g6 := g5.new prk h6 (o := .tup [u1, u2]) fun nb => ⟨a6, _, _, rfl, upd_same, nb, ok_ o1 (g5.k.new h6), ok_ o2 (g5.k.new h6)⟩
        have g7 := g6.new prk h7 (o := .tup [u2, u1]) fun nb => ⟨a7, _, _, rfl, upd_same, nb, ok_ o2 (g6.k.new h7), ok_ o1 (g6.k.new h7)⟩
        have g8 := g7.new prk h8 (o := .tup [.bl true, .int c1]) fun nb => ⟨a8, _, _, rfl, upd_same, nb, ov_bl _, ov_int _⟩
        have g9 := g8.new prk h9 (o := .tup [.int c2, .bl false]) fun nb => ⟨a9, _, _, rfl, upd_same, nb, ov_int _, ov_bl _⟩
        have gq := g9.skip prk hq (.lst [.ref a1, .ref a2, .ref a3, .ref a4, .ref a5, .ref a6, .ref a7, .ref a8, .ref a9])
        have Tq := T3.keep gq.k
        have hqL := upd_same (H := upd (upd (upd (upd (upd (upd (upd (upd (upd H3 a1 (.tup [.int c1, .int c2])) a2 (.tup [.int c2, .int c1])) a3 (.tup [.int c1, .int c1])) a4 (.tup [.int c1, u1])) a5 (.tup [u1, .int c2])) a6 (.tup [u1, u2])) a7 (.tup [u2, u1])) a8 (.tup [.bl true, .int c1])) a9 (.tup [.int c2, .bl false])) (a := q) (o := .lst [.ref a1, .ref a2, .ref a3, .ref a4, .ref a5, .ref a6, .ref a7, .ref a8, .ref a9])
        have gall := gq.all
        have gB := gq.B
        refine ⟨q, rfl, ⟨_, SqL.of hqL⟩, ?_⟩
        generalize (upd (upd (upd (upd (upd (upd (upd (upd (upd (upd H3 a1 (.tup [.int c1, .int c2])) a2 (.tup [.int c2, .int c1])) a3 (.tup [.int c1, .int c1])) a4 (.tup [.int c1, u1])) a5 (.tup [u1, .int c2])) a6 (.tup [u1, u2])) a7 (.tup [u2, u1])) a8 (.tup [.bl true, .int c1])) a9 (.tup [.int c2, .bl false])) q (.lst [.ref a1, .ref a2, .ref a3, .ref a4, .ref a5, .ref a6, .ref a7, .ref a8, .ref a9])) = Hq at hqL gall gB Tq ⊢
        refine for_list (K := K) (a := q) (xs := [.ref a1, .ref a2, .ref a3, .ref a4, .ref a5, .ref a6, .ref a7, .ref a8, .ref a9]) (fun i σ H => (∃ x13 x14, σ = sg a b x2 (some (.ref p)) (some (.int (0 + (j : Int)))) x5 x6 x7 (some (.int c1)) (some (.int c2)) (some (.int c3)) (some u1) (some u2) x13 x14 x15 x16 x17) ∧ Same Hq H)
          ⟨⟨_, _, rfl⟩, Same.refl _⟩ (fun i σ H' _ h => SqL.of (h.2 _ _ hqL)) ?_ (fun σ H' h => ⟨h.1, Tq.sm h.2, gB.same h.2⟩)
        rintro i v σ H' hv ⟨⟨x13, x14, rfl⟩, s'⟩
        obtain ⟨t, x, y, rfl, ht, nt, ⟨ox, fx⟩, ⟨oy, fy⟩⟩ := prk (gall v (List.mem_of_getElem? hv)) (Keep.ofSame s')
        have Tz := Tq.sm s'
        refine ⟨t, _, rfl, SqT.of ht, rfl, x, [y], rfl, y, [], rfl, rfl, ?_⟩
        obtain ⟨nx, _⟩ := fx H' (Keep.refl b H')
        obtain ⟨ny, _⟩ := fy H' (Keep.refl b H')
        refine ⟨_, rfl, _, rfl, _, rfl, _, rfl, rfl, p, ks, x, y, ox, oy, _, rfl, Tz.1, by omega, nx, ny, fun t1 H4 _ s4 st1 => ?_⟩
        refine ⟨_, rfl, _, rfl, _, rfl, p, ks, x, y, ox, oy, rfl, (Tz.sm s4).1, by omega, nx.sm s4, ny.sm s4, fun t2 H5 _ s5 st2 => ?_⟩
        have k5 := Keep.ofSame (b := b) (s4.trans s5)
        refine ⟨.ref t1, .ref t2, rfl, al_str (st1.sm s5) st2 (fx H5 k5).2 (fy H5 k5).2 (by omega), fun H6 s6 => ⟨_, rfl, iteF ?_⟩⟩
        exact ⟨⟨_, _, rfl⟩, ((s'.trans s4).trans s5).trans s6⟩
      rintro σ H4 ⟨⟨y13, y14, rfl⟩, T4, B4⟩
      refine ⟨_, rfl, _, rfl, _, rfl, _, rfl, b, l, _, rfl, B4, by decide, by decide, fun c4 H5 _ _ B5 k5 _ => ⟨(by show 6 ≤ sizeLine; decide), fun q hq => ?_⟩⟩
      have T5 := (T4.keep k5).keep (Keep.new (Keep.refl b H5) hq (o := .lst [.int c1, .int c2, .int c3, .int c4, .int 0, .int 999]))
      have B6 := B5.new hq (o := .lst [.int c1, .int c2, .int c3, .int c4, .int 0, .int 999])
      have hqL := upd_same (H := H5) (a := q) (o := .lst [.int c1, .int c2, .int c3, .int c4, .int 0, .int 999])
      refine ⟨q, rfl, ⟨_, SqL.of hqL⟩, ?_⟩
      generalize upd H5 q (.lst [.int c1, .int c2, .int c3, .int c4, .int 0, .int 999]) = Hq at hqL T5 B6 ⊢
      refine for_list (K := K) (a := q) (xs := [.int c1, .int c2, .int c3, .int c4, .int 0, .int 999]) (fun i σ H => (∃ x13 x14 x15, σ = sg a b x2 (some (.ref p)) (some (.int (0 + (j : Int)))) x5 x6 x7 (some (.int c1)) (some (.int c2)) (some (.int c3)) (some u1) (some u2) x13 x14 x15 x16 x17) ∧ Same Hq H)
        ⟨⟨_, _, _, rfl⟩, Same.refl _⟩ (fun i σ H' _ h => SqL.of (h.2 _ _ hqL)) ?_ (fun σ H' h => ?_)
      · rintro i v σ H' hv ⟨⟨x13, x14, x15, rfl⟩, s'⟩
        obtain ⟨k, rfl⟩ : ∃ k : Int, v = .int k := by
          have := List.mem_of_getElem? hv
          simp only [List.mem_cons, List.not_mem_nil, or_false] at this
          rcases this with rfl | rfl | rfl | rfl | rfl | rfl
          · exact ⟨_, rfl⟩
          · exact ⟨_, rfl⟩
          · exact ⟨_, rfl⟩
          · exact ⟨_, rfl⟩
          · exact ⟨_, rfl⟩
          · exact ⟨_, rfl⟩
        have Tz := T5.sm s'
        refine ⟨fun σ H => ∃ t, σ = sg a b x2 (some (.ref p)) (some (.int (0 + (j : Int)))) x5 x6 x7 (some (.int c1)) (some (.int c2)) (some (.int c3)) (some u1) (some u2) (some (.int k)) x14 (some (.ref t)) x16 x17 ∧ H t = some (.tup [lowV ks k, highV ks k]) ∧ Same H' H, ?_, ?_⟩
        · refine ⟨_, rfl, rfl, _, rfl, ite2 (fun _ => ?_) (fun _ => ?_)⟩
          · exact ⟨_, rfl, _, rfl, p, ks, k, rfl, Tz.1, by omega, fun t H1 _ s1 e1 => ⟨t, rfl, e1, s1⟩⟩
          · exact ⟨_, rfl, _, rfl, p, ks, k, rfl, Tz.1, by omega, fun t H1 _ s1 e1 => ⟨t, rfl, e1, s1⟩⟩
        rintro σ H1 ⟨t, rfl, e1, s1⟩
        refine ⟨_, rfl, _, rfl, _, rfl, p, ks, k, rfl, (Tz.sm s1).1, by omega, fun t2 H2 _ s2 e2 => ?_⟩
        refine ⟨.ref t, .ref t2, rfl, al_flatT (SqT.of (s2 _ _ e1)) (SqT.of e2) (near_flat ks k) (by show 2 ≤ 2000; decide), fun H6 s6 => ⟨_, rfl, iteF ?_⟩⟩
        exact ⟨⟨_, _, _, rfl⟩, ((s'.trans s1).trans s2).trans s6⟩
      · obtain ⟨⟨x13, x14, x15, rfl⟩, s'⟩ := h
        exact ⟨⟨_, _, _, _, _, _, _, _, _, _, _, _, _, _, _, rfl⟩, T5.sm s', B6.same s'⟩
    · obtain ⟨⟨x2, x4, x5, x6, x7, x8, x9, x10, x11, x12, x13, x14, x15, x16, x17, rfl⟩, T3, B3⟩ := h
      exact ⟨⟨_, _, _, _, _, _, _, _, _, _, _, _, _, _, _, _, rfl⟩, B3⟩
  rintro σ H1 ⟨⟨x2, x3, x4, x5, x6, x7, x8, x9, x10, x11, x12, x13, x14, x15, x16, x17, rfl⟩, B1⟩
  refine ⟨fun σ H => ∃ (P : Addr) (ks : List Int), (∃ x2 x3 x4 x5 x6 x7 x8 x9 x10 x11 x12 x13 x14 x15 x17, σ = sg a b x2 x3 x4 x5 x6 x7 x8 x9 x10 x11 x12 x13 x14 x15 (some (.ref P)) x17) ∧ KSet ks ∧ 13 ≤ ks.length ∧ ks.length ≤ 400 ∧ Tp b K H P (ks.map V.int) ∧ BagL H b l, ?_, ?_⟩
  · refine ⟨_, rfl, b, l, _, rfl, B1, by decide, by decide, fun d H2 d0 d1 B2 k2 _ => ?_⟩
    refine ⟨_, rfl, b, l, _, rfl, B2, by decide, by decide, fun e H3 e0 e1 B3 k3 _ => ⟨_, _, rfl, rfl, ?_⟩⟩
    obtain ⟨n, hr, n0, n1, hn⟩ := rg_small d0 d1 e0 e1
    refine ⟨d, 1000, 1 + e, n, rfl, hr, by omega, fun q hq => ?_⟩
    have B4 := B3.new hq (o := .tup ((rg3 d (1 + e) n).map V.int))
    have T4 : Tp b K (upd H3 q (.tup ((rg3 d (1 + e) n).map V.int))) q ((rg3 d (1 + e) n).map V.int) := Tp.new B3 hq
    refine ⟨_, rfl, (by show 5 ≤ sizeLine; decide), fun q2 hq2 => ?_⟩
    refine of_seqL (E := E0) (B4.new hq2) (B4.ne hq2) (.inl (SqL.of upd_same)) (by show 0 < 5; decide) (by show 5 < 2 ^ 62; decide) fun v H5 hv B5 k5 _ => ?_
    obtain ⟨m, rfl, m0, m1⟩ : ∃ m : Nat, v = .int (m : Int) ∧ 13 ≤ m ∧ m ≤ 400 := by
      simp only [List.mem_cons, List.not_mem_nil, or_false] at hv
      rcases hv with rfl | rfl | rfl | rfl | rfl
      · exact ⟨400, rfl, by decide, by decide⟩
      · exact ⟨399, rfl, by decide, by decide⟩
      · exact ⟨399, rfl, by decide, by decide⟩
      · exact ⟨400, rfl, by decide, by decide⟩
      · exact ⟨13, rfl, by decide, by decide⟩
    have T5 := (T4.keep (Keep.new (Keep.refl b _) hq2)).keep k5
    refine ⟨_, rfl, rd_slA B5 T5 fun P H6 s6 T6 => ?_⟩
    rw [cut_take, ← List.map_take] at T6
    have hl : 13 ≤ ((rg3 d (1 + e) n).take m).length ∧ ((rg3 d (1 + e) n).take m).length ≤ 400 := by rw [List.length_take, rg_len]; omega
    exact ⟨P, _, ⟨_, _, _, _, _, _, _, _, _, _, _, _, _, _, _, rfl⟩, kset_take (rg_kset d0 (by omega) (by omega) hn) m, by omega, by omega, T6, B5.same s6⟩
  rintro σ H1 ⟨P, ks, ⟨x2, x3, x4, x5, x6, x7, x8, x9, x10, x11, x12, x13, x14, x15, x17, rfl⟩, hk, z0, z1, T1, B1⟩
  refine ⟨fun σ H => ∃ (c : Int) (n : Nat), (∃ x2 x3 x5 x6 x7 x9 x10 x11 x12 x13 x14 x15 x17, σ = sg a b x2 x3 (some (.int (n : Int))) x5 x6 x7 (some (.int c)) x9 x10 x11 x12 x13 x14 x15 (some (.ref P)) x17) ∧ n < ks.length ∧ Tp b K H P (ks.map V.int) ∧ BagL H b l, ?_, ?_⟩
  · refine ⟨_, rfl, _, rfl, of_seqL (E := E0) B1 T1.2 (.inr T1.1) (by rw [List.length_map]; omega) (by rw [List.length_map]; omega) fun v H2 hv B2 k2 _ => ?_⟩
    obtain ⟨c, rfl, hc⟩ := mem_ints hv
    have T2 := T1.keep k2
    refine ⟨_, rfl, _, rfl, P, _, rfl, .inr T2.1, b, l, _, rfl, B2, by rw [List.length_map]; omega, by rw [List.length_map]; exact Nat.lt_of_lt_of_le (log_lt (by omega)) (by decide), fun n H3 n0 n1 B3 k3 _ => ?_⟩
    rw [List.length_map] at n1
    exact ⟨_, _, rfl, c, n.toNat, ⟨_, _, _, _, _, _, _, _, _, _, _, _, _, by rw [Int.toNat_of_nonneg n0]; rfl⟩, by omega, T2.keep k3, B3⟩
  rintro σ H2 ⟨c, n, ⟨x2, x3, x5, x6, x7, x9, x10, x11, x12, x13, x14, x15, x17, rfl⟩, hn, T2, B2⟩
  refine ⟨fun σ H => ∃ (w : V), (∃ x2 x3 x5 x6 x7 x9 x10 x11 x12 x13 x14 x15, σ = sg a b x2 x3 (some (.int (n : Int))) x5 x6 x7 (some (.int c)) x9 x10 x11 x12 x13 x14 x15 (some (.ref P)) (some w)) ∧ Ln b K H w ∧ Tp b K H P (ks.map V.int) ∧ BagL H b l, ?_, ?_⟩
  · refine ⟨_, rfl, _, rfl, _, rfl, rd_slA B2 T2 fun p1 H3 s3 T3 => ?_⟩
    refine ⟨_, rfl, _, rfl, _, rfl, (by show 6 ≤ sizeLine; decide), fun q hq => ?_⟩
    have B4 := B2.same s3
    refine of_seqL (E := E0) (B4.new hq) (B4.ne hq) (.inl (SqL.of upd_same)) (by show 0 < 6; decide) (by show 6 < 2 ^ 62; decide) fun v H5 hv B5 k5 _ => ⟨(by show 1 ≤ sizeLine; decide), fun t ht => ?_⟩
    have ov : ∀ {G : Hp}, NVk b K G v := fun {G} => by
      simp only [List.mem_cons, List.not_mem_nil, or_false] at hv
      rcases hv with rfl | rfl | rfl | rfl | rfl | rfl
      · exact ov_nvk (ov_bl _)
      · exact nvk_int _
      · exact nvk_int _
      · exact nvk_int _
      · exact ov_nvk ov_non
      · exact ov_nvk (ov_str _)
    have k6 := ((Keep.new (Keep.refl b H3) hq (o := .lst [.bl true, .int c, .int 1000, .int (-1), .non, .str "3"])).trans k5).new ht (o := .tup [v])
    rw [cut_take, ← List.map_take] at T3
    have T6 := T3.keep k6
    have B6 := B5.new ht (o := .tup [v])
    refine rd_catA B6 T6 (Tp.new B5 ht) (by rw [List.length_map, List.length_take]; show _ + 1 ≤ _; omega) fun p2 H7 s7 T7 => ?_
    have T8 := (T2.keep (((Keep.ofSame s3).trans k6).trans (Keep.ofSame s7)))
    have B7 := B6.same s7
    refine ⟨_, rfl, _, rfl, _, _, rfl, rfl, _, rfl, rd_no (rd_slA B7 T8 fun p3 H8 s8 T9 => ?_)⟩
    rw [show ((n : Int) + 1) = ((n + 1 : Nat) : Int) from by omega, cut_drop, ← List.map_drop] at T9
    refine rd_catA (B7.same s8) (T7.sm s8) T9 (by rw [List.length_append, List.length_map, List.length_map, List.length_take, List.length_drop]; show (_ + 1) + _ ≤ _; omega) fun p4 H9 s9 T10 => ?_
    refine ⟨.ref p4, ⟨_, _, _, _, _, _, _, _, _, _, _, _, rfl⟩, ⟨p4, _, rfl, T10, by rw [List.length_append, List.length_append, List.length_map, List.length_map, List.length_take, List.length_drop]; show (_ + 1) + _ ≤ _; omega, by rw [List.length_append, List.length_append]; show 0 < (_ + 1) + _; omega, fun y hy => ?_⟩, (T8.sm s8).sm s9, (B7.same s8).same s9⟩
    rcases List.mem_append.mp hy with hy | hy
    · rcases List.mem_append.mp hy with hy | hy
      · obtain ⟨z, rfl, _⟩ := mem_ints hy
        exact nvk_int z
      · obtain rfl : y = v := by simpa using hy
        exact ov
    · obtain ⟨z, rfl, _⟩ := mem_ints hy
      exact nvk_int z
  rintro σ H3 ⟨w, ⟨x2, x3, x5, x6, x7, x9, x10, x11, x12, x13, x14, x15, rfl⟩, lw, T3, B3⟩
  refine ⟨fun σ H => (∃ x2 x3 x5 x6 x7 x9 x10 x11 x12 x13 x14 x15 x17, σ = sg a b x2 x3 (some (.int (n : Int))) x5 x6 x7 (some (.int c)) x9 x10 x11 x12 x13 x14 x15 (some (.ref P)) x17) ∧ Tp b K H P (ks.map V.int) ∧ BagL H b l, ?_, ?_⟩
  · refine ⟨_, rfl, _, rfl, (by show 2 ≤ sizeLine; decide), fun q hq => ?_⟩
    have kq := Keep.new (Keep.refl b H3) hq (o := .lst [.ref P, w])
    have lnP : Ln b K H3 (.ref P) := ⟨P, _, rfl, T3, by rw [List.length_map]; omega, by rw [List.length_map]; omega, fun y hy => by
      obtain ⟨z, rfl, _⟩ := mem_ints hy
      exact nvk_int z⟩
    have hqL := upd_same (H := H3) (a := q) (o := .lst [.ref P, w])
    have l1 := ln_keep lw kq
    have l2 := ln_keep lnP kq
    have Tq := T3.keep kq
    have Bq := B3.new hq (o := .lst [.ref P, w])
    refine ⟨q, rfl, ⟨_, SqL.of hqL⟩, ?_⟩
    generalize upd H3 q (.lst [.ref P, w]) = Hq at hqL l1 l2 Tq Bq ⊢
    refine for_list (K := K) (a := q) (xs := [.ref P, w]) (fun i σ H => (∃ x2 x3 x5 x6 x7 x9 x10 x11 x12 x13 x14 x15 x17, σ = sg a b x2 x3 (some (.int (n : Int))) x5 x6 x7 (some (.int c)) x9 x10 x11 x12 x13 x14 x15 (some (.ref P)) x17) ∧ Same Hq H)
      ⟨⟨_, _, _, _, _, _, _, _, _, _, _, _, _, rfl⟩, Same.refl _⟩ (fun i σ H' _ h => SqL.of (h.2 _ _ hqL)) ?_ (fun σ H' h => ⟨h.1, Tq.sm h.2, Bq.same h.2⟩)
    rintro i v σ H' hv ⟨⟨x2, x3, x5, x6, x7, x9, x10, x11, x12, x13, x14, x15, x17, rfl⟩, s'⟩
    have lv : Ln b K Hq v := by
      have := List.mem_of_getElem? hv
      simp only [List.mem_cons, List.not_mem_nil, or_false] at this
      rcases this with rfl | rfl
      · exact l2
      · exact l1
    obtain ⟨r, fx⟩ := ln_facts lv
    have f0 := fx H' (Keep.ofSame s')
    refine ⟨_, rfl, v, false, none, r, r, none, rfl, f0.1, f0.2.1, f0.2.2.1, f0.2.2.2, (fun z e => nomatch e), fun D1 H5 _ s5 e1 => ?_⟩
    refine ⟨_, rfl, v, r, rfl, f0.2.1.sm s5, fun H6 s6 => ⟨_, rfl, v, r, rfl, (f0.2.1.sm s5).sm s6, fun H7 s7 => ⟨(by show 4 ≤ sizeLine; decide), fun D2 hD2 => ?_⟩⟩⟩
    have s8 : Same H5 (upd H7 D2 (.lst [.bl false, .bl r, .bl r, .bl false])) := Same.new (s6.trans s7) hD2
    have fl : ∀ x ∈ [V.bl false, V.bl r, V.bl r, V.bl false], flatV x = true := fun x hx => by
      simp only [List.mem_cons, List.not_mem_nil, or_false] at hx
      rcases hx with rfl | rfl | rfl | rfl <;> rfl
    refine ⟨.ref D1, .ref D2, rfl, al_flatL (SqL.of (s8 _ _ e1)) (SqL.of upd_same) fl (by show 4 ≤ 2000; decide), fun H8 s9 => ⟨_, rfl, iteF ?_⟩⟩
    exact ⟨⟨_, _, _, _, _, _, _, _, _, _, _, _, _, rfl⟩, ((s'.trans s5).trans s8).trans s9⟩
  rintro σ H4 ⟨⟨x2, x3, x5, x6, x7, x9, x10, x11, x12, x13, x14, x15, x17, rfl⟩, T4, B4⟩
  have hg : (ks.map V.int)[n]? = some (.int ks[n]) := by rw [List.getElem?_map, List.getElem?_eq_getElem hn]; rfl
  refine ⟨fun σ H => ∃ L t1 t2, (∃ x2 x3 x5 x6 x7 x9 x10 x11 x12 x13 x14 x17, σ = sg a b x2 x3 (some (.int (n : Int))) x5 x6 x7 (some (.int c)) x9 x10 x11 x12 x13 x14 (some (.ref L)) (some (.ref P)) x17) ∧ H L = some (.lst [.ref t1, .ref t2]) ∧ StrR H t1 ks (.int c) (.int ks[n]) (some c) (some ks[n]) ∧ H t2 = some (.tup [lowV ks c, highV ks c]) ∧ Tp b K H P (ks.map V.int), ?_, ?_⟩
  · refine ⟨_, rfl, _, rfl, _, rfl, _, rfl, P, _, (n : Int), _, rfl, rfl, T4.1, atI_nat hg, P, ks, .int c, .int ks[n], some c, some ks[n], false, rfl, T4.1, by omega, .int c, .int _, fun t1 H5 _ s5 st1 => ?_⟩
    refine ⟨_, rfl, _, rfl, P, ks, c, rfl, (T4.sm s5).1, by omega, fun t2 H6 _ s6 e2 => ⟨(by show 2 ≤ sizeLine; decide), fun L hL => ?_⟩⟩
    have s7 := Same.new (Same.refl H6) hL (o := .lst [.ref t1, .ref t2])
    exact ⟨L, t1, t2, ⟨_, _, _, _, _, _, _, _, _, _, _, _, rfl⟩, upd_same, st1.sm (s6.trans s7), s7 _ _ e2, T4.sm ((s5.trans s6).trans s7)⟩
  rintro σ H5 ⟨L, t1, t2, ⟨x2, x3, x5, x6, x7, x9, x10, x11, x12, x13, x14, x17, rfl⟩, hL, st1, e2, T5⟩
  refine ⟨_, rfl, _, rfl, _, rfl, _, rfl, _, rfl, P, _, (n : Int), _, rfl, rfl, T5.1, atI_nat hg, P, ks, .int c, .int ks[n], some c, some ks[n], rfl, T5.1, by omega, .int c, .int _, fun t3 H6 _ s6 st2 => ?_⟩
  refine ⟨_, rfl, _, rfl, P, ks, c, rfl, (T5.sm s6).1, by omega, fun t4 H7 _ s7 e3 => ⟨(by show 2 ≤ sizeLine; decide), fun L2 hL2 => ?_⟩⟩
  have s8 := Same.new (Same.refl H7) hL2 (o := .lst [.ref t3, .ref t4])
  have s58 := (s6.trans s7).trans s8
  refine ⟨.ref L, .ref L2, rfl, .inr (.inl ⟨L, L2, [.ref t1, .ref t2], [.ref t3, .ref t4], rfl, rfl, SqL.of (s58 _ _ hL), SqL.of upd_same, (by show 2 < sizeLine; decide),
    .cons (al_str (st1.sm s58) (st2.sm (s7.trans s8)) (al_flat rfl) (al_flat rfl) (by omega)) (.cons (al_flatT (SqT.of (s58 _ _ e2)) (SqT.of (s8 _ _ e3)) (near_flat ks c) (by show 2 ≤ 2000; decide)) .nil)⟩), fun H9 s9 => k H9⟩
end
end K02

end

section
set_option Elab.async false
set_option linter.all false
set_option maxRecDepth 100000
set_option maxHeartbeats 16000000
namespace K02
open PySem L2 SB
theorem g1_rel {vs : List V} {us : List Value} {zs : List V} {ws : List Value} (r : Vals vs us) (q : Vals zs ws) : Vals (g1 vs zs) (g1 us ws) := by
  cases r with
  | nil =>
    cases q with
    | nil => exact .nil
    | cons a q =>
      cases q with
      | nil => exact .cons a .nil
      | cons b q => exact .nil
  | cons a r => exact .nil
theorem gF_rel {vs : List V} {us : List Value} {zs : List V} {ws : List Value} (r : Vals vs us) (q : Vals zs ws) : Vals (gF vs zs) (gF us ws) := by
  cases r with
  | nil =>
    cases q with
    | nil => exact .nil
    | cons a q =>
      cases q with
      | nil => exact .nil
      | cons b q =>
        cases q with
        | nil => exact .cons b (.cons a .nil)
        | cons c q => exact .nil
  | cons a r => exact .nil
theorem gS_rel {vs : List V} {us : List Value} {zs : List V} {ws : List Value} (r : Vals vs us) (q : Vals zs ws) : Vals (gS vs zs) (gS us ws) := by
  cases r with
  | nil =>
    cases q with
    | nil => exact .nil
    | cons a q =>
      cases q with
      | nil => exact .nil
      | cons b q =>
        cases q with
        | nil => exact .nil
        | cons c q =>
          cases q with
          | nil => exact .cons c (.cons b (.cons a .nil))
          | cons d q => exact .nil
  | cons a r => exact .nil
theorem all_mk {l : PySem.W.OpenLaw} {w : World} {K : PySem.W.Frag} {h : Heap} {mg : Str → Option Value} {fa CR gI DK f0 f1 f2 f3 f4 f5 f6 f7 f8 f9 f10 f11 f12 f13 f14 f15 f16 f17 f18 f19 f20 f21 f22 f23 f24 f25 f26 m0 m1 m2 CU gU : Addr} (X : K.In h) (G : h.Ns mainGlobals mg) (hfa : mg "law" = some (.ref fa))
    {od0 an0 od1 an1 od2 an2 od3 an3 od4 an4 od5 an5 od6 an6 od7 an7 od8 an8 od9 an9 od10 an10 od11 an11 od12 an12 od13 an13 od14 an14 od15 an15 od16 an16 od17 an17 od18 an18 od19 an19 od20 an20 od21 an21 od22 an22 od23 an23 od24 an24 od25 an25 od26 an26 odm0 anm0 odm1 anm1 odm2 anm2 odgi angi odxU anxU : Option Addr} {sl0 sl1 sl2 sl3 sl4 sl5 sl6 sl7 sl8 sl9 sl10 sl11 sl12 sl13 sl14 sl15 sl16 sl17 sl18 sl19 sl20 sl21 sl22 sl23 sl24 sl25 sl26 slm0 slm1 slm2 slgi slxU : Array (Option Value)} {oc0 dc0 pm0 cd0 ct0 kV0 oc1 dc1 pm1 cd1 ct1 kV1 oc2 dc2 pm2 cd2 ct2 kV2 oc3 dc3 pm3 cd3 ct3 kV3 oc4 dc4 pm4 cd4 ct4 kV4 oc5 dc5 pm5 cd5 ct5 kV5 oc6 dc6 pm6 cd6 ct6 kV6 oc7 dc7 pm7 cd7 ct7 kV7 oc8 dc8 pm8 cd8 ct8 kV8 oc9 dc9 pm9 cd9 ct9 kV9 oc10 dc10 pm10 cd10 ct10 kV10 oc11 dc11 pm11 cd11 ct11 kV11 oc12 dc12 pm12 cd12 ct12 kV12 oc13 dc13 pm13 cd13 ct13 kV13 oc14 dc14 pm14 cd14 ct14 kV14 oc15 dc15 pm15 cd15 ct15 kV15 oc16 dc16 pm16 cd16 ct16 kV16 oc17 dc17 pm17 cd17 ct17 kV17 oc18 dc18 pm18 cd18 ct18 kV18 oc19 dc19 pm19 cd19 ct19 kV19 oc20 dc20 pm20 cd20 ct20 kV20 oc21 dc21 pm21 cd21 ct21 kV21 oc22 dc22 pm22 cd22 ct22 kV22 oc23 dc23 pm23 cd23 ct23 kV23 oc24 dc24 pm24 cd24 ct24 kV24 oc25 dc25 pm25 cd25 ct25 kV25 oc26 dc26 pm26 cd26 ct26 kV26 ocm0 dcm0 pmm0 cdm0 ctm0 kVm0 ocm1 dcm1 pmm1 cdm1 ctm1 kVm1 ocm2 dcm2 pmm2 cdm2 ctm2 kVm2 ocgi dcgi pmgi cdgi ctgi ocxU dcxU pmxU cdxU ctxU kVxU : Value} {tG tL tD tN : Tok}
    (a0 : PySem.W.nsIn K mainGlobals "is_number" = some (some (.ref f0)))
    (l0 : K.lookup f0 = some ⟨oc0, od0, .func (PySem.W.fnOf "is_number" "is_number" (defArgs s_is_number) (defBody s_is_number) (defScope s_is_number) .none kV0 dc0 pm0 an0 cd0 ct0), sl0⟩)
    (c0 : PySem.W.codeIn K cd0 "is_number" = true)
    (k0 : PySem.W.keepIn K (.ref f0) = true)
    (a1 : PySem.W.nsIn K mainGlobals "is_key" = some (some (.ref f1)))
    (l1 : K.lookup f1 = some ⟨oc1, od1, .func (PySem.W.fnOf "is_key" "is_key" (defArgs s_is_key) (defBody s_is_key) (defScope s_is_key) .none kV1 dc1 pm1 an1 cd1 ct1), sl1⟩)
    (c1 : PySem.W.codeIn K cd1 "is_key" = true)
    (k1 : PySem.W.keepIn K (.ref f1) = true)
    (a2 : PySem.W.nsIn K mainGlobals "is_key_set" = some (some (.ref f2)))
    (l2 : K.lookup f2 = some ⟨oc2, od2, .func (PySem.W.fnOf "is_key_set" "is_key_set" (defArgs s_is_key_set) (defBody s_is_key_set) (defScope s_is_key_set) .none kV2 dc2 pm2 an2 cd2 ct2), sl2⟩)
    (c2 : PySem.W.codeIn K cd2 "is_key_set" = true)
    (k2 : PySem.W.keepIn K (.ref f2) = true)
    (a3 : PySem.W.nsIn K mainGlobals "is_lot" = some (some (.ref f3)))
    (l3 : K.lookup f3 = some ⟨oc3, od3, .func (PySem.W.fnOf "is_lot" "is_lot" (defArgs s_is_lot) (defBody s_is_lot) (defScope s_is_lot) .none kV3 dc3 pm3 an3 cd3 ct3), sl3⟩)
    (c3 : PySem.W.codeIn K cd3 "is_lot" = true)
    (k3 : PySem.W.keepIn K (.ref f3) = true)
    (a4 : PySem.W.nsIn K mainGlobals "is_name" = some (some (.ref f4)))
    (l4 : K.lookup f4 = some ⟨oc4, od4, .func (PySem.W.fnOf "is_name" "is_name" (defArgs s_is_name) (defBody s_is_name) (defScope s_is_name) .none kV4 dc4 pm4 an4 cd4 ct4), sl4⟩)
    (c4 : PySem.W.codeIn K cd4 "is_name" = true)
    (k4 : PySem.W.keepIn K (.ref f4) = true)
    (a5 : PySem.W.nsIn K mainGlobals "lives_in" = some (some (.ref f5)))
    (l5 : K.lookup f5 = some ⟨oc5, od5, .func (PySem.W.fnOf "lives_in" "lives_in" (defArgs s_lives_in) (defBody s_lives_in) (defScope s_lives_in) .none kV5 dc5 pm5 an5 cd5 ct5), sl5⟩)
    (c5 : PySem.W.codeIn K cd5 "lives_in" = true)
    (k5 : PySem.W.keepIn K (.ref f5) = true)
    (a6 : PySem.W.nsIn K mainGlobals "check_lives" = some (some (.ref f6)))
    (l6 : K.lookup f6 = some ⟨oc6, od6, .func (PySem.W.fnOf "check_lives" "check_lives" (defArgs s_check_lives) (defBody s_check_lives) (defScope s_check_lives) .none kV6 dc6 pm6 an6 cd6 ct6), sl6⟩)
    (c6 : PySem.W.codeIn K cd6 "check_lives" = true)
    (k6 : PySem.W.keepIn K (.ref f6) = true)
    (a7 : PySem.W.nsIn K mainGlobals "stretch_between" = some (some (.ref f7)))
    (l7 : K.lookup f7 = some ⟨oc7, od7, .func (PySem.W.fnOf "stretch_between" "stretch_between" (defArgs s_stretch_between) (defBody s_stretch_between) (defScope s_stretch_between) .none kV7 dc7 pm7 an7 cd7 ct7), sl7⟩)
    (c7 : PySem.W.codeIn K cd7 "stretch_between" = true)
    (k7 : PySem.W.keepIn K (.ref f7) = true)
    (a8 : PySem.W.nsIn K mainGlobals "neighbours_of" = some (some (.ref f8)))
    (l8 : K.lookup f8 = some ⟨oc8, od8, .func (PySem.W.fnOf "neighbours_of" "neighbours_of" (defArgs s_neighbours_of) (defBody s_neighbours_of) (defScope s_neighbours_of) .none kV8 dc8 pm8 an8 cd8 ct8), sl8⟩)
    (c8 : PySem.W.codeIn K cd8 "neighbours_of" = true)
    (k8 : PySem.W.keepIn K (.ref f8) = true)
    (a9 : PySem.W.nsIn K mainGlobals "_law_bag" = some (some (.ref f9)))
    (l9 : K.lookup f9 = some ⟨oc9, od9, .func (PySem.W.fnOf "_law_bag" "_law_bag" (defArgs s_l_bag) (defBody s_l_bag) (defScope s_l_bag) .none kV9 dc9 pm9 an9 cd9 ct9), sl9⟩)
    (c9 : PySem.W.codeIn K cd9 "_law_bag" = true)
    (k9 : PySem.W.keepIn K (.ref f9) = true)
    (a10 : PySem.W.nsIn K mainGlobals "_law_draw" = some (some (.ref f10)))
    (l10 : K.lookup f10 = some ⟨oc10, od10, .func (PySem.W.fnOf "_law_draw" "_law_draw" (defArgs s_l_draw) (defBody s_l_draw) (defScope s_l_draw) .none kV10 dc10 pm10 an10 cd10 ct10), sl10⟩)
    (c10 : PySem.W.codeIn K cd10 "_law_draw" = true)
    (k10 : PySem.W.keepIn K (.ref f10) = true)
    (a11 : PySem.W.nsIn K mainGlobals "_law_of" = some (some (.ref f11)))
    (l11 : K.lookup f11 = some ⟨oc11, od11, .func (PySem.W.fnOf "_law_of" "_law_of" (defArgs s_l_of) (defBody s_l_of) (defScope s_l_of) .none kV11 dc11 pm11 an11 cd11 ct11), sl11⟩)
    (c11 : PySem.W.codeIn K cd11 "_law_of" = true)
    (k11 : PySem.W.keepIn K (.ref f11) = true)
    (a12 : PySem.W.nsIn K mainGlobals "_law_keys" = some (some (.ref f12)))
    (l12 : K.lookup f12 = some ⟨oc12, od12, .func (PySem.W.fnOf "_law_keys" "_law_keys" (defArgs s_l_keys) (defBody s_l_keys) (defScope s_l_keys) .none kV12 dc12 pm12 an12 cd12 ct12), sl12⟩)
    (c12 : PySem.W.codeIn K cd12 "_law_keys" = true)
    (k12 : PySem.W.keepIn K (.ref f12) = true)
    (a13 : PySem.W.nsIn K mainGlobals "_law_stranger" = some (some (.ref f13)))
    (l13 : K.lookup f13 = some ⟨oc13, od13, .func (PySem.W.fnOf "_law_stranger" "_law_stranger" (defArgs s_l_stranger) (defBody s_l_stranger) (defScope s_l_stranger) .none kV13 dc13 pm13 an13 cd13 ct13), sl13⟩)
    (c13 : PySem.W.codeIn K cd13 "_law_stranger" = true)
    (k13 : PySem.W.keepIn K (.ref f13) = true)
    (a14 : PySem.W.nsIn K mainGlobals "_law_is_key" = some (some (.ref f14)))
    (l14 : K.lookup f14 = some ⟨oc14, od14, .func (PySem.W.fnOf "_law_is_key" "_law_is_key" (defArgs s_l_is_key) (defBody s_l_is_key) (defScope s_l_is_key) .none kV14 dc14 pm14 an14 cd14 ct14), sl14⟩)
    (c14 : PySem.W.codeIn K cd14 "_law_is_key" = true)
    (k14 : PySem.W.keepIn K (.ref f14) = true)
    (a15 : PySem.W.nsIn K mainGlobals "_law_is_set" = some (some (.ref f15)))
    (l15 : K.lookup f15 = some ⟨oc15, od15, .func (PySem.W.fnOf "_law_is_set" "_law_is_set" (defArgs s_l_is_set) (defBody s_l_is_set) (defScope s_l_is_set) .none kV15 dc15 pm15 an15 cd15 ct15), sl15⟩)
    (c15 : PySem.W.codeIn K cd15 "_law_is_set" = true)
    (k15 : PySem.W.keepIn K (.ref f15) = true)
    (a16 : PySem.W.nsIn K mainGlobals "_law_is_name" = some (some (.ref f16)))
    (l16 : K.lookup f16 = some ⟨oc16, od16, .func (PySem.W.fnOf "_law_is_name" "_law_is_name" (defArgs s_l_is_name) (defBody s_l_is_name) (defScope s_l_is_name) .none kV16 dc16 pm16 an16 cd16 ct16), sl16⟩)
    (c16 : PySem.W.codeIn K cd16 "_law_is_name" = true)
    (k16 : PySem.W.keepIn K (.ref f16) = true)
    (a17 : PySem.W.nsIn K mainGlobals "_law_word" = some (some (.ref f17)))
    (l17 : K.lookup f17 = some ⟨oc17, od17, .func (PySem.W.fnOf "_law_word" "_law_word" (defArgs s_l_word) (defBody s_l_word) (defScope s_l_word) .none kV17 dc17 pm17 an17 cd17 ct17), sl17⟩)
    (c17 : PySem.W.codeIn K cd17 "_law_word" = true)
    (k17 : PySem.W.keepIn K (.ref f17) = true)
    (a18 : PySem.W.nsIn K mainGlobals "_law_number" = some (some (.ref f18)))
    (l18 : K.lookup f18 = some ⟨oc18, od18, .func (PySem.W.fnOf "_law_number" "_law_number" (defArgs s_l_number) (defBody s_l_number) (defScope s_l_number) .none kV18 dc18 pm18 an18 cd18 ct18), sl18⟩)
    (c18 : PySem.W.codeIn K cd18 "_law_number" = true)
    (k18 : PySem.W.keepIn K (.ref f18) = true)
    (a19 : PySem.W.nsIn K mainGlobals "_law_tuple" = some (some (.ref f19)))
    (l19 : K.lookup f19 = some ⟨oc19, od19, .func (PySem.W.fnOf "_law_tuple" "_law_tuple" (defArgs s_l_tuple) (defBody s_l_tuple) (defScope s_l_tuple) .none kV19 dc19 pm19 an19 cd19 ct19), sl19⟩)
    (c19 : PySem.W.codeIn K cd19 "_law_tuple" = true)
    (k19 : PySem.W.keepIn K (.ref f19) = true)
    (a20 : PySem.W.nsIn K mainGlobals "_law_odd" = some (some (.ref f20)))
    (l20 : K.lookup f20 = some ⟨oc20, od20, .func (PySem.W.fnOf "_law_odd" "_law_odd" (defArgs s_l_odd) (defBody s_l_odd) (defScope s_l_odd) .none kV20 dc20 pm20 an20 cd20 ct20), sl20⟩)
    (c20 : PySem.W.codeIn K cd20 "_law_odd" = true)
    (k20 : PySem.W.keepIn K (.ref f20) = true)
    (a21 : PySem.W.nsIn K mainGlobals "_law_stretch" = some (some (.ref f21)))
    (l21 : K.lookup f21 = some ⟨oc21, od21, .func (PySem.W.fnOf "_law_stretch" "_law_stretch" (defArgs s_l_stretch) (defBody s_l_stretch) (defScope s_l_stretch) .none kV21 dc21 pm21 an21 cd21 ct21), sl21⟩)
    (c21 : PySem.W.codeIn K cd21 "_law_stretch" = true)
    (k21 : PySem.W.keepIn K (.ref f21) = true)
    (a22 : PySem.W.nsIn K mainGlobals "_law_stretch_due" = some (some (.ref f22)))
    (l22 : K.lookup f22 = some ⟨oc22, od22, .func (PySem.W.fnOf "_law_stretch_due" "_law_stretch_due" (defArgs s_l_stretch_due) (defBody s_l_stretch_due) (defScope s_l_stretch_due) .none kV22 dc22 pm22 an22 cd22 ct22), sl22⟩)
    (c22 : PySem.W.codeIn K cd22 "_law_stretch_due" = true)
    (k22 : PySem.W.keepIn K (.ref f22) = true)
    (a23 : PySem.W.nsIn K mainGlobals "_law_near" = some (some (.ref f23)))
    (l23 : K.lookup f23 = some ⟨oc23, od23, .func (PySem.W.fnOf "_law_near" "_law_near" (defArgs s_l_near) (defBody s_l_near) (defScope s_l_near) .none kV23 dc23 pm23 an23 cd23 ct23), sl23⟩)
    (c23 : PySem.W.codeIn K cd23 "_law_near" = true)
    (k23 : PySem.W.keepIn K (.ref f23) = true)
    (a24 : PySem.W.nsIn K mainGlobals "_law_judged" = some (some (.ref f24)))
    (l24 : K.lookup f24 = some ⟨oc24, od24, .func (PySem.W.fnOf "_law_judged" "_law_judged" (defArgs s_l_judged) (defBody s_l_judged) (defScope s_l_judged) .none kV24 dc24 pm24 an24 cd24 ct24), sl24⟩)
    (c24 : PySem.W.codeIn K cd24 "_law_judged" = true)
    (k24 : PySem.W.keepIn K (.ref f24) = true)
    (a25 : PySem.W.nsIn K mainGlobals "_law_same" = some (some (.ref f25)))
    (l25 : K.lookup f25 = some ⟨oc25, od25, .func (PySem.W.fnOf "_law_same" "_law_same" (defArgs s_l_same) (defBody s_l_same) (defScope s_l_same) .none kV25 dc25 pm25 an25 cd25 ct25), sl25⟩)
    (c25 : PySem.W.codeIn K cd25 "_law_same" = true)
    (k25 : PySem.W.keepIn K (.ref f25) = true)
    (a26 : PySem.W.nsIn K mainGlobals "law" = some (some (.ref f26)))
    (l26 : K.lookup f26 = some ⟨oc26, od26, .func (PySem.W.fnOf "law" "law" (defArgs s_law) (defBody s_law) (defScope s_law) .none kV26 dc26 pm26 an26 cd26 ct26), sl26⟩)
    (c26 : PySem.W.codeIn K cd26 "law" = true)
    (k26 : PySem.W.keepIn K (.ref f26) = true)
    (ra : PySem.W.nsIn K mainGlobals "Row" = some (some (.ref CR)))
    (rm1 : PySem.W.findIn K (.ref CR) "__init__" = some (some (.ref gI)))
    (ma0 : PySem.W.findIn K (.ref CR) "text" = some (some (.ref m0)))
    (mf0 : PySem.W.isFn K (.ref m0) = true)
    (lm0 : K.lookup m0 = some ⟨ocm0, odm0, .func (PySem.W.fnOf "text" "Row.text" (defArgs s_Row_text) (defBody s_Row_text) (defScope s_Row_text) .none kVm0 dcm0 pmm0 anm0 cdm0 ctm0), slm0⟩)
    (cm0 : PySem.W.codeIn K cdm0 "Row.text" = true)
    (km0 : PySem.W.keepIn K (.ref m0) = true)
    (ma1 : PySem.W.findIn K (.ref CR) "_sign" = some (some (.ref m1)))
    (mf1 : PySem.W.isFn K (.ref m1) = true)
    (lm1 : K.lookup m1 = some ⟨ocm1, odm1, .func (PySem.W.fnOf "_sign" "Row._sign" (defArgs s_Row_sign) (defBody s_Row_sign) (defScope s_Row_sign) .none kVm1 dcm1 pmm1 anm1 cdm1 ctm1), slm1⟩)
    (cm1 : PySem.W.codeIn K cdm1 "Row._sign" = true)
    (km1 : PySem.W.keepIn K (.ref m1) = true)
    (ma2 : PySem.W.findIn K (.ref CR) "__repr__" = some (some (.ref m2)))
    (mf2 : PySem.W.isFn K (.ref m2) = true)
    (lm2 : K.lookup m2 = some ⟨ocm2, odm2, .func (PySem.W.fnOf "__repr__" "Row.__repr__" (defArgs s_Row_repr) (defBody s_Row_repr) (defScope s_Row_repr) .none kVm2 dcm2 pmm2 anm2 cdm2 ctm2), slm2⟩)
    (cm2 : PySem.W.codeIn K cdm2 "Row.__repr__" = true)
    (km2 : PySem.W.keepIn K (.ref m2) = true)
    (lgi : K.lookup gI = some ⟨ocgi, odgi, .func (PySem.W.fnOf "__init__" "Row.__init__" (defArgs s_Row_init) (defBody s_Row_init) (defScope s_Row_init) .none (.ref DK) dcgi pmgi angi cdgi ctgi), slgi⟩)
    (cgi : PySem.W.codeIn K cdgi "Row.__init__" = true)
    (kgi : PySem.W.keepIn K (.ref gI) = true)
    (rd0 : PySem.W.nsIn K DK "coming" = some (some .none))
    (rd1 : PySem.W.nsIn K DK "going" = some (some .none))
    (rc0 : PySem.W.plainGet K CR Str.empty = true)
    (rc1 : PySem.W.hasDictIn K CR = true)
    (rc2 : PySem.W.plainOver K CR = true)
    (rc3 : PySem.W.findIn K (.ref CR) "__setattr__" = some (some (.builtin "object.__setattr__")))
    (rn0 : PySem.W.findIn K (.ref CR) "lot" = some none)
    (rn1 : PySem.W.findIn K (.ref CR) "coming" = some none)
    (rn2 : PySem.W.findIn K (.ref CR) "going" = some none)
    (rt0 : PySem.W.findIn K (.ref CR) "__class__" = some (some (.builtin "object.__class__")))
    (rt1 : PySem.W.specialIn K (.builtin "object.__class__") "__get__" = some (some (.builtin "getset_descriptor.__get__")))
    (rt2 : PySem.W.takesIn K (.builtin "object.__class__") = some true)
    (rt3 : PySem.W.mroIn K CR (.type "object") = some true)
    (rm0 : PySem.W.makesIn K CR = true)
    (rm2 : PySem.W.isFn K (.ref gI) = true)
    (rm3 : PySem.W.keepIn K (.ref CR) = true)
    (rk_int : PySem.W.kitOne K (.ref CR) (.type "int") = some false)
    (rk_bool : PySem.W.kitOne K (.ref CR) (.type "bool") = some false)
    (rk_tuple : PySem.W.kitOne K (.ref CR) (.type "tuple") = some false)
    (rk_str : PySem.W.kitOne K (.ref CR) (.type "str") = some false)
    (xaU : PySem.W.nsIn K mainGlobals "UnknownKey" = some (some (.ref CU)))
    (xmU : PySem.W.excInitIn K CU bmLE "LookupError.__new__" = true)
    (xoU : PySem.W.excOver K CU bmLE = true)
    (xhU : PySem.W.hasDictIn K CU = true)
    (xsU : PySem.W.findIn K (.ref CU) "__setattr__" = some (some (.builtin "object.__setattr__")))
    (xeU : PySem.W.subIn K (.ref CU) (.type "BaseException") = some true)
    (xtU : PySem.W.typeIn K (.ref CU) = some (.type "type"))
    (xkU : PySem.W.keepIn K (.ref CU) = true)
    (xgU : PySem.W.findIn K (.ref CU) "__getattribute__" = some (some (.builtin "BaseException.__getattribute__")))
    (xqU : PySem.W.findIn K (.ref CU) "__getattr__" = some none)
    (xiU : PySem.W.findIn K (.ref CU) "__init__" = some (some (.ref gU)))
    (xfU : PySem.W.typeIn K (.ref gU) = some (.type "function"))
    (lxU : K.lookup gU = some ⟨ocxU, odxU, .func (PySem.W.fnOf "__init__" "UnknownKey.__init__" (defArgs s_UnknownKey_init) (defBody s_UnknownKey_init) (defScope s_UnknownKey_init) .none kVxU dcxU pmxU anxU cdxU ctxU), slxU⟩)
    (cxU : PySem.W.codeIn K cdxU "UnknownKey.__init__" = true)
    (kxU : PySem.W.keepIn K (.ref gU) = true)
    (xnU : PySem.W.findIn K (.ref CU) "code" = some none)
    (xzU : PySem.W.subIn K (.ref CU) (.ref CU) = some true)
    (xyUkey : PySem.W.findIn K (.ref CU) "key" = some none)
    (z_int : PySem.W.nsIn K mainGlobals "int" = some none)
    (z_list : PySem.W.nsIn K mainGlobals "list" = some none)
    (z_len : PySem.W.nsIn K mainGlobals "len" = some none)
    (z_abs : PySem.W.nsIn K mainGlobals "abs" = some none)
    (z_isinstance : PySem.W.nsIn K mainGlobals "isinstance" = some none)
    (z_tuple : PySem.W.nsIn K mainGlobals "tuple" = some none)
    (z_all : PySem.W.nsIn K mainGlobals "all" = some none)
    (z_zip : PySem.W.nsIn K mainGlobals "zip" = some none)
    (z_bool : PySem.W.nsIn K mainGlobals "bool" = some none)
    (z_str : PySem.W.nsIn K mainGlobals "str" = some none)
    (z_range : PySem.W.nsIn K mainGlobals "range" = some none)
    (z_max : PySem.W.nsIn K mainGlobals "max" = some none)
    (z_min : PySem.W.nsIn K mainGlobals "min" = some none)
    (z_sorted : PySem.W.nsIn K mainGlobals "sorted" = some none)
    (z_repr : PySem.W.nsIn K mainGlobals "repr" = some none)
    (gk : PySem.W.nsIn K mainGlobals "GREATEST_KEY" = some (some (.int 999 tG)))
    (gl : PySem.W.nsIn K mainGlobals "LETTERS" = some (some (.str LET tL)))
    (gd : PySem.W.nsIn K mainGlobals "DIGITS" = some (some (.str DIG tD)))
    (gn : PySem.W.nsIn K mainGlobals "LONGEST_NAME" = some (some (.int 12 tN))) :
    ∃ fd : FuncData, (∀ (s : Shared) (v : Value), BindsTo s fd ⟨[v], []⟩ [("_law_script", v)]) ∧ ∀ base : Heap, K.In base → base.Ns mainGlobals mg → AtCaller l.prog w K mg base fa fd "_law_script" (spLaw K) := by
  have e := hfa.symm.trans (PySem.W.mg_of X G a26)
  cases e
  have q0 := PySem.W.mg_of X G a0
  have F0 := fun_mk (st := s_is_number) l0 c0 k0
  have b0 := F0.binds (ps := ["value"]) fun _ _ _ _ _ _ us hl => match us, hl with | [_], _ => rfl
  have q1 := PySem.W.mg_of X G a1
  have F1 := fun_mk (st := s_is_key) l1 c1 k1
  have b1 := F1.binds (ps := ["value"]) fun _ _ _ _ _ _ us hl => match us, hl with | [_], _ => rfl
  have q2 := PySem.W.mg_of X G a2
  have F2 := fun_mk (st := s_is_key_set) l2 c2 k2
  have b2 := F2.binds (ps := ["value"]) fun _ _ _ _ _ _ us hl => match us, hl with | [_], _ => rfl
  have q3 := PySem.W.mg_of X G a3
  have F3 := fun_mk (st := s_is_lot) l3 c3 k3
  have b3 := F3.binds (ps := ["value"]) fun _ _ _ _ _ _ us hl => match us, hl with | [_], _ => rfl
  have q4 := PySem.W.mg_of X G a4
  have F4 := fun_mk (st := s_is_name) l4 c4 k4
  have b4 := F4.binds (ps := ["value"]) fun _ _ _ _ _ _ us hl => match us, hl with | [_], _ => rfl
  have q5 := PySem.W.mg_of X G a5
  have F5 := fun_mk (st := s_lives_in) l5 c5 k5
  have b5 := F5.binds (ps := ["living", "value"]) fun _ _ _ _ _ _ us hl => match us, hl with | [_, _], _ => rfl
  have q6 := PySem.W.mg_of X G a6
  have F6 := fun_mk (st := s_check_lives) l6 c6 k6
  have b6 := F6.binds (ps := ["living", "value"]) fun _ _ _ _ _ _ us hl => match us, hl with | [_, _], _ => rfl
  have q7 := PySem.W.mg_of X G a7
  have F7 := fun_mk (st := s_stretch_between) l7 c7 k7
  have b7 := F7.binds (ps := ["living", "one", "other"]) fun _ _ _ _ _ _ us hl => match us, hl with | [_, _, _], _ => rfl
  have q8 := PySem.W.mg_of X G a8
  have F8 := fun_mk (st := s_neighbours_of) l8 c8 k8
  have b8 := F8.binds (ps := ["living", "key"]) fun _ _ _ _ _ _ us hl => match us, hl with | [_, _], _ => rfl
  have q9 := PySem.W.mg_of X G a9
  have F9 := fun_mk (st := s_l_bag) l9 c9 k9
  have b9 := F9.binds (ps := ["_law_script"]) fun _ _ _ _ _ _ us hl => match us, hl with | [_], _ => rfl
  have q10 := PySem.W.mg_of X G a10
  have F10 := fun_mk (st := s_l_draw) l10 c10 k10
  have b10 := F10.binds (ps := ["_law_bag_here", "_law_top"]) fun _ _ _ _ _ _ us hl => match us, hl with | [_, _], _ => rfl
  have q11 := PySem.W.mg_of X G a11
  have F11 := fun_mk (st := s_l_of) l11 c11 k11
  have b11 := F11.binds (ps := ["_law_bag_here", "_law_some"]) fun _ _ _ _ _ _ us hl => match us, hl with | [_, _], _ => rfl
  have q12 := PySem.W.mg_of X G a12
  have F12 := fun_mk (st := s_l_keys) l12 c12 k12
  have b12 := F12.binds (ps := ["_law_bag_here", "_law_many"]) fun _ _ _ _ _ _ us hl => match us, hl with | [_, _], _ => rfl
  have q13 := PySem.W.mg_of X G a13
  have F13 := fun_mk (st := s_l_stranger) l13 c13 k13
  have b13 := F13.binds (ps := ["_law_bag_here", "_law_ks"]) fun _ _ _ _ _ _ us hl => match us, hl with | [_, _], _ => rfl
  have q14 := PySem.W.mg_of X G a14
  have F14 := fun_mk (st := s_l_is_key) l14 c14 k14
  have b14 := F14.binds (ps := ["_law_v"]) fun _ _ _ _ _ _ us hl => match us, hl with | [_], _ => rfl
  have q15 := PySem.W.mg_of X G a15
  have F15 := fun_mk (st := s_l_is_set) l15 c15 k15
  have b15 := F15.binds (ps := ["_law_v"]) fun _ _ _ _ _ _ us hl => match us, hl with | [_], _ => rfl
  have q16 := PySem.W.mg_of X G a16
  have F16 := fun_mk (st := s_l_is_name) l16 c16 k16
  have b16 := F16.binds (ps := ["_law_v"]) fun _ _ _ _ _ _ us hl => match us, hl with | [_], _ => rfl
  have q17 := PySem.W.mg_of X G a17
  have F17 := fun_mk (st := s_l_word) l17 c17 k17
  have b17 := F17.binds (ps := ["_law_bag_here"]) fun _ _ _ _ _ _ us hl => match us, hl with | [_], _ => rfl
  have q18 := PySem.W.mg_of X G a18
  have F18 := fun_mk (st := s_l_number) l18 c18 k18
  have b18 := F18.binds (ps := ["_law_bag_here"]) fun _ _ _ _ _ _ us hl => match us, hl with | [_], _ => rfl
  have q19 := PySem.W.mg_of X G a19
  have F19 := fun_mk (st := s_l_tuple) l19 c19 k19
  have b19 := F19.binds (ps := ["_law_bag_here", "_law_ks"]) fun _ _ _ _ _ _ us hl => match us, hl with | [_, _], _ => rfl
  have q20 := PySem.W.mg_of X G a20
  have F20 := fun_mk (st := s_l_odd) l20 c20 k20
  have b20 := F20.binds (ps := ["_law_bag_here", "_law_ks", "_law_more"]) fun _ _ _ _ _ _ us hl => match us, hl with | [_, _, _], _ => rfl
  have q21 := PySem.W.mg_of X G a21
  have F21 := fun_mk (st := s_l_stretch) l21 c21 k21
  have b21 := F21.binds (ps := ["_law_ks", "_law_p", "_law_q", "_law_named"]) fun _ _ _ _ _ _ us hl => match us, hl with | [_, _, _, _], _ => rfl
  have q22 := PySem.W.mg_of X G a22
  have F22 := fun_mk (st := s_l_stretch_due) l22 c22 k22
  have b22 := F22.binds (ps := ["_law_ks", "_law_p", "_law_q"]) fun _ _ _ _ _ _ us hl => match us, hl with | [_, _, _], _ => rfl
  have q23 := PySem.W.mg_of X G a23
  have F23 := fun_mk (st := s_l_near) l23 c23 k23
  have b23 := F23.binds (ps := ["_law_ks", "_law_p"]) fun _ _ _ _ _ _ us hl => match us, hl with | [_, _], _ => rfl
  have q24 := PySem.W.mg_of X G a24
  have F24 := fun_mk (st := s_l_judged) l24 c24 k24
  have b24 := F24.binds (ps := ["_law_v", "_law_named"]) fun _ _ _ _ _ _ us hl => match us, hl with | [_, _], _ => rfl
  have q25 := PySem.W.mg_of X G a25
  have F25 := fun_mk (st := s_l_same) l25 c25 k25
  have b25 := F25.binds (ps := ["_law_found", "_law_due"]) fun _ _ _ _ _ _ us hl => match us, hl with | [_, _], _ => rfl
  have q26 := PySem.W.mg_of X G a26
  have F26 := fun_mk (st := s_law) l26 c26 k26
  have Fm0 := fun_mk (st := s_Row_text) lm0 cm0 km0
  have bm0 := Fm0.binds (ps := ["self"]) fun _ _ _ _ _ _ us hl => match us, hl with | [_], _ => rfl
  have Me0 : Meth K CR "text" m0 := ⟨ma0, mf0, km0⟩
  have Fm1 := fun_mk (st := s_Row_sign) lm1 cm1 km1
  have bm1 := Fm1.binds (ps := ["self", "key"]) fun _ _ _ _ _ _ us hl => match us, hl with | [_, _], _ => rfl
  have Me1 : Meth K CR "_sign" m1 := ⟨ma1, mf1, km1⟩
  have Fm2 := fun_mk (st := s_Row_repr) lm2 cm2 km2
  have bm2 := Fm2.binds (ps := ["self"]) fun _ _ _ _ _ _ us hl => match us, hl with | [_], _ => rfl
  have n_int := PySem.W.mg_none_of X G z_int
  have n_list := PySem.W.mg_none_of X G z_list
  have n_len := PySem.W.mg_none_of X G z_len
  have n_abs := PySem.W.mg_none_of X G z_abs
  have n_isinstance := PySem.W.mg_none_of X G z_isinstance
  have n_tuple := PySem.W.mg_none_of X G z_tuple
  have n_all := PySem.W.mg_none_of X G z_all
  have n_zip := PySem.W.mg_none_of X G z_zip
  have n_bool := PySem.W.mg_none_of X G z_bool
  have n_str := PySem.W.mg_none_of X G z_str
  have n_range := PySem.W.mg_none_of X G z_range
  have n_max := PySem.W.mg_none_of X G z_max
  have n_min := PySem.W.mg_none_of X G z_min
  have n_sorted := PySem.W.mg_none_of X G z_sorted
  have n_repr := PySem.W.mg_none_of X G z_repr
  have EU := fun_mk (st := s_UnknownKey_init) lxU cxU kxU
  have bxU := EU.binds (ps := ["self", "key"]) fun _ _ _ _ _ _ us hl => match us, hl with | [_, _], _ => rfl
  have XU : XFacts K mg "UnknownKey" CU gU bmLE "LookupError.__new__" := ⟨⟨xmU, xoU, xhU, xsU, xeU, xtU, xkU⟩, ⟨xgU, xqU, xeU, xhU⟩, PySem.W.mg_of X G xaU, xiU, xfU, xnU, PySem.W.exm_ref xeU xhU xtU xzU⟩
  have kbSt : KBinds K (PySem.W.fnOf "stretch_between" "stretch_between" (defArgs s_stretch_between) (defBody s_stretch_between) (defScope s_stretch_between) .none kV7 dc7 pm7 an7 cd7 ct7) ["living", "one", "other"] ["other", "one", "living"] gS gS :=
    ⟨fun s us ws _ hl => match us, ws, hl with
      | [], [_, _, _], _ => .of_eq rfl, fun {vs us zs ws} r q => gS_rel r q⟩
  have kbNe : KBinds K (PySem.W.fnOf "neighbours_of" "neighbours_of" (defArgs s_neighbours_of) (defBody s_neighbours_of) (defScope s_neighbours_of) .none kV8 dc8 pm8 an8 cd8 ct8) ["living", "key"] ["key", "living"] gF gF :=
    ⟨fun s us ws _ hl => match us, ws, hl with
      | [], [_, _], _ => .of_eq rfl, fun {vs us zs ws} r q => gF_rel r q⟩
  have kbK : KBinds K (PySem.W.fnOf "is_key" "is_key" (defArgs s_is_key) (defBody s_is_key) (defScope s_is_key) .none kV1 dc1 pm1 an1 cd1 ct1) ["value"] ["value"] g1 g1 :=
    ⟨fun s us ws _ hl => match us, ws, hl with
      | [], [_], _ => .of_eq rfl, fun {vs us zs ws} r q => g1_rel r q⟩
  have kbS : KBinds K (PySem.W.fnOf "is_key_set" "is_key_set" (defArgs s_is_key_set) (defBody s_is_key_set) (defScope s_is_key_set) .none kV2 dc2 pm2 an2 cd2 ct2) ["value"] ["value"] g1 g1 :=
    ⟨fun s us ws _ hl => match us, ws, hl with
      | [], [_], _ => .of_eq rfl, fun {vs us zs ws} r q => g1_rel r q⟩
  have kbL : KBinds K (PySem.W.fnOf "is_lot" "is_lot" (defArgs s_is_lot) (defBody s_is_lot) (defScope s_is_lot) .none kV3 dc3 pm3 an3 cd3 ct3) ["value"] ["value"] g1 g1 :=
    ⟨fun s us ws _ hl => match us, ws, hl with
      | [], [_], _ => .of_eq rfl, fun {vs us zs ws} r q => g1_rel r q⟩
  have kbN : KBinds K (PySem.W.fnOf "is_name" "is_name" (defArgs s_is_name) (defBody s_is_name) (defScope s_is_name) .none kV4 dc4 pm4 an4 cd4 ct4) ["value"] ["value"] g1 g1 :=
    ⟨fun s us ws _ hl => match us, ws, hl with
      | [], [_], _ => .of_eq rfl, fun {vs us zs ws} r q => g1_rel r q⟩
  have RC : RowC K CR := ⟨⟨rc0, rc1, rc2, rc3⟩, rn0, rn1, rn2⟩
  have mkR : Mk K CR gI := ⟨rm0, rm1, rm2, rm3⟩
  have gRow := PySem.W.mg_of X G ra
  have FI : FunD K "__init__" "Row.__init__" (defArgs s_Row_init) (defBody s_Row_init) (defScope s_Row_init) [] [("coming", .non), ("going", .non)] gI (PySem.W.fnOf "__init__" "Row.__init__" (defArgs s_Row_init) (defBody s_Row_init) (defScope s_Row_init) .none (.ref DK) dcgi pmgi angi cdgi ctgi) :=
    ⟨⟨ocgi, odgi, .none, .ref DK, dcgi, pmgi, angi, cdgi, ctgi, slgi, rfl, lgi, cgi, .inl ⟨rfl, rfl⟩, .inr ⟨DK, rfl, fun q hq => by
      simp only [List.mem_cons, List.not_mem_nil, or_false] at hq
      rcases hq with rfl | rfl
      · exact ⟨.none, rd0, rfl⟩
      · exact ⟨.none, rd1, rfl⟩⟩⟩, kgi⟩
  obtain ⟨dsR, rR, bR⟩ := FI.binds0 (ps := ["self", "lot", "coming", "going"]) 2 (by simp) rfl (fun D doc pm an cdv ct us ks h1 h2 => match us, ks, h1, h2 with
    | [_, _], [_, _], _, _ => ⟨_, _, _, _, _, _, rfl, rfl, _, _, _, _, _, _, rfl, rfl, rfl⟩)

  refine ⟨PySem.W.fnOf "law" "law" (defArgs s_law) (defBody s_law) (defScope s_law) .none kV26 dc26 pm26 an26 cd26 ct26, fun s v => .of_eq rfl, fun base _ _ => ?_⟩
  · have gNum := ok_num (P := l.prog) (w := w) (base := base) F0 n_isinstance n_int n_bool
    have gKey := ok_key F1 (PySem.W.mg_of X G gk) q0 gNum k0 b0
    have ts : TSet mg := ⟨n_isinstance, n_tuple, n_all, n_len, n_range⟩
    have gSet := ok_set F2 ts q1 gKey k1 b1
    have gLot := ok_lot F3 n_len q2 gSet k2 b2
    have gLive := ok_lives F5 q1 gKey k1 b1
    have gName := ok_name (P := l.prog) (w := w) (base := base) F4 n_isinstance n_str n_len n_all (PySem.W.mg_of X G gl) (PySem.W.mg_of X G gd) (PySem.W.mg_of X G gn)
    have iU := ok_initU (P := l.prog) (w := w) (base := base) EU XU xyUkey
    have gCk := ok_ck F6 q5 gLive k5 b5 XU iU bxU
    have gBtw := ok_btw F7 n_min n_max n_tuple q6 gCk k6 b6
    have gNear := ok_near (P := l.prog) (w := w) (base := base) (mg := mg) F8
    have gRw := ok_row (P := l.prog) (w := w) (base := base) FI RC q3 gLot k3 b3 q5 gLive k5 b5
    have gSgn := ok_signD (P := l.prog) (w := w) (base := base) (mg := mg) Fm1 RC
    have gTxt := ok_textD (P := l.prog) (w := w) (base := base) Fm0 RC n_str Me1 gSgn bm1
    have gRep := ok_repr (P := l.prog) (w := w) (base := base) Fm2 RC Me0 gTxt bm0
    have gDraw := ok_draw (P := l.prog) (w := w) (base := base) F10 n_int n_len n_abs
    have gOf := ok_of F11 n_len q10 gDraw k10 b10
    have gOfS := ok_ofS F11 n_len q10 gDraw k10 b10
    have gKeys := ok_keys F12 n_int n_max n_tuple n_sorted n_range q10 gDraw k10 b10 q11 gOf k11 b11
    have gStr := ok_stranger F13 n_int n_len n_list n_range q10 gDraw k10 b10 q11 gOf k11 b11
    have gLKey := ok_lkey (P := l.prog) (w := w) (base := base) F14 n_isinstance n_int n_bool
    have gLSet := ok_lset F15 ts q14 gLKey k14 b14
    have gNu := ok_number F18 q10 gDraw k10 b10 q11 gOf k11 b11
    exact ok_law (C := CR) F26 {
      bg := ⟨_, _, q9, k9, b9, ok_bag F9 n_int n_list⟩
      dr := ⟨_, _, q10, k10, b10, gDraw⟩
      of := ⟨_, _, q11, k11, b11, gOf⟩
      ky := ⟨_, _, q12, k12, b12, gKeys⟩
      st := ⟨_, _, q13, k13, b13, gStr⟩
      lk := ⟨_, _, q14, k14, b14, gLKey⟩
      ls := ⟨_, _, q15, k15, b15, gLSet⟩
      ln := ⟨_, _, q16, k16, b16, ok_lname F16 n_isinstance n_str n_len⟩
      wo := ⟨_, _, q17, k17, b17, ok_word F17 n_len n_range q10 gDraw k10 b10 q11 gOf gOfS k11 b11⟩
      nu := ⟨_, _, q18, k18, b18, gNu⟩
      tu := ⟨_, _, q19, k19, b19, ok_tuple F19 n_len n_list n_str q10 gDraw k10 b10 q11 gOf k11 b11 q18 gNu k18 b18 gRow mkR gRw bR rR⟩
      od := ⟨_, _, q20, k20, b20, ok_odd F20 n_str q11 gOf k11 b11 q13 gStr k13 b13⟩
      sr := ⟨_, _, q21, k21, b21, ok_stre F21 q7 gBtw k7 b7 kbSt XU xyUkey⟩
      du := ⟨_, _, q22, k22, b22, ok_due F22 n_tuple q14 gLKey k14 b14⟩
      la := ⟨_, _, q23, k23, b23, ok_lnear F23⟩
      ju := ⟨_, _, q24, k24, b24, ok_judge F24 q1 gKey k1 b1 kbK q2 gSet k2 b2 kbS q3 gLot k3 b3 kbL q4 gName k4 b4 kbN⟩
      sm := ⟨_, _, q25, k25, b25, ok_same F25 ⟨n_isinstance, n_list, n_tuple, n_len, n_all, n_zip, n_bool, n_int, n_str⟩ q25 b25 4⟩
      ne := ⟨_, _, q8, k8, b8, gNear, kbNe⟩
      T := RC
      tyC := fun H r q h => let ⟨_, e⟩ := h; .base (.ins e RC.cl rt0 rt1 rt2 rt3)
      cint := rk_int
      cbool := rk_bool
      ctup := rk_tuple
      cstr := rk_str
      rep := ⟨_, _, ma2, mf2, bm2, gRep⟩
      lst := n_list
      len := n_len
      tup := n_tuple
      rng := n_range
      rpr := n_repr }
end K02


end

section
set_option Elab.async false
set_option linter.all false
open PySem PySem.W PyProof.Rows
set_option maxRecDepth 100000 in
set_option maxHeartbeats 0 in
theorem PySem.Challenge.cw_shapebetween_k02_keys_lots_and_names_holds : PySem.Challenge.rw_shapebetween_k02_keys_lots_and_names.Holds := by
  w_on; o_law; k_head; (case hw => w_witness2)
  k_fill
  refine SB.caller_walk (n := 63) (x := "_law_script") (sp := fun w => K02.spLaw _) rfl (by decide) rfl (fun w h Y => PySem.W.kIn_of Y) ?F (fun w H a ns hl hS => ⟨a, ns, rfl, hS, hl, fun _ => rfl⟩)
  case F =>
    intro w mg fa h KX G hmg
    refine' K02.all_mk KX G hmg ?a0 ?l0 ?c0 ?k0 ?a1 ?l1 ?c1 ?k1 ?a2 ?l2 ?c2 ?k2 ?a3 ?l3 ?c3 ?k3 ?a4 ?l4 ?c4 ?k4 ?a5 ?l5 ?c5 ?k5 ?a6 ?l6 ?c6 ?k6 ?a7 ?l7 ?c7 ?k7 ?a8 ?l8 ?c8 ?k8 ?a9 ?l9 ?c9 ?k9 ?a10 ?l10 ?c10 ?k10 ?a11 ?l11 ?c11 ?k11 ?a12 ?l12 ?c12 ?k12 ?a13 ?l13 ?c13 ?k13 ?a14 ?l14 ?c14 ?k14 ?a15 ?l15 ?c15 ?k15 ?a16 ?l16 ?c16 ?k16 ?a17 ?l17 ?c17 ?k17 ?a18 ?l18 ?c18 ?k18 ?a19 ?l19 ?c19 ?k19 ?a20 ?l20 ?c20 ?k20 ?a21 ?l21 ?c21 ?k21 ?a22 ?l22 ?c22 ?k22 ?a23 ?l23 ?c23 ?k23 ?a24 ?l24 ?c24 ?k24 ?a25 ?l25 ?c25 ?k25 ?a26 ?l26 ?c26 ?k26 ?ra ?rm1 ?ma0 ?mf0 ?lm0 ?cm0 ?km0 ?ma1 ?mf1 ?lm1 ?cm1 ?km1 ?ma2 ?mf2 ?lm2 ?cm2 ?km2 ?lgi ?cgi ?kgi ?rd0 ?rd1 ?rc0 ?rc1 ?rc2 ?rc3 ?rn0 ?rn1 ?rn2 ?rt0 ?rt1 ?rt2 ?rt3 ?rm0 ?rm2 ?rm3 ?rk_int ?rk_bool ?rk_tuple ?rk_str ?xaU ?xmU ?xoU ?xhU ?xsU ?xeU ?xtU ?xkU ?xgU ?xqU ?xiU ?xfU ?lxU ?cxU ?kxU ?xnU ?xzU ?xyUkey ?z_int ?z_list ?z_len ?z_abs ?z_isinstance ?z_tuple ?z_all ?z_zip ?z_bool ?z_str ?z_range ?z_max ?z_min ?z_sorted ?z_repr ?gk ?gl ?gd ?gn
    (case a0 => k_is)
    (case l0 => k_is)
    (case c0 => k_is)
    (case k0 => k_is)
    (case a1 => k_is)
    (case l1 => k_is)
    (case c1 => k_is)
    (case k1 => k_is)
    (case a2 => k_is)
    (case l2 => k_is)
    (case c2 => k_is)
    (case k2 => k_is)
    (case a3 => k_is)
    (case l3 => k_is)
    (case c3 => k_is)
    (case k3 => k_is)
    (case a4 => k_is)
    (case l4 => k_is)
    (case c4 => k_is)
    (case k4 => k_is)
    (case a5 => k_is)
    (case l5 => k_is)
    (case c5 => k_is)
    (case k5 => k_is)
    (case a6 => k_is)
    (case l6 => k_is)
    (case c6 => k_is)
    (case k6 => k_is)
    (case a7 => k_is)
    (case l7 => k_is)
    (case c7 => k_is)
    (case k7 => k_is)
    (case a8 => k_is)
    (case l8 => k_is)
    (case c8 => k_is)
    (case k8 => k_is)
    (case a9 => k_is)
    (case l9 => k_is)
    (case c9 => k_is)
    (case k9 => k_is)
    (case a10 => k_is)
    (case l10 => k_is)
    (case c10 => k_is)
    (case k10 => k_is)
    (case a11 => k_is)
    (case l11 => k_is)
    (case c11 => k_is)
    (case k11 => k_is)
    (case a12 => k_is)
    (case l12 => k_is)
    (case c12 => k_is)
    (case k12 => k_is)
    (case a13 => k_is)
    (case l13 => k_is)
    (case c13 => k_is)
    (case k13 => k_is)
    (case a14 => k_is)
    (case l14 => k_is)
    (case c14 => k_is)
    (case k14 => k_is)
    (case a15 => k_is)
    (case l15 => k_is)
    (case c15 => k_is)
    (case k15 => k_is)
    (case a16 => k_is)
    (case l16 => k_is)
    (case c16 => k_is)
    (case k16 => k_is)
    (case a17 => k_is)
    (case l17 => k_is)
    (case c17 => k_is)
    (case k17 => k_is)
    (case a18 => k_is)
    (case l18 => k_is)
    (case c18 => k_is)
    (case k18 => k_is)
    (case a19 => k_is)
    (case l19 => k_is)
    (case c19 => k_is)
    (case k19 => k_is)
    (case a20 => k_is)
    (case l20 => k_is)
    (case c20 => k_is)
    (case k20 => k_is)
    (case a21 => k_is)
    (case l21 => k_is)
    (case c21 => k_is)
    (case k21 => k_is)
    (case a22 => k_is)
    (case l22 => k_is)
    (case c22 => k_is)
    (case k22 => k_is)
    (case a23 => k_is)
    (case l23 => k_is)
    (case c23 => k_is)
    (case k23 => k_is)
    (case a24 => k_is)
    (case l24 => k_is)
    (case c24 => k_is)
    (case k24 => k_is)
    (case a25 => k_is)
    (case l25 => k_is)
    (case c25 => k_is)
    (case k25 => k_is)
    (case a26 => k_is)
    (case l26 => k_is)
    (case c26 => k_is)
    (case k26 => k_is)
    (case ra => k_is)
    (case rm1 => k_is)
    (case ma0 => k_is)
    (case mf0 => k_is)
    (case lm0 => k_is)
    (case cm0 => k_is)
    (case km0 => k_is)
    (case ma1 => k_is)
    (case mf1 => k_is)
    (case lm1 => k_is)
    (case cm1 => k_is)
    (case km1 => k_is)
    (case ma2 => k_is)
    (case mf2 => k_is)
    (case lm2 => k_is)
    (case cm2 => k_is)
    (case km2 => k_is)
    (case lgi => k_is)
    (case cgi => k_is)
    (case kgi => k_is)
    (case rd0 => k_is)
    (case rd1 => k_is)
    (case rc0 => k_is)
    (case rc1 => k_is)
    (case rc2 => k_is)
    (case rc3 => k_is)
    (case rn0 => k_is)
    (case rn1 => k_is)
    (case rn2 => k_is)
    (case rt0 => k_is)
    (case rt1 => k_is)
    (case rt2 => k_is)
    (case rt3 => k_is)
    (case rm0 => k_is)
    (case rm2 => k_is)
    (case rm3 => k_is)
    (case rk_int => first | k_is | rfl | decide +kernel)
    (case rk_bool => first | k_is | rfl | decide +kernel)
    (case rk_tuple => first | k_is | rfl | decide +kernel)
    (case rk_str => first | k_is | rfl | decide +kernel)
    (case xaU => k_is)
    (case xmU => kx_is)
    (case xoU => kx_is)
    (case xhU => k_is)
    (case xsU => k_is)
    (case xeU => k_is)
    (case xtU => k_is)
    (case xkU => k_is)
    (case xgU => k_is)
    (case xqU => k_is)
    (case xiU => k_is)
    (case xfU => k_is)
    (case lxU => k_is)
    (case cxU => k_is)
    (case kxU => k_is)
    (case xnU => k_is)
    (case xzU => k_is)
    (case xyUkey => k_is)
    (case z_int => k_is)
    (case z_list => k_is)
    (case z_len => k_is)
    (case z_abs => k_is)
    (case z_isinstance => k_is)
    (case z_tuple => k_is)
    (case z_all => k_is)
    (case z_zip => k_is)
    (case z_bool => k_is)
    (case z_str => k_is)
    (case z_range => k_is)
    (case z_max => k_is)
    (case z_min => k_is)
    (case z_sorted => k_is)
    (case z_repr => k_is)
    (case gk => k_is)
    (case gl => k_is)
    (case gd => k_is)
    (case gn => k_is)

end
