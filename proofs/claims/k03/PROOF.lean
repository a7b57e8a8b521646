import PyProof.Rows.All
import Wide.All
import OpenK.AllK
import Wide.FinOn
import PyProof.FString3
import PyProof.InstNe
import HandS.ForMost
import HandS.FStr
import HandS.StrMore
import HandS.IsInst
import HandS.Codes
import HandS.TryOnly
import HandS.SlotsOwn
import HandS.Defaults
import HandS.MakeKw
import HandS.MakeKwOnly
import HandS.OwnEq
import KE.KCallOwn
import KE.KFmtOwn
import HandS.ExcInit
import HandS.ExcIs
import HandS.ExcField
import HandS.ExcValue
import KE.KExcIs
import KE.KExcInit
import HandS.Conv
import OpenK.KOps
import PyProof.Rows.Range3
import PyProof.ListRange
import HandS.Style
import PySem.Challenge.RW_boatbridge_k03_stretches_as_objects
set_option Elab.async false
set_option linter.all false
set_option maxRecDepth 100000
namespace Bb
open PySem PySem.Spec PyProof.Rows L2 PySem.W
open C8 (pss_cut)
open TL (tl ext_tl partition_app partition_none)
def topS (i : Nat) : Stmt := PySem.Challenge.pw_boatbridge_k03_stretches_as_objects.main.body.getD i (.Pass ⟨0, 0, 0, 0⟩)
/-! ### an exception that is kept past its clause -/
/-- at a: an exception object of the class cls, its own dict at d -/
def keptX (cls : Value) (d : Option Addr) (a : Addr) : HO := .ext fun h => ∃ (oe : Obj) (vs : Array Value), h.get? a = some oe ∧ Zc cls d oe ∧ oe.data = .fields vs
theorem keptX_ok {P : Program} {w : World} {H : Hp} {h : Heap} {cls : Value} {d : Option Addr} {a : Addr} {oe : Obj} {vs : Array Value} (g : h.get? a = some oe) (z : Zc cls d oe) (f : oe.data = .fields vs) : ObjOk P w H h a (keptX cls d a) :=
  ⟨⟨oe, vs, g, z, f⟩, ⟨oe, g⟩, fun _ _ ⟨o, v, q, r⟩ k => ⟨o, v, k o q, r⟩⟩
theorem keptX_at {P : Program} {w : World} {H : Hp} {h : Heap} {cls : Value} {d : Option Addr} {a : Addr} (hok : HOk P w H h) (e : H a = some (keptX cls d a)) : ∃ (oe : Obj) (vs : Array Value), h.get? a = some oe ∧ Zc cls d oe ∧ oe.data = .fields vs := by
  have x : ObjOk P w H h a (.ext fun h => ∃ (oe : Obj) (vs : Array Value), h.get? a = some oe ∧ Zc cls d oe ∧ oe.data = .fields vs) := hok a _ e
  exact x.1
section
variable {X : Cx} {pins : List (Addr × Obj)} {σ : L2.St} {H : Hp} {s sI : Shared}
/-- the caught object is told to the ledger: it is none of the objects of the state sI ahead of it -/
theorem inv_keep (J : Inv X pins σ H sI) (ge : sI.heap.get? a = none) (I : Inv X pins σ H s) (hx : X.ex = []) {oe : Obj} {vs : Array Value} {cls : Value} {d : Option Addr} (ha : s.heap.get? a = some oe) (hz : Zc cls d oe) (hd : oe.data = .fields vs) (na : H a = none) :
    Inv X pins σ (upd H a (keptX cls d a)) s := by
  have ne : ∀ {b : Addr} {o : Obj}, sI.heap.get? b = some o → b ≠ a := by
    intro b o e z
    rw [z, ge] at e
    cases e
  have n0 : ∀ {b : Addr} {o : Obj}, X.s_0.heap.get? b = some o → b ≠ a := by
    intro b o e
    obtain ⟨o', e'⟩ := J.base.there b o e (by rw [hx]; exact fun z => nomatch z)
    exact ne e'
  have bs : Un X.fs X.ex X.H_0 (upd H a (keptX cls d a)) X.s_0.heap s.heap := {
    keep := I.base.keep
    slot := I.base.slot
    there := I.base.there
    free := by
      intro b o e n q
      rw [upd_ne (n0 e)]
      exact I.base.free b o e n q
    tups := by
      intro b xs e
      have z := I.base.tups b xs e
      rw [upd_ne (ne_of_none z na)]
      exact z
    frzs := by
      intro b o u e
      have z := I.base.frzs b o u e
      rw [upd_ne (ne_of_none z na)]
      exact z
    tbls := by
      intro b ps e
      obtain ⟨m, z⟩ := I.base.tbls b ps e
      exact ⟨m, by rw [upd_ne (ne_of_none z na)]; exact z⟩ }
  have fr : X.env.locals ≠ a := by
    obtain ⟨m, ⟨o, es, ep, ho, _⟩, _⟩ := J.loc
    exact ne ho
  refine ⟨I.ok, I.os, I.bare, bs, I.loc, I.cell, ?_, ?_, ?_, ?_, I.len⟩
  · rw [upd_ne fr]
    exact I.free
  · intro x c e
    obtain ⟨v, o, ho, _⟩ := J.cell x c e
    rw [upd_ne (ne ho)]
    exact I.freeC x c e
  · intro p hp
    obtain ⟨e, n, r⟩ := I.pin p hp
    refine ⟨e, ?_, r⟩
    rw [upd_ne (ne (J.pin p hp).1)]
    exact n
  · intro b o e
    by_cases hb : b = a
    · subst hb
      rw [upd_same] at e
      cases e
      exact keptX_ok ha hz hd
    · rw [upd_ne hb] at e
      refine (I.hok b o e).stay (fun c v _ q => q) (fun c q => ?_) (fun c xs q => ?_)
      · rw [upd_ne (ne_of_none q na)]
        exact q
      · rw [upd_ne (ne_of_none q na)]
        exact q
/-- into the clause's suite, no object pinned -/
theorem inv_into (I : Inv X pins σ H s) (a : Addr) : Inv (X.suite a (X.pn ++ pins)) [] σ H s where
  ok := I.ok.suite a _
  os := I.os
  bare := I.bare
  base := I.base
  loc := I.loc
  cell := I.cell
  free := I.free
  freeC := I.freeC
  pin := by
    intro p hp
    rw [List.append_nil] at hp
    exact I.pin p hp
  hok := I.hok
  len := I.len
/-- and out of it -/
theorem inv_outof {a : Addr} {pn : List (Addr × Obj)} (I : Inv (X.suite a (X.pn ++ pins)) pn σ H s) (ok : X.Ok) : Inv X pins σ H s where
  ok := ok
  os := I.os
  bare := I.bare
  base := I.base
  loc := I.loc
  cell := I.cell
  free := I.free
  freeC := I.freeC
  pin := fun p hp => I.pin p (List.mem_append_left _ hp)
  hok := I.hok
  len := I.len
end
/-- what the clause leaves: its own name is gone -/
def goneE (i : Nat) (D : Ends) : Ends where
  nx := fun σ H => D.nx (σ.set i none) H
  rt := D.rt
  bk := fun σ H => D.bk (σ.set i none) H
  ct := fun σ H => D.ct (σ.set i none) H
/-- what the clause wishes of the body's exceptions: each is caught, and stays -/
def wKeep (K : PySem.W.Frag) (c : Value) (i : Nat) (ts : Addr → Value → Option Addr → TS) (D : Ends) : WX := fun cls d σ H =>
  PySem.W.exmOne K cls c = some true ∧ ∀ a, H a = none → ts a cls d (goneE i D) (σ.set i (some (.ref a))) (upd H a (keptX cls d a))
section
variable {X : Cx} {x n : Str} {c : Value} {i : Nat} {body suite : List Stmt} {b₀ : Stmt} {np pos pos' : Pos} {tb : WX → TS} {ts : Addr → Value → Option Addr → TS}
theorem ps_try_keep (hs : X.stack = X.env :: X.outer) (hf : X.env.frame = some X.env.locals) (hex : X.ex = []) (hN : X.N.Nodup) (hi : X.N[i]? = some n) (hln : X.env.kindOf n = some .local) (hc : Names X x c)
    (hb : ∀ (W : WX) (pn : List (Addr × Obj)) (xe : Value → Shared → Prop), Takes (X.tr pn xe) W → PassesOwn (model X.prog X.w) X.A X.env xe → PSs (X.tr pn xe) body (tb W))
    (hsu : ∀ (a : Addr) (cls : Value) (d : Option Addr) (pn : List (Addr × Obj)), PSs (X.suite a pn) (b₀ :: suite) (ts a cls d)) :
    PS X (.Try body [.ExceptHandler (some (.Name x np)) (some n) (b₀ :: suite) pos'] [] [] pos) (fun D σ H => tb (wKeep X.K c i ts D) D σ H) := by
  constructor
  intro pins s σ H D I h
  have ok := I.ok
  have fr0 : X.A.frames = some (X.env :: X.outer) := by
    rw [ok.frames, hs]
  refine wpAny_Try_except ?_
  let xe' : Value → Shared → Prop := fun e s₁ => wpAny (model X.prog X.w) X.A (noteFrame e X.env) (fun _ s₂ => wpAny (model X.prog X.w) X.A (setFlight e none) (fun _ s₃ =>
    wpAny (model X.prog X.w) X.A (handleBy e X.env [.ExceptHandler (some (.Name x np)) (some n) (b₀ :: suite) pos']) (SP X pins D) X.xe s₃) X.xe s₂) X.xe s₁
  have catches : Takes (X.tr (X.pn ++ pins) xe') (wKeep X.K c i ts D) := by
    rintro u s' ⟨a, B, sI, pins', σ', H', cls, d, rfl, J', nb, up, sky, na, os, ag, hm, hyes⟩
    have J : Inv X pins σ' H' sI := J'.ofTry ok
    rw [show (X.tr (X.pn ++ pins) xe').stack = X.env :: X.outer from hs] at sky
    show wpAny (model X.prog X.w) X.A (noteFrame (.ref a) X.env) _ _ _
    refine Sky.land Zc.steady fr0 hf sky ?_
    intro h3 fl3 up3
    have J3 : Inv X pins σ' H' { s' with heap := h3 } := J.landed nb fl3.1 (up.trans up3) os ag
    refine wpAny_handleBy_cons (codeAny_handlers_test ?_) (fun q => nomatch q)
    -- the class is looked up and held against
    have look : PySem.W.Looks (model X.prog X.w) h3 (typeOf (.ref a)) cls := by
      obtain ⟨o3, v3, e3, z3, d3⟩ := fl3.there
      intro A Q E s k q
      refine wpAny_typeOf_ref (k _ _ e3) ?_
      rw [z3.1]
      exact q
    have hit := PySem.W.exm_one (M := model X.prog X.w) J3.kIn look hm
    have named : ∀ {Q : Value → Shared → Prop} {E : Value → Shared → Prop}, Q c { s' with heap := h3 } → wpAny (model X.prog X.w) (X.A.mark (some (.ref a))) (eval (.Name x np) X.env) Q E { s' with heap := h3 } := by
      intro Q E q
      have S3 := inv_into J3 a
      obtain ⟨hg, hdb, hv⟩ := hc
      rcases hv with hv | ⟨hv, hw, hn⟩
      · exact ld_glob (X := X.suite a (X.pn ++ pins)) S3 hg hv q hdb
      · exact ld_blt (X := X.suite a (X.pn ++ pins)) S3 hg hv hw q hn hdb
    refine named (hit.here (codeAny_handlers_suite_as (HandSPX.lands_againZ fl3 ?_)))
    intro h4 fl4 up4
    have J4 : Inv X pins σ' H' { s' with heap := h4 } := J.landed nb fl4.1 ((up.trans up3).trans up4) os ag
    obtain ⟨o4, v4, e4, z4, d4⟩ := fl4.there
    have ge : sI.heap.get? a = none := by
      cases q : sI.heap.get? a with
      | none => rfl
      | some o =>
        exfalso
        by_cases hm' : a ∈ frs (X.env :: X.outer)
        · obtain ⟨_, o', q', nf⟩ := fl4.2.2.1.mem hm'
          rw [e4] at q'
          cases q'
          exact nf _ d4
        · have z := nb a o q (by rw [show (X.tr (X.pn ++ pins) xe').stack = X.env :: X.outer from hs]; exact hm')
          rw [fl4.2.1] at z
          cases z
    have S4 := inv_into (inv_keep J ge J4 hex e4 z4 d4 na) a
    refine store_ok (X := X.suite a (X.pn ++ pins)) (v := .ref a) S4 hN hi (.inl hln) rfl ?_ (.inr hln)
    intro s5 S5
    refine wpAny_mono ((hsu a cls d (X.pn ++ pins)).run [] s5 _ _ (goneE i D) S5 (hyes a na)) ?_ (fun _ _ z => False.elim z)
    intro f s6 sp
    have out : ∀ {σ6 : L2.St} {H6 : Hp} {Q : Shared → Prop}, Inv (X.suite a (X.pn ++ pins)) [] σ6 H6 s6 → (∀ s7, Inv X pins (σ6.set i none) H6 s7 → Q s7) →
        wpAny (model X.prog X.w) X.A (do bindName X.env n .none; unbindBehindTheSuite X.env n pos') (fun _ s7 => Q s7) X.xe s6 := by
      intro σ6 H6 Q S6 hq
      exact gone_ok (inv_outof S6 ok) hN hi hln hq
    match f, sp with
    | .next, ⟨_, _, S6, q⟩ => exact out S6 fun s7 J7 => ⟨_, _, J7, q⟩
    | .brk, ⟨_, _, S6, q⟩ => exact out S6 fun s7 J7 => ⟨_, _, J7, q⟩
    | .cont, ⟨_, _, S6, q⟩ => exact out S6 fun s7 J7 => ⟨_, _, J7, q⟩
    | .ret u, ⟨_, _, _, S6, r, q⟩ => exact out S6 fun s7 J7 => ⟨_, _, _, J7, r, q⟩
  refine wpAny_mono ((hb (wKeep X.K c i ts D) (X.pn ++ pins) xe' catches PassesOwn.looking).run [] s σ H D (I.toTry _) h) ?_ (fun _ _ z => z)
  intro f s1 sp
  match f, sp with
  | .next, ⟨σ', H', J, q⟩ => exact wpAny_execs_nil ⟨σ', H', J.ofTry ok, q⟩
  | .brk, ⟨σ', H', J, q⟩ => exact ⟨σ', H', J.ofTry ok, q⟩
  | .cont, ⟨σ', H', J, q⟩ => exact ⟨σ', H', J.ofTry ok, q⟩
  | .ret u, ⟨v, σ', H', J, r, q⟩ => exact ⟨v, σ', H', J.ofTry ok, r, q⟩
end
/-! ### own exceptions over any built-in class, with fields -/
section
open Builtin Builtin.ObjectAttr
/-- what the written part says of such a class -/
structure OexB (K : PySem.W.Frag) (C : Addr) : Prop where
  ex : ∃ (B newId initId : String) (bmB : List Value), PySem.ExcBaseFacts B newId initId bmB ∧ PySem.StoreFacts B bmB "object.__setattr__" "object" ∧ PySem.W.excInitIn K C bmB newId = true ∧ PySem.W.excOver K C bmB = true
  hd : PySem.W.hasDictIn K C = true
  sa : PySem.W.findIn K (.ref C) "__setattr__" = some (some (.builtin "object.__setattr__"))
  exC : PySem.W.subIn K (.ref C) (.type "BaseException") = some true
  tyC : PySem.W.typeIn K (.ref C) = some (.type "type")
  kC : PySem.W.keepIn K (.ref C) = true
theorem OexB.cd {K : PySem.W.Frag} {C : Addr} (T : OexB K C) : ∃ cd, PySem.W.clsIn K C = some cd ∧ cd.hasDict = true := PySem.W.any_some T.hd
theorem taker_none {K : PySem.W.Frag} {C : Addr} {f : Str} (h : PySem.W.findIn K (.ref C) f = some none) : PySem.W.takerIn K C f = some none := by
  unfold PySem.W.takerIn
  rw [h]
  rfl
variable {prog : Program} {w : World} {A : Around} {R : Result → Shared → Prop} {hp : Heap} {g : Array GenState} {d : Drawn} {t : Nat} {os : OsState} {K : PySem.W.Frag} {name : Str} {tk : Tok} {v : Value} {x C : Addr} {fv : Array Value}
theorem sa_first (T : OexB K C) (X : K.In hp) (hx : hp.get? x = some { cls := .ref C, data := .fields fv }) (ha : PySem.W.findIn K (.ref C) name = some none)
    (hq : ∀ h' tk' dx, (∀ b o, b ≠ x → hp.get? b = some o → h'.get? b = some o) → hp.objs.size ≤ dx → dx ≠ x → h'.get? x = some { cls := .ref C, dict := some dx, data := .fields fv } → h'.Ns1 dx (fun y => if y = name then some v else none) → R (.ok (.ret .none)) ⟨h', g, d, tk', os⟩) :
    codeAny (model prog w) A (.call (.builtin "object.__setattr__") ⟨[.ref x, .str name tk, v], []⟩) R ⟨hp, g, d, t, os⟩ := by
  obtain ⟨B, newId, initId, bmB, _, SF, _, ov⟩ := T.ex
  obtain ⟨cd, hcd, hdd⟩ := T.cd
  have I : PySem.W.InstAt hp x { cls := .ref C, data := .fields fv } C none := ⟨hx, rfl, rfl, trivial⟩
  have hxs : x ≠ hp.objs.size := Nat.ne_of_lt (Heap.lt_size hx)
  refine PySem.W.osa_openX SF X I ov (taker_none ha) (fun b => ?_)
  have lc : PySem.W.Looks (model prog w) hp (classData C) cd := PySem.W.looks_clsIn X hcd
  obtain ⟨z1, z2, z3, z4, z5, z6, z7, z8, z9, z10, z11⟩ := cd
  dsimp only at hdd
  subst hdd
  show wpAny _ _ (storeInOwnDict (.ref x) (.ref C) (.str name tk) name v b) _ _ _
  unfold storeInOwnDict ownDictForStores
  cases b <;>
  · repeat (first | with_reducible refine PySem.HandSPX.store_in_new ?_ ?_ | with_reducible refine wpAny_loadPart_at hx ?_ | with_reducible refine lc.at ?_ | wp_step)
    · exact ⟨_, #[], _, (Heap.get?_update_ne _ _ _ _ hxs.symm).trans (Heap.get?_push_at rfl rfl), rfl, fun e he => absurd he (by simp), fun _ => rfl⟩
    · intro h' tk' hn' hs
      have hx1 : (hp.push { cls := .type "dict", data := .dict #[] }).get? x = some { cls := .ref C, data := .fields fv } := Heap.get?_push_of_some _ hx
      refine hq h' tk' hp.objs.size ?_ (Nat.le_refl _) hxs.symm ?_ hn'
      · intro b o hb ho
        have e1 := hs.2 b (Nat.ne_of_lt (Heap.lt_size ho))
        rw [e1, Heap.get?_update_ne _ _ _ _ hb]
        exact Heap.get?_push_of_some _ ho
      · rw [hs.2 x hxs]
        exact Heap.get?_update_self _ hx1 rfl
theorem sa_further {dx : Addr} {m0 : Str → Option Value} {nl : List Str} (T : OexB K C) (X : K.In hp) (hx : hp.get? x = some { cls := .ref C, dict := some dx, data := .fields fv }) (hns : hp.Ns1 dx m0) (hw : Within m0 nl) (hz : nl.length ≤ 1000) (ha : PySem.W.findIn K (.ref C) name = some none)
    (hq : ∀ h' tk', (∀ b o, b ≠ dx → hp.get? b = some o → h'.get? b = some o) → h'.Ns1 dx (fun y => if y = name then some v else m0 y) → R (.ok (.ret .none)) ⟨h', g, d, tk', os⟩) :
    codeAny (model prog w) A (.call (.builtin "object.__setattr__") ⟨[.ref x, .str name tk, v], []⟩) R ⟨hp, g, d, t, os⟩ := by
  obtain ⟨B, newId, initId, bmB, _, SF, _, ov⟩ := T.ex
  obtain ⟨cd, hcd, hdd⟩ := T.cd
  obtain ⟨oD, _, _, hoD, _, _⟩ := hns.count hw
  have I : PySem.W.InstAt hp x { cls := .ref C, dict := some dx, data := .fields fv } C (some oD) := ⟨hx, rfl, rfl, hoD⟩
  refine PySem.W.osa_openX SF X I ov (taker_none ha) (fun b => ?_)
  have lc : PySem.W.Looks (model prog w) hp (classData C) cd := PySem.W.looks_clsIn X hcd
  obtain ⟨z1, z2, z3, z4, z5, z6, z7, z8, z9, z10, z11⟩ := cd
  dsimp only at hdd
  subst hdd
  show wpAny _ _ (storeInOwnDict (.ref x) (.ref C) (.str name tk) name v b) _ _ _
  unfold storeInOwnDict ownDictForStores
  cases b <;>
  · repeat (first | with_reducible refine PySem.OEX.store_in_old hns hw hz ?_ | with_reducible refine wpAny_loadPart_at hx ?_ | with_reducible refine lc.at ?_ | wp_step)
    intro h' tk' hn' hs
    exact hq h' tk' (fun b o hb ho => (hs.2 b hb).trans ho) hn'
end
section
variable {X : Cx} {pins : List (Addr × Obj)} {σ : L2.St} {H : Hp} {s : Shared} {a C dx : Addr} {f : Str} {y : V} {u : Value} {fs : List (Str × V)} {Q : Unit → Shared → Prop} {E : Value → Shared → Prop} {A : Around}
theorem put_first (T : OexB X.K C) (I : Inv X pins σ H s) (e : H a = some (exo a C none)) (hno : PySem.W.findIn X.K (.ref C) f = some none) (ry : RelV y u)
    (h : ∀ dx s', H dx = none → dx ≠ a → Inv X pins σ (upd (upd H dx (exd dx [(f, y)])) a (exo a C (some dx))) s' → Q () s') : wpAny (model X.prog X.w) A (setAttr (.ref a) f u) Q E s := by
  obtain ⟨t1, ho⟩ := exo_at I.hok e
  obtain ⟨hp, g, d, t, os⟩ := s
  refine PySem.W.set_plain I.kIn (od := none) ⟨ho, rfl, rfl, trivial⟩ T.sa (sa_first T I.kIn ho hno ?_)
  intro h' tk' dx k big ne hx hn
  have fresh : H dx = none := I.hok.fresh big
  have notd : ∀ {b : Addr} {o : Obj}, hp.get? b = some o → b ≠ dx := by
    intro b o q
    exact Nat.ne_of_lt (Nat.lt_of_lt_of_le (Heap.lt_size q) big)
  have nota : ∀ {b : Addr}, H b = none → b ≠ a := by
    intro b n z
    rw [z, e] at n
    cases n
  have step : Un X.fs [] H (upd (upd H dx (exd dx [(f, y)])) a (exo a C (some dx))) hp h' := by
    constructor
    case keep => exact fun b o q n _ _ => k b o (nota n) q
    case slot => exact fun b o q n _ _ => ⟨o.slots, k b o (nota n) q⟩
    case free =>
      intro b o q n _
      rw [upd_ne (nota n), upd_ne (notd q)]
      exact n
    case there =>
      intro b o q _
      by_cases hb : b = a
      · subst hb
        exact ⟨_, hx⟩
      · exact ⟨o, k b o hb q⟩
    case tups =>
      intro b xs q
      rw [upd_ne (at_ne e q exo_tup), upd_ne (ne_of_none q fresh)]
      exact q
    case frzs =>
      intro b o v q
      rw [upd_ne (at_ne e q exo_frz), upd_ne (ne_of_none q fresh)]
      exact q
    case tbls =>
      intro b ps q
      refine ⟨#[], ?_⟩
      rw [upd_ne (at_ne e q exo_tbl), upd_ne (ne_of_none q fresh), q]
      simp
  refine h dx _ fresh ne (I.un (t' := tk') step ?_)
  intro b o q
  by_cases hb : b = a
  · subst hb
    rw [upd_same] at q
    cases q
    exact exo_ok hx
  rw [upd_ne hb] at q
  by_cases hd : b = dx
  · subst hd
    rw [upd_same] at q
    cases q
    exact exd_ok hn (relO_put (fs := []) ry fun _ => True.intro)
  rw [upd_ne hd] at q
  refine (I.hok b o q).stay (fun c v hc z => k c v ?_ z) (fun c hc => ?_) (fun c xs hc => ?_)
  · rcases hc with rfl | hc
    · exact hb
    · exact at_ne e hc exo_own
  · rw [upd_ne (at_ne e hc exo_own), upd_ne (ne_of_none hc fresh)]
    exact hc
  · rw [upd_ne (at_ne e hc exo_tup), upd_ne (ne_of_none hc fresh)]
    exact hc
theorem put_further (T : OexB X.K C) (I : Inv X pins σ H s) (e : H a = some (exo a C (some dx))) (ed : H dx = some (exd dx fs)) (hl : fs.length ≤ 900) (hno : PySem.W.findIn X.K (.ref C) f = some none) (ry : RelV y u)
    (h : ∀ s', Inv X pins σ (upd H dx (exd dx ((f, y) :: fs))) s' → Q () s') : wpAny (model X.prog X.w) A (setAttr (.ref a) f u) Q E s := by
  obtain ⟨t1, ho⟩ := exo_at I.hok e
  obtain ⟨mA, hns, rel⟩ := exd_at I.hok ed
  have hw := within_of rel
  obtain ⟨hp, g, d, t, os⟩ := s
  obtain ⟨oD, _, _, hoD, _, _⟩ := hns.count hw
  refine PySem.W.set_plain I.kIn (od := some oD) ⟨ho, rfl, rfl, hoD⟩ T.sa (sa_further T I.kIn ho hns hw ?_ hno ?_)
  · rw [List.length_map]
    omega
  · intro h' tk' k hn
    have there : ∃ o, h'.get? dx = some o := by
      obtain ⟨o, _, _, e', _⟩ := hn
      exact ⟨o, e'⟩
    refine h _ (I.write (t' := tk') (x := dx) (e := dx) (o := exd dx ((f, y) :: fs)) ?_ (.inl rfl) k there (exd_ok hn (relO_put ry rel)))
    rw [ed]
    exact True.intro
end
/-- self.f = y in the __init__ of an exception -/
def tPut (K : PySem.W.Frag) (f : Str) (to te : TE) : TS := fun D σ H => te σ H fun y H1 => to σ H1 fun x H2 => ∃ a C : Addr, x = .ref a ∧ OexB K C ∧ PySem.W.findIn K (.ref C) f = some none ∧
  ((H2 a = some (exo a C none) ∧ ∀ dx, H2 dx = none → dx ≠ a → D.nx σ (upd (upd H2 dx (exd dx [(f, y)])) a (exo a C (some dx)))) ∨
    ∃ (dx : Addr) (fs : List (Str × V)), H2 a = some (exo a C (some dx)) ∧ H2 dx = some (exd dx fs) ∧ fs.length ≤ 900 ∧ D.nx σ (upd H2 dx (exd dx ((f, y) :: fs))))
section
variable {X : Cx} {o e : Expr} {es : List Expr} {to te : TE} {ta : TA} {f : Str} {p p' pos : Pos}
theorem ps_put (ho : PE X o to) (he : PE X e te) (hs : swapsWith e (some (.Attribute o f p')) pos.line X.env = pure false := by rfl) : PS X (.Assign [.Attribute o f p'] e pos) (tPut X.K f to te) := by
  constructor
  intro pins s σ H D I h
  refine plainObj_wpAny_Assign_Attribute (thn (he.run pins s σ H _ I h) ?_) hs
  rintro v s1 ⟨y, H1, I1, r1, q1⟩
  refine thn (ho.run pins s1 σ H1 _ I1 q1) ?_
  rintro u s2 ⟨x, H2, I2, r2, a, C, rfl, T, hno, q⟩
  obtain rfl : u = Value.ref a := r2
  rcases q with ⟨ea, q⟩ | ⟨dx, fs, ea, ed, hl, q⟩
  · exact put_first T I2 ea hno r1 fun dx s' n ne J => ⟨σ, _, J, q dx n ne⟩
  · exact put_further T I2 ea ed hl hno r1 fun s' J => ⟨σ, _, J, q⟩
/-- C(e, ..) of such a class, to be raised -/
theorem pmk_oexB {CX : CXT} {x : Str} {C fI : Addr} {k : Nat} {fd : FuncData} {ps : List Str} {sp : Sp} (T : OexB X.K C) (iC : PySem.W.findIn X.K (.ref C) "__init__" = some (some (.ref fI))) (tI : PySem.W.typeIn X.K (.ref fI) = some (.type "function"))
    (G : FnOk X.prog X.w X.K X.mg X.base CX k fI fd ps sp) (hr : Room (k + 1) X.A) (hb : Binds X.K fd ps []) (hx : Passes CX X (fun _ _ _ => False)) (hg : Gl X x) (hm : X.mg x = some (.ref C)) (ha : PA X (e :: es) ta)
    (hdb : (x == ("__debug__" : Str)) = false := by decide) (he : starEach (e :: es) X.env = (false, eval e X.env) :: starEach es X.env := by rfl) (hpl : (backTo pos (starEach es X.env)).any (·.1) = false := by rfl) :
    PMk X (.Call (.Name x p) (e :: es) [] pos) (tMkO C sp [] ta) := by
  intro pins s σ H Q I h
  obtain ⟨B, newId, initId, bmB, FB, _, inn, _⟩ := T.ex
  refine wpAny_Call_Name_kw (ld_glob I hg hm ?_ hdb)
  refine PySem.W.callWith_K (h₀ := X.base) I.ok.mod.kin T.kC (thn (ha.run pos pins s σ H _ I h) ?_) he hpl
  rintro us s1 ⟨vs, H1, I1, r1, hz, q1⟩
  refine ⟨I1.kIn, ?_⟩
  show wpAny _ _ (call (.ref C) us) _ _ _
  obtain ⟨hp, g, dr, tk, os⟩ := s1
  obtain ⟨nm, N, qn, bs, bm, hdct, sn, sub, ab, col, dd, k0, k1, k2, k3, k5, hC, hT⟩ := PySem.W.excInit_of I1.kIn inn
  let A1 := hp.objs.size + 1
  let hp2 := (hp.push (PySem.W.kdv_tup us)).push (PySem.HandSPX.excO C hp.objs.size)
  have big : hp.objs.size ≤ A1 := Nat.le_succ _
  have q2 := q1 A1 (I1.hok.fresh big)
  have kk : ∀ b o, hp.get? b = some o → hp2.get? b = some o := fun b o e => Heap.get?_push_of_some _ (Heap.get?_push_of_some _ e)
  have got : hp2.get? A1 = some (PySem.HandSPX.excO C hp.objs.size) := by
    show ((hp.push (PySem.W.kdv_tup us)).push (PySem.HandSPX.excO C hp.objs.size)).get? (hp.objs.size + 1) = _
    heap_get
  have I2 : Inv X pins σ (upd H1 A1 (exo A1 C none)) ⟨hp2, g, dr, tk, os⟩ := I1.laid (t' := tk) (a := A1) (o := exo A1 C none) (h' := hp2) kk big (exo_ok got)
  have r2 : Vals (V.ref A1 :: (vs ++ [])) (Value.ref A1 :: us) := by
    rw [List.append_nil]
    exact .cons rfl r1
  have hlen : (Value.ref A1 :: us).length = ps.length := by
    rw [← r2.length]
    exact G.len _ _ _ _ q2
  have hus : us.length ≤ sizeLine := by
    rw [← Paired.length r1, sizeLine_eq]
    omega
  have bd := hb ⟨hp2, g, dr, tk, os⟩ (Value.ref A1 :: us) I2.kIn (by rw [List.append_nil]; exact hlen)
  rw [List.append_nil] at bd
  refine wpAny_call (PySem.HandSPX.call_own FB hT hC (PySem.W.looks_findIn I1.kIn iC) (fun self => PySem.W.bind_fn I1.kIn self tI) hus ?_)
  refine codeAny_mono (G.run _ X.stack _ _ ⟨Value.ref A1 :: us, []⟩ (Value.ref A1 :: us) _ _ (fun _ _ _ => False) (hr.make C us []) (I2.env0.make C us []) bd r2 q2) ?_
  intro r s' hq'
  match r, hq' with
  | .error er, hq' => exact hx pins σ _ _ er s' I2 hq'
  | .ok (.ret u), ⟨v, H2, os2, bare2, un2, hok2, rv, ev, d, fs, ea, ed, hd1, q3⟩ =>
    subst ev
    obtain ⟨h2, g2, d2, t2, os'⟩ := s'
    exact ⟨rv, mk_end (raises_own T.exC T.tyC) I1 big kk un2 hok2 os2 bare2 ea ed hd1 q3⟩
end
/-! ### a kept exception, looked at -/
/-- at a stands a kept exception of the class C with these fields -/
def KeptE (H : Hp) (a C : Addr) (fs : List (Str × V)) : Prop := ∃ dd : Addr, H a = some (keptX (.ref C) (some dd) a) ∧ H dd = some (.xd fs)
theorem keptE_inst {X : Cx} {pins : List (Addr × Obj)} {σ : L2.St} {H : Hp} {s : Shared} {a C : Addr} {fs : List (Str × V)} (I : Inv X pins σ H s) (h : KeptE H a C fs) : ∃ (ox od : Obj), PySem.W.InstAt s.heap a ox C (some od) ∧
    ∀ f, ∃ u, RelO (fs.lookup f) u ∧ PySem.W.lookIn f od = some u := by
  obtain ⟨dd, ea, ed⟩ := h
  obtain ⟨oe, vs, ho, hz, hd⟩ := keptX_at I.hok ea
  have hx : ObjOk X.prog X.w H s.heap dd (.xd fs) := I.hok dd _ ed
  obtain ⟨mA, hns, hr⟩ := hx
  obtain ⟨od, h1, hl⟩ := lookIn_ns hns
  refine ⟨oe, od, ⟨ho, hz.1, ?_, ?_⟩, fun f => ⟨mA f, hr f, hl f⟩⟩
  · unfold PySem.W.notCls
    rw [hd] <;> rfl
  · rw [hz.2]
    exact h1
/-- e.f, e a kept exception -/
def tFldX (K : PySem.W.Frag) (f : Str) (te : TE) : TE := fun σ H Q => te σ H fun x H1 => ∃ (a C : Addr) (fs : List (Str × V)) (v : V), x = .ref a ∧ XfC K C ∧ PySem.W.findIn K (.ref C) f = some none ∧ KeptE H1 a C fs ∧ fs.lookup f = some v ∧ Q v H1
theorem pe_fldX {X : Cx} {e : Expr} {te : TE} {pos : Pos} {n : Str} (he : PE X e te) (hb : attributeBase e n X.env (eval e X.env) = eval e X.env := by rfl) : PE X (.Attribute e n pos) (tFldX X.K n te) := by
  constructor
  intro pins s σ H Q I h
  refine attr_of hb (thn (he.run pins s σ H _ I h) ?_)
  rintro u s1 ⟨x, H1, I1, rx, a, C, fs, v, rfl, T, hno, hk, l, q⟩
  obtain rfl : u = Value.ref a := rx
  obtain ⟨ox, od, J, look⟩ := keptE_inst I1 hk
  obtain ⟨m, r, hl⟩ := look n
  obtain ⟨u, hu, ru⟩ := RelO.some_of (v := v) (o := m) (by rw [← l]; exact r)
  exact HandSPX.exc_get I1.kIn J T.ga T.gg T.exC (PySem.W.findObj_own T.hdC hno rfl (by rw [hl, hu])) (handed_of ru) ⟨v, H1, I1.tok _, ru, q⟩
theorem keptE_kit {K : PySem.W.Frag} {a C : Addr} {od : Option Obj} {ox : Obj} (T : ExcC K C) : PySem.W.KitX K (.ref a) (.ref C) (fun h => PySem.W.InstAt h a ox C od) := by
  obtain ⟨cd, hc, _⟩ := PySem.W.any_some T.hd
  exact PySem.W.kitx_exc (by rw [hc]; rfl) T.hg T.hk T.hs T.ha T.hn T.ht T.hm
/-- isinstance(e, c) of a kept exception, or of what the layer knows already -/
def rIsO (K : PySem.W.Frag) : List V → Hp → VK → Prop := fun xs H Q => rIsi K xs H Q ∨ ∃ (a C : Addr) (fs : List (Str × V)) (c : V) (u : Value) (b : Bool), xs = [.ref a, c] ∧ KeptE H a C fs ∧ ExcC K C ∧ ClsV c u ∧ PySem.W.kitOne K (.ref C) u = some b ∧ Q (.bl b) H
theorem call_isO {X : Cx} : CallR X (.builtin "isinstance") (rIsO X.K) := by
  intro pins s σ H xs us Q I r h
  rcases h with h | ⟨a, C, fs, c, u, b, rfl, hk, T, k, e, q⟩
  · exact call_isi pins s σ H xs us Q I r h
  obtain ⟨u1, u2, rfl, r1, r2⟩ := vals2 r
  obtain rfl : u1 = Value.ref a := r1
  have e2 := k.eq r2
  subst e2
  obtain ⟨ox, od, J, _⟩ := keptE_inst I hk
  exact PySem.W.kia_one (keptE_kit T) I.kIn J e (fun z => nomatch z) fun tk => ⟨.bl b, H, I.tok tk, rfl, q⟩
/-- isinstance(e, (c1, c2, ..)) of a kept exception, or of what the layer knows already -/
def rIsOT (K : PySem.W.Frag) : List V → Hp → VK → Prop := fun xs H Q => rIsiT K xs H Q ∨ ∃ (a C : Addr) (fs : List (Str × V)) (tp : Addr) (cs : List V) (us : List Value) (b : Bool), xs = [.ref a, .ref tp] ∧ KeptE H a C fs ∧ ExcC K C ∧ H tp = some (.tup cs) ∧ Paired ClsV cs us ∧
  PySem.W.kitAny K (.ref C) us = some b ∧ Q (.bl b) H
theorem call_isOT {X : Cx} : CallR X (.builtin "isinstance") (rIsOT X.K) := by
  intro pins s σ H xs us Q I r h
  rcases h with h | ⟨a, C, fs, tp, cs, ws, b, rfl, hk, T, hT, k, e, q⟩
  · exact call_isiT pins s σ H xs us Q I r h
  obtain ⟨u1, u2, rfl, r1, r2⟩ := vals2 r
  obtain rfl : u1 = Value.ref a := r1
  obtain rfl : u2 = Value.ref tp := r2
  obtain ⟨ox, od, J, _⟩ := keptE_inst I hk
  have ht : ObjOk X.prog X.w H s.heap tp (.tup cs) := I.hok tp _ hT
  obtain ⟨_, its, rv, o, h1, h2, n, h3⟩ := ht
  have e3 := ClsV.all k rv
  subst e3
  obtain ⟨oc, od', dt, sl⟩ := o
  simp only at h2 h3
  subst h2 h3
  exact PySem.W.kia_tup (keptE_kit T) I.kIn J h1 e (fun z => nomatch z) fun tk => ⟨.bl b, H, I.tok tk, rfl, q⟩
/-! ### an object made that may refuse -/
section
variable {X : Cx} {CX : CXT} {k : Nat} {f C : Addr} {fd : FuncData} {ps : List Str} {sp : Sp} {dvs : List V} {ds : List Value} {E : L2.St → XK} {x : Str} {p pos : Pos} {e : Expr} {es : List Expr} {t : TA}
def tMakeS (C : Addr) (sp : Sp) (dvs : List V) (E : L2.St → XK) (t : TA) : TE := fun σ H Q => t σ H fun vs H1 => ∀ x dx, H1 x = none → H1 dx = none → dx ≠ x → sp (.ref x :: (vs ++ dvs)) (upd (upd H1 dx (.own x)) x (.ins C dx [])) (fun v H2 => v = .non ∧ Q (.ref x) H2) (E σ)
theorem pe_makeS (M : Mk X.K C f) (G : FnOk X.prog X.w X.K X.mg X.base CX k f fd ps sp) (hr : Room (k + 1) X.A) (hg : Gl X x) (hm : X.mg x = some (.ref C)) (hb : Binds X.K fd ps ds) (hd : Vals dvs ds) (hx : ∀ σ, PassesAt CX X σ (E σ))
    (ha : PA X (e :: es) t) (hdb : (x == ("__debug__" : Str)) = false := by decide) (he : starEach (e :: es) X.env = (false, eval e X.env) :: starEach es X.env := by rfl) (hpl : (backTo pos (starEach es X.env)).any (·.1) = false := by rfl) :
    PE X (.Call (.Name x p) (e :: es) [] pos) (tMakeS C sp dvs E t) := by
  constructor
  intro pins s σ H Q I h
  refine wpAny_Call_Name_kw (ld_glob I hg hm ?_ hdb)
  refine PySem.W.callWith_K (h₀ := X.base) I.ok.mod.kin M.kp (thn (ha.run pos pins s σ H _ I h) ?_) he hpl
  rintro us s1 ⟨vs, H1, I1, r, q⟩
  refine ⟨I1.kIn, ?_⟩
  have q2 := q (s1.heap.objs.size + 1) s1.heap.objs.size (I1.hok.fresh (Nat.le_succ _)) (I1.hok.fresh (Nat.le_refl _)) (Nat.ne_of_lt (Nat.lt_succ_self _))
  have J := Inv.made (C := C) I1
  have r2 : Vals (V.ref (s1.heap.objs.size + 1) :: (vs ++ dvs)) (Value.ref (s1.heap.objs.size + 1) :: (us ++ ds)) := .cons rfl (r.append hd)
  have hl : (Value.ref (s1.heap.objs.size + 1) :: us ++ ds).length = ps.length := by
    have e := r2.length
    rw [G.len _ _ _ _ q2] at e
    exact e.symm
  refine wpAny_call (make_map (f := f) I1.kIn M.makes M.init (beq_iff_eq.mp M.fn) (codeAny_mono (G.run _ X.stack _ _ ⟨Value.ref (s1.heap.objs.size + 1) :: us, []⟩ (Value.ref (s1.heap.objs.size + 1) :: (us ++ ds)) _ _ (E σ) (hr.make C us [])
    (J.env0.make C us []) (hb _ (Value.ref (s1.heap.objs.size + 1) :: us) J.kIn hl) r2 q2) ?_))
  intro r s' hq
  match r, hq with
  | .error er, hq => exact hx σ pins _ _ er s' J hq
  | .ok (.ret u), hq =>
    obtain ⟨v, H', I3, rv, ev, q3⟩ := J.after hq
    subst ev
    exact ⟨rv, ⟨V.ref (s1.heap.objs.size + 1), H', I3, rfl, q3⟩⟩
end
/-! ### objects of an own class: their text, ==, !=, whatever stands at the right -/
section
variable {X : Cx} {CX : CXT} {C g : Addr} {n : Nat} {fd : FuncData} {ps : List Str} {sp : Sp} {E : XK}
/-- the callee runs, at whatever place below -/
theorem run_fnA {A : Around} {pins : List (Addr × Obj)} {σ : L2.St} {H : Hp} {s : Shared} {Q : VK} {us : List Value} {vs : List V} (F : FnOk X.prog X.w X.K X.mg X.base CX n g fd ps sp) (hr : Room n A) (e0 : A.frames = X.A.frames) (hb : L2.Binds X.K fd ps [])
    (hx : Passes CX X E) (I : L2.Inv X pins σ H s) (r : Vals vs us) (h : sp vs H Q E) : wpAny (model X.prog X.w) A (call (.ref g) us) (EP X pins σ Q) X.xe s := by
  have hl : (us ++ []).length = ps.length := by rw [List.append_nil, ← r.length]; exact F.len _ _ _ _ h
  have b := hb s us I.kIn hl
  rw [List.append_nil] at b
  have e := I.env0
  have e1 : Env0 X.prog X.w X.K X.mg X.base A X.stack s H := ⟨e0.trans e.frames, e.mod, e.bs, e.bsz, e.funs, e.frf, e.hok, e.bare⟩
  refine wpAny_call (codeAny_mono (F.run A X.stack s H ⟨us, []⟩ us vs Q E hr e1 b r h) fun r s' hq => ?_)
  cases r with
  | error e => exact hx pins σ H s e s' I hq
  | ok fl =>
    cases fl with
    | ret u => exact I.after hq
    | next => exact False.elim hq
    | brk => exact False.elim hq
    | cont => exact False.elim hq
theorem inst_of {pins : List (Addr × Obj)} {σ : L2.St} {H : Hp} {s : Shared} {a dx : Addr} {fs : List (Str × V)} (I : L2.Inv X pins σ H s) (h : H a = some (.ins C dx fs)) : ∃ od, PySem.W.InstAt s.heap a (instObj C dx) C (some od) := by
  obtain ⟨_, O1, _⟩ := ins_get I.hok h
  obtain ⟨od, J, _⟩ := O1.look
  exact ⟨od, J⟩
/-- one text comes back -/
def QStr (Q : VK) : VK := fun z H' => ∃ y : Str, z = .str y ∧ Q z H'
theorem strback {pins : List (Addr × Obj)} {σ : L2.St} {Q : VK} {v : Value} {s' : Shared} (h : EP X pins σ (QStr Q) v s') : StrBack (EP X pins σ Q) v s' := by
  obtain ⟨z, H', I', rz, y, rfl, q⟩ := h
  obtain ⟨t, rfl⟩ := (show ∃ t, v = Value.str y t from rz)
  exact ⟨.str y, H', I', ⟨t, rfl⟩, q⟩
def rOwn1 (C : Addr) (sp : Sp) (E : XK) (W : VK → VK) : List V → Hp → VK → Prop := fun xs H Q => ∃ a dx fs, xs = [V.ref a] ∧ H a = some (.ins C dx fs) ∧ sp [.ref a] H (W Q) E
/-- str(o), by o's own __str__ -/
theorem call_strOwn (hs : PySem.W.findIn X.K (.ref C) "__str__" = some (some (.ref g))) (hf : PySem.W.isFn X.K (.ref g) = true) (F : FnOk X.prog X.w X.K X.mg X.base CX n g fd ps sp) (hb : L2.Binds X.K fd ps [])
    (hr : Room (n + 2) X.A) (hx : Passes CX X E) : CallR X (.type "str") (rOwn1 C sp E QStr) := by
  intro pins s σ H vs us Q I r h
  obtain ⟨a, dx, fs, rfl, ha, q⟩ := h
  obtain ⟨u, rfl, ru⟩ := Vals.one r
  cases (show u = Value.ref a from ru)
  obtain ⟨od, J⟩ := inst_of I ha
  have hr2 : Room n X.A.in1.in1 := hr.in1.in1
  refine PySem.W.kso_call hr2.units0 I.kIn J hs hf ?_
  exact wpAny_mono (run_fnA (A := X.A.in1.in1) (us := [.ref a]) (vs := [.ref a]) F hr2 rfl hb hx I (.cons rfl .nil) q) (fun v s' z => strback z) fun _ _ x => x
/-- repr(o), by o's own __repr__ -/
theorem call_reprOwn (hs : PySem.W.findIn X.K (.ref C) "__repr__" = some (some (.ref g))) (hf : PySem.W.isFn X.K (.ref g) = true) (F : FnOk X.prog X.w X.K X.mg X.base CX n g fd ps sp) (hb : L2.Binds X.K fd ps [])
    (hr : Room (n + 1) X.A) (hx : Passes CX X E) : CallR X (.builtin "repr") (rOwn1 C sp E QStr) := by
  intro pins s σ H vs us Q I r h
  obtain ⟨a, dx, fs, rfl, ha, q⟩ := h
  obtain ⟨u, rfl, ru⟩ := Vals.one r
  cases (show u = Value.ref a from ru)
  obtain ⟨od, J⟩ := inst_of I ha
  have hr2 : Room n X.A.in1 := hr.in1
  obtain ⟨m, hF⟩ := I.fr
  refine PySem.W.repr_K hr2.units0 hF I.ok.mod.kin J hs hf ?_
  exact wpAny_mono (run_fnA (A := X.A.in1) (us := [.ref a]) (vs := [.ref a]) F hr2 rfl hb hx I (.cons rfl .nil) q) (fun v s' z => strback z) fun _ _ x => x
/-- o == y, by o's own __eq__, whatever y is -/
def rOwnY (K : PySem.W.Frag) (C : Addr) (sp : Sp) (E : XK) (W : VK → VK) : R2 := fun x y H Q => ∃ a dx fs t, x = .ref a ∧ H a = some (.ins C dx fs) ∧ TyX K H y t ∧ PySem.W.notFirst K C t = true ∧ sp [x, y] H (W Q) E
theorem op_eqY (hs : PySem.W.findIn X.K (.ref C) "__eq__" = some (some (.ref g))) (hf : PySem.W.isFn X.K (.ref g) = true) (F : FnOk X.prog X.w X.K X.mg X.base CX n g fd ps sp) (hb : L2.Binds X.K fd ps [])
    (hr : Room n X.A) (hx : Passes CX X E) : OpR X (compareOp .Eq) (rOwnY X.K C sp E id) := by
  intro pins s σ H x y v u Q I rx ry h
  obtain ⟨a, dx, fs, t, rfl, ha, ty, hn, q⟩ := h
  cases (show v = Value.ref a from rx)
  obtain ⟨od, J⟩ := inst_of I ha
  obtain ⟨P, Z, p, _⟩ := kit_of I ry ty
  obtain ⟨m, hF⟩ := I.fr
  show wpAny _ _ (richCompare .Eq _ _) _ _ _
  refine PySem.W.cmp_K (op := .Eq) (tb := t) hr.units0 hF I.ok.mod.kin J (Z.ty _ _ I.kIn p) hn hs hf ?_
  refine wpAny_mono (run_fnA (A := X.A) (us := [.ref a, u]) (vs := [.ref a, y]) F hr rfl hb hx I (.cons rfl (.cons ry .nil)) q) (fun w s' z => ?_) fun _ _ x => x
  obtain ⟨z', H', I', rz, qz⟩ := z
  exact SlX.cmpback rz ⟨z', H', I', rz, qz⟩
end
section
variable {prog : Program} {w : World} {A : Around} {E : Value → Shared → Prop} {s : Shared} {K : PySem.W.Frag} {x C f : Addr} {ox : Obj} {od : Option Obj} {b tb : Value}
open PySem.Builtin in
/-- a special method that is a built-in's, where it may be left unbound -/
theorem ifBoundB {name : Str} {id : String} {args : List Value} {Q : Option Value → Shared → Prop} (X : K.In s.heap) (I : PySem.W.InstAt s.heap x ox C od) (hs : PySem.W.findIn K (.ref C) name = some (some (.builtin id)))
    (hb : ∀ self, bindSpecial (.builtin id) self = pure (.builtin id, [self])) (h : wpAny (model prog w) A (call (.builtin id) (.ref x :: args)) (fun v => Q (some v)) E s) : wpAny (model prog w) A (callSpecialIfBound? (.ref x) name args) Q E s := by
  simp only [callSpecialIfBound?, bindSpecialIfBound?]
  refine wpAny_holding (wpAny_bind (wpAny_bind (wpAny_bind (I.type.here ((looks_findIn X hs).here ?_)))))
  refine wpAny_bind (wpAny_askSetting (wpAny_ite ?_))
  have fin : wpAny (model prog w) A (call (.builtin id) ([.ref x] ++ args) >>= fun v => pure (some v)) Q E s := wpAny_bind (wpAny_mono h (fun v s' h' => wpAny_pure h') fun _ _ h' => h')
  split
  · exact wpAny_bind ((Looks.of_pure (hb _)).here (wpAny_pure (by exact fin)))
  · exact wpAny_tryCatch (wpAny_bind ((Looks.of_pure (hb _)).here (wpAny_pure (by exact fin))))
open PySem.Builtin in
theorem objNe {Q : Value → Shared → Prop} (hu : A.in1.units < cLine) (X : K.In s.heap) (I : PySem.W.InstAt s.heap x ox C od) (hm : PySem.W.mroIn K C (.type "object") = some true) (hs : PySem.W.findIn K (.ref C) "__eq__" = some (some (.ref f))) (hf : PySem.W.isFn K (.ref f) = true)
    (h : wpAny (model prog w) A.in1 (call (.ref f) [.ref x, b]) (fun v s' => ∃ k, v = .bool k ∧ Q (.bool (!k)) s') E s) : wpAny (model prog w) A (call (.builtin "object.__ne__") [.ref x, b]) Q E s := by
  refine wpAny_call (codeAny_call_builtin (by decide +kernel) PySem.F.cmpEntry_ne (check_slot (i := "object.__ne__") (owner := "object") (n := "__ne__") (by decide +kernel) (by decide +kernel) (I.type.andThen (looks_mroIn X hm)) (PySem.F.cmpArgs_ne _ _) ?_))
  unfold Builtin.«object.__ne__»
  refine wpAny_bind (m := slotArgs "__ne__" 1 _) (wpAny_pure ?_)
  refine wpAny_bind (m := cRoomFor _ _) (wpAny_cRoomFor hu ?_)
  refine wpAny_bind (m := callSpecialIfBound? (.ref x) (Str.ofString "__eq__") _) (ifBound_K X I hs hf (wpAny_mono h (fun r s' hq => ?_) fun _ _ y => y))
  obtain ⟨k, rfl, hq⟩ := hq
  exact wpAny_bind (wpAny_truthy_bool (wpAny_pure hq))
/-- o != y, where the class says == alone -/
theorem ne_K {Q : Value → Shared → Prop} (hu : A.in1.units < cLine) (hu0 : A.units < cLine) (X : K.In s.heap) (I : PySem.W.InstAt s.heap x ox C od) (hb : Looks (model prog w) s.heap (typeOf b) tb) (hn : PySem.W.notFirst K C tb = true)
    (hm : PySem.W.mroIn K C (.type "object") = some true) (hne : PySem.W.findIn K (.ref C) "__ne__" = some (some (.builtin "object.__ne__"))) (hs : PySem.W.findIn K (.ref C) "__eq__" = some (some (.ref f))) (hf : PySem.W.isFn K (.ref f) = true)
    (h : wpAny (model prog w) A.in1 (call (.ref f) [.ref x, b]) (fun v s' => ∃ k, v = .bool k ∧ Q (.bool (!k)) s') E s) : wpAny (model prog w) A (richCompare .NotEq (.ref x) b) Q E s := by
  have one : wpAny (model prog w) A (tryCompare (.ref x) "__ne__" b) (fun r s' => ∃ v, r = some v ∧ Q v s') E s := by
    unfold tryCompare
    refine wpAny_bind (ifBoundB X I hne (by intro self; rfl) (objNe hu X I hm hs hf (wpAny_mono h (fun v s' hv => ?_) fun _ _ e => e)))
    obtain ⟨k, rfl, q⟩ := hv
    exact ⟨k, rfl, wpAny_pure ⟨_, rfl, q⟩⟩
  unfold richCompare
  simp only [oneThing_ref]
  refine wpAny_holding (wpAny_bind (wpAny_cRoomFor hu0 ?_))
  refine wpAny_bind (I.type.here (wpAny_bind (hb.here ?_)))
  split
  · rename_i q
    have e : PySem.W.subIn K tb (.ref C) = some false := by
      rcases Bool.or_eq_true_iff.mp hn with e | e
      · rw [beq_iff_eq.mp e] at q; simp at q
      · exact beq_iff_eq.mp e
    refine wpAny_bind ((looks_subIn X e).here ?_)
    simp only [Bool.false_eq_true, if_false]
    refine wpAny_bind (wpAny_mono one (fun r s' z => ?_) fun _ _ e => e)
    obtain ⟨v, rfl, hq⟩ := z
    exact wpAny_pure hq
  · refine wpAny_bind (wpAny_pure ?_)
    simp only [Bool.false_eq_true, if_false]
    refine wpAny_bind (wpAny_mono one (fun r s' z => ?_) fun _ _ e => e)
    obtain ⟨v, rfl, hq⟩ := z
    exact wpAny_pure hq
end
section
variable {X : Cx} {CX : CXT} {C g : Addr} {n : Nat} {fd : FuncData} {ps : List Str} {sp : Sp} {E : XK}
def QNot (Q : VK) : VK := fun z H' => ∃ k : Bool, z = .bl k ∧ Q (.bl (!k)) H'
theorem op_neY (hs : PySem.W.findIn X.K (.ref C) "__eq__" = some (some (.ref g))) (hf : PySem.W.isFn X.K (.ref g) = true) (hm : PySem.W.mroIn X.K C (.type "object") = some true) (hne : PySem.W.findIn X.K (.ref C) "__ne__" = some (some (.builtin "object.__ne__")))
    (F : FnOk X.prog X.w X.K X.mg X.base CX n g fd ps sp) (hb : L2.Binds X.K fd ps []) (hr : Room (n + 1) X.A) (hx : Passes CX X E) : OpR X (compareOp .NotEq) (rOwnY X.K C sp E QNot) := by
  intro pins s σ H x y v u Q I rx ry h
  obtain ⟨a, dx, fs, t, rfl, ha, ty, hn, q⟩ := h
  cases (show v = Value.ref a from rx)
  obtain ⟨od, J⟩ := inst_of I ha
  obtain ⟨P, Z, p, _⟩ := kit_of I ry ty
  show wpAny _ _ (richCompare .NotEq _ _) _ _ _
  have hr2 : Room n X.A.in1 := hr.in1
  refine ne_K (tb := t) hr2.units0 hr.units0 I.kIn J (Z.ty _ _ I.kIn p) hn hm hne hs hf ?_
  refine wpAny_mono (run_fnA (A := X.A.in1) (us := [.ref a, u]) (vs := [.ref a, y]) F hr2 rfl hb hx I (.cons rfl (.cons ry .nil)) q) (fun w s' z => ?_) fun _ _ x => x
  obtain ⟨z', H', I', rz, k, rfl, qz⟩ := z
  cases (show w = Value.bool k from rz)
  exact ⟨k, rfl, .bl (!k), H', I', rfl, qz⟩
end
/-! ### == with the object at the right: the left one's kind declines, the object's own is asked -/
section
variable {prog : Program} {w : World} {A : Around} {E : Value → Shared → Prop} {s : Shared} {K : PySem.W.Frag} {x C f : Addr} {dx : Addr} {od : Option Obj}
open PySem.Builtin
theorem int_decl (b : Int) (u : Tok) : Meets (Builtin.«int.__eq__» ⟨[.int b u, .ref x], []⟩) (fun _ R s => s.heap.get? x = some (instObj C dx) ∧ R (.ok (.ret .notImplemented)) s) :=
  .of_wp fun prog w A R s h => by obtain ⟨hp, g, d, tk, os⟩ := s; obtain ⟨hl, h⟩ := h; wp_walk using AutoSeq1.wpAny_loadPart' hl, wpAny_load hl; exact ⟨_, rfl, h⟩
theorem str_decl (b : Str) (u : Tok) : Meets (Builtin.«str.__eq__» ⟨[.str b u, .ref x], []⟩) (fun _ R s => s.heap.get? x = some (instObj C dx) ∧ R (.ok (.ret .notImplemented)) s) :=
  .of_wp fun prog w A R s h => by obtain ⟨hp, g, d, tk, os⟩ := s; obtain ⟨hl, h⟩ := h; wp_walk using AutoSeq1.wpAny_loadPart' hl, wpAny_load hl; exact ⟨_, rfl, h⟩
theorem none_decl : Meets (Builtin.«NoneType.__eq__» ⟨[.none, .ref x], []⟩) (fun _ R s => s.heap.get? x = some (instObj C dx) ∧ R (.ok (.ret .notImplemented)) s) :=
  .of_wp fun prog w A R s h => by obtain ⟨hp, g, d, tk, os⟩ := s; obtain ⟨hl, h⟩ := h; wp_walk; exact ⟨_, rfl, h⟩
theorem list_decl {l : Addr} {Q : Fin → Shared → Prop} (hi : Looks (model prog w) s.heap (isInstance (.ref x) (.type "list")) false) (h : Q (.done (.ret .notImplemented)) s) :
    wpAny (model prog w) A (Builtin.«list.__eq__» ⟨[.ref l, .ref x], []⟩) Q E s := by
  refine wpAny_bind (m := slotArgs "__eq__" 1 _) (wpAny_pure ?_)
  refine wpAny_bind (hi.here ?_)
  exact wpAny_pure h
theorem tuple_decl {l : Addr} {Q : Fin → Shared → Prop} (hi : Looks (model prog w) s.heap (isInstance (.ref x) (.type "tuple")) false) (h : Q (.done (.ret .notImplemented)) s) :
    wpAny (model prog w) A (Builtin.«tuple.__eq__» ⟨[.ref l, .ref x], []⟩) Q E s := by
  refine wpAny_bind (m := slotArgs "__eq__" 1 _) (wpAny_pure ?_)
  refine wpAny_bind (hi.here ?_)
  exact wpAny_pure h
/-- the left one declines -/
def Declines (prog : Program) (w : World) (A : Around) (E : Value → Shared → Prop) (a b : Value) (s : Shared) : Prop :=
  ∀ Q : Option Value → Shared → Prop, Q none s → wpAny (model prog w) A (tryCompare a "__eq__" b) Q E s
theorem decl_of {T id : String} {B : Builtin} {a b : Value} (hT : s.TypeIs a T) (slot : Slot T (cmpInfo .Eq).2.1 id) (entry : entryFor table id = some B) (args : argsOk id ⟨[a, b], []⟩)
    (h : ∀ Q : Fin → Shared → Prop, Q (.done (.ret .notImplemented)) s → wpAny (model prog w) A.in1 (B ⟨[a, b], []⟩) Q E s) : Declines prog w A E a b s := fun Q q =>
  wpAny_tryCompare_declines hT slot (GQ.call_here slot hT entry args (h _ ⟨rfl, q⟩))
theorem decl_ofM {T id : String} {B : Builtin} {a b : Value} {P : Shared → Prop} (hT : s.TypeIs a T) (slot : Slot T (cmpInfo .Eq).2.1 id) (entry : entryFor table id = some B) (args : argsOk id ⟨[a, b], []⟩)
    (m : Meets (B ⟨[a, b], []⟩) (fun _ R s => P s ∧ R (.ok (.ret .notImplemented)) s)) (hP : P s) : Declines prog w A E a b s := fun Q q =>
  wpAny_tryCompare_declines hT slot (GQ.call_here slot hT entry args (m prog w A (wants (fun v s' => v = .notImplemented ∧ Q none s') E) s ⟨hP, rfl, q⟩))
theorem refl_K {a ta : Value} {T : String} {Q : Value → Shared → Prop} (hu : A.units < cLine) (X : K.In s.heap) (I : PySem.W.InstAt s.heap x (instObj C dx) C od) (hT : s.TypeIs a T) (hsub : PySem.W.subIn K (.ref C) (.type T) = some false)
    (d : Declines prog w A E a (.ref x) s) (hs : PySem.W.findIn K (.ref C) "__eq__" = some (some (.ref f))) (hf : PySem.W.isFn K (.ref f) = true)
    (h : wpAny (model prog w) A (call (.ref f) [.ref x, a]) (PySem.W.CmpBack Q) E s) : wpAny (model prog w) A (richCompare .Eq a (.ref x)) Q E s := by
  have one : wpAny (model prog w) A (tryCompare (.ref x) "__eq__" a) (fun r s' => ∃ v, r = some v ∧ Q v s') E s := by
    unfold tryCompare
    refine wpAny_bind (ifBound_K X I hs hf (wpAny_mono h (fun v s' hv => ?_) fun _ _ e => e))
    cases v <;> first | exact hv.elim | exact wpAny_pure ⟨_, rfl, hv⟩
  simp only [richCompare, cmpInfo, hT.oneThing_none]
  try with_reducible refine wpAny_holding ?_
  refine wpAny_bind (wpAny_cRoomFor hu ?_)
  refine wpAny_bind (wpAny_typeOf hT (wpAny_bind (I.type.here ?_)))
  rw [show (Value.type T != Value.ref C) = true from rfl]
  simp only [if_true]
  refine wpAny_bind ((looks_subIn X hsub).here ?_)
  simp only [Bool.false_eq_true, if_false, Bool.not_false, if_true]
  refine wpAny_bind (m := tryCompare a _ _) (d _ ?_)
  refine wpAny_bind (m := tryCompare (.ref x) _ _) (wpAny_mono one (fun r s' z => ?_) fun _ _ e => e)
  obtain ⟨v, rfl, hq⟩ := z
  exact wpAny_pure hq
end
section
variable {prog : Program} {w : World} {A : Around} {E : Value → Shared → Prop} {s : Shared} {x : Addr}
open PySem.Builtin
theorem dict_decl {l : Addr} {Q : Fin → Shared → Prop} (hi : Looks (model prog w) s.heap (isInstance (.ref x) (.type "dict")) false) (h : Q (.done (.ret .notImplemented)) s) :
    wpAny (model prog w) A (Builtin.«dict.__eq__» ⟨[.ref l, .ref x], []⟩) Q E s := by
  refine wpAny_bind (m := Dict.dictSlotArgs "__eq__" _) (wpAny_pure ?_)
  refine wpAny_bind (hi.here ?_)
  exact wpAny_bind (wpAny_rule (wpAny_pure h))
end
section
variable {X : Cx} {CX : CXT} {C g : Addr} {n : Nat} {fd : FuncData} {ps : List Str} {sp : Sp} {E : XK}
/-- what may stand at the left of such an object -/
inductive LeftOk (H : Hp) : V → Prop where
  | non : LeftOk H .non
  | int (i : Int) : LeftOk H (.int i)
  | str (z : Str) : LeftOk H (.str z)
  | lst {p : Addr} {xs : List V} (h : H p = some (.lst xs)) : LeftOk H (.ref p)
  | tup {p : Addr} {xs : List V} (h : H p = some (.tup xs)) : LeftOk H (.ref p)
  | dK {p : Addr} {kvs : List (Key × V)} (h : H p = some (.dK kvs)) : LeftOk H (.ref p)
/-- the class is under none of Python's -/
structure NotSub (K : PySem.W.Frag) (C : Addr) : Prop where
  non : PySem.W.subIn K (.ref C) (.type "NoneType") = some false
  int : PySem.W.subIn K (.ref C) (.type "int") = some false
  str : PySem.W.subIn K (.ref C) (.type "str") = some false
  lst : PySem.W.subIn K (.ref C) (.type "list") = some false
  tup : PySem.W.subIn K (.ref C) (.type "tuple") = some false
  dct : PySem.W.subIn K (.ref C) (.type "dict") = some false
def rOwnR (C : Addr) (sp : Sp) (E : XK) : R2 := fun x y H Q => ∃ a dx fs, y = .ref a ∧ H a = some (.ins C dx fs) ∧ LeftOk H x ∧ sp [y, x] H Q E
theorem op_eqR (hs : PySem.W.findIn X.K (.ref C) "__eq__" = some (some (.ref g))) (hf : PySem.W.isFn X.K (.ref g) = true) (N : NotSub X.K C) (G : FnOk X.prog X.w X.K X.mg X.base CX n g fd ps sp) (hb : L2.Binds X.K fd ps [])
    (hr : Room n X.A) (hx : Passes CX X E) : OpR X (compareOp .Eq) (rOwnR C sp E) := by
  intro pins s σ H x y v u Q I rx ry h
  obtain ⟨a, dx, fs, rfl, ha, lo, q⟩ := h
  cases (show u = Value.ref a from ry)
  obtain ⟨od, J⟩ := inst_of I ha
  have hx0 : s.heap.get? a = some (instObj C dx) := J.at_
  show wpAny _ _ (richCompare .Eq _ _) _ _ _
  have fin : wpAny (model X.prog X.w) X.A (call (.ref g) [.ref a, v]) (PySem.W.CmpBack (EP X pins σ Q)) X.xe s :=
    wpAny_mono (run_fnA (A := X.A) (us := [.ref a, v]) (vs := [.ref a, x]) G hr rfl hb hx I (.cons rfl (.cons rx .nil)) q) (fun w s' z => by obtain ⟨z', H', I', rz, qz⟩ := z; exact SlX.cmpback rz ⟨z', H', I', rz, qz⟩) fun _ _ x => x
  have isI : ∀ T : String, PySem.W.subIn X.K (.ref C) (.type T) = some false → Looks (model X.prog X.w) s.heap (isInstance (.ref a) (.type T)) false := fun T e => J.type.andThen (looks_subIn I.kIn e)
  cases lo with
  | non =>
    cases (show v = Value.none from rx)
    exact refl_K (T := "NoneType") (ta := .none) hr.units0 I.kIn J rfl N.non (decl_ofM rfl F.slot_NoneType_eq F.entry_NoneType_eq (F.args_NoneType_eq_2 _ _) none_decl hx0) hs hf fin
  | int i =>
    obtain ⟨t, rfl⟩ := (show ∃ t, v = Value.int i t from rx)
    exact refl_K (T := "int") (ta := .none) hr.units0 I.kIn J (typeIs_int _ _ _) N.int (decl_ofM (typeIs_int _ _ _) F.slot_int_eq F.entry_int_eq (F.args_int_eq_2 _ _) (int_decl _ _) hx0) hs hf fin
  | str z =>
    obtain ⟨t, rfl⟩ := (show ∃ t, v = Value.str z t from rx)
    exact refl_K (T := "str") (ta := .none) hr.units0 I.kIn J (typeIs_str _ _ _) N.str (decl_ofM (typeIs_str _ _ _) F.slot_str_eq F.entry_str_eq (F.args_str_eq_2 _ _) (str_decl _ _) hx0) hs hf fin
  | @lst p xs h =>
    cases (show v = Value.ref p from rx)
    obtain ⟨_, its, k, _, hp⟩ := (show ObjOk X.prog X.w H s.heap p (.lst xs) from I.hok p _ h)
    have hT : s.TypeIs (.ref p) "list" := ⟨_, hp, rfl⟩
    exact refl_K (T := "list") (ta := .none) hr.units0 I.kIn J hT N.lst (decl_of hT F.slot_list_eq F.entry_list_eq (F.args_list_eq_2 _ _) fun Q' q' => list_decl (isI _ N.lst) q') hs hf fin
  | @tup p xs h =>
    cases (show v = Value.ref p from rx)
    obtain ⟨_, its, _, o, h1, h2, _⟩ := (show ObjOk X.prog X.w H s.heap p (.tup xs) from I.hok p _ h)
    have hT : s.TypeIs (.ref p) "tuple" := ⟨_, h1, h2⟩
    exact refl_K (T := "tuple") (ta := .none) hr.units0 I.kIn J hT N.tup (decl_of hT F.slot_tuple_eq F.entry_tuple_eq (F.args_tuple_eq_2 _ _) fun Q' q' => tuple_decl (isI _ N.tup) q') hs hf fin
  | @dK p kvs h =>
    cases (show v = Value.ref p from rx)
    obtain ⟨_, _, vs, _, o, es, ep, h1, h2, _⟩ := (show ObjOk X.prog X.w H s.heap p (.dK kvs) from I.hok p _ h)
    have hT : s.TypeIs (.ref p) "dict" := ⟨_, h1, h2.1⟩
    exact refl_K (T := "dict") (ta := .none) hr.units0 I.kIn J hT N.dct (decl_of hT F.slot_dict_eq F.entry_dict_eq (F.args_dict_eq_2 _ _) fun Q' q' => dict_decl (isI _ N.dct) q') hs hf fin
end
/-! ### in, count, index over a list, each == by the object's own -/
section
open SeqAt AutoSeq1 MeetsSeq MeetsSeq2 MeetsSeq3 SeqRoads2
open PySem.Builtin
variable {prog : Program} {w : World} {A : Around} {R : Result → Shared → Prop}
/-- at each turn the list is read anew, the turn's == gives bs i -/
def LoopB (prog : Program) (w : World) (A : Around) (E : Value → Shared → Prop) (l : Addr) (x : Value) (N : Nat) (bs : Nat → Bool) (I : Nat → Shared → Prop) : Prop :=
  ∀ i s, I i s → ∃ (items : Array Value) (n : Nat), s.heap.get? l = some { cls := .type "list", data := .seq items n } ∧ items.size = N ∧
    ∀ (h1 : i < items.size), wpAny (model prog w) A.in1 (eqBool items[i] x) (fun r s' => r = bs i ∧ I (i + 1) s') E s
def cntB (bs : Nat → Bool) : Nat → Nat → Int
  | 0, _ => 0
  | k + 1, i => (if bs i then 1 else 0) + cntB bs k (i + 1)
theorem count_loopG (l : Addr) (x : Value) (N : Nat) (bs : Nat → Bool) (I : Nat → Shared → Prop) (hl : LoopB prog w A (fun e s' => R (.error e) s') l x N bs I) (k : Nat) :
    ∀ (i : Nat) (found : Int), N - i = k → i ≤ N → ∀ s, I i s → (∀ s, I N s → R (.ok (.ret (.int (found + cntB bs k i) s.toks))) { s with toks := s.toks + 1 }) →
      wpAny (model prog w) A.in1 (Builtin.«list.count.loop» ⟨[.ref l, x, rawInt i, rawInt found], []⟩) (GQ.FinOf prog w A R) (fun e s' => R (.error e) s') s := by
  induction k with
  | zero =>
    intro i found hk hi s h fin
    obtain ⟨items, n, hl1, hs1, _⟩ := hl _ _ h
    have hi' : i = N := by omega
    have hR := fin s (hi' ▸ h)
    obtain ⟨hp, g, d, tk, os⟩ := s
    wp_walk using wpAny_loadPart' hl1
    have hi1 : items[((i : Nat) : Int).toNat]? = none := by simp; omega
    rw [hi1]
    wp_walk
    have e0 : found + cntB bs 0 i = found := by show found + 0 = found; omega
    rw [e0] at hR
    exact hR
  | succ k ih =>
    intro i found hk hi s h fin
    obtain ⟨items, n, hl1, hs1, turn⟩ := hl _ _ h
    have hlt : i < items.size := by omega
    have ht := turn hlt
    obtain ⟨hp, g, d, tk, os⟩ := s
    wp_walk using wpAny_loadPart' hl1
    have hi1 : items[((i : Nat) : Int).toNat]? = some items[i] := by simp [hlt]
    have hc : ((i : Int) + 1) = ((i + 1 : Nat) : Int) := by omega
    rw [hi1]
    refine wpAny_bind (wpAny_mono ht (fun r s2 h2 => ?_) fun _ _ x => x)
    obtain ⟨hr, h2⟩ := h2
    subst hr
    have e1 : (if bs i = true then found + 1 else found) + cntB bs k (i + 1) = found + cntB bs (k + 1) i := by
      show _ = found + ((if bs i then 1 else 0) + cntB bs k (i + 1))
      cases bs i <;> simp <;> omega
    have hrec := ih (i + 1) (if bs i = true then found + 1 else found) (by omega) (by omega) s2 h2 (fun s q => by rw [e1]; exact fin s q)
    obtain ⟨hp2, g2, d2, tk2, os2⟩ := s2
    wp_walk
    rw [hc]
    refine ⟨plainId_quiet plain_count_loop _, codeAny_builtin entry_count_loop (by
      rw [Around.under_plainId plain_count_loop _]

      exact hrec)⟩
end
section
open SeqAt AutoSeq1 MeetsSeq MeetsSeq2 MeetsSeq3 SeqRoads2
open PySem.Builtin
variable {prog : Program} {w : World} {A : Around} {R : Result → Shared → Prop}
theorem list_countG (l : Addr) (x : Value) (N : Nat) (bs : Nat → Bool) (I : Nat → Shared → Prop) (hl : LoopB prog w A (fun e s' => R (.error e) s') l x N bs I) {s : Shared} (h : I 0 s)
    (fin : ∀ s, I N s → R (.ok (.ret (.int (cntB bs N 0) s.toks))) { s with toks := s.toks + 1 }) :
    wpAny (model prog w) A.in1 (Builtin.«list.count» ⟨[.ref l, x], []⟩) (GQ.FinOf prog w A R) (fun e s' => R (.error e) s') s := by
  obtain ⟨items, n, hl1, hs1, _⟩ := hl _ _ h
  have hrec := count_loopG (A := A) (R := R) l x N bs I hl N 0 0 rfl (Nat.zero_le _) s h (fun s q => by rw [Int.zero_add]; exact fin s q)
  obtain ⟨hp, g, d, tk, os⟩ := s
  wp_walk using wpAny_loadPart' hl1
  exact ⟨plainId_quiet plain_count_loop _, codeAny_builtin entry_count_loop (by
    rw [Around.under_plainId plain_count_loop _]
    exact hrec)⟩
theorem index_loopG (l : Addr) (x : Value) (N : Nat) (bs : Nat → Bool) (I : Nat → Shared → Prop) (hl : LoopB prog w A (fun e s' => R (.error e) s') l x N bs I) (upto : Int) (j : Nat) (hj : j < N) (hupto : (j : Int) < upto) (hit : bs j = true)
    (fin : ∀ s, I (j + 1) s → R (.ok (.ret (.int j s.toks))) { s with toks := s.toks + 1 }) (k : Nat) :
    ∀ i : Nat, j - i = k → i ≤ j → (∀ m, i ≤ m → m < j → bs m = false) → ∀ s, I i s →
      wpAny (model prog w) A.in1 (Builtin.«list.index.loop» ⟨[.ref l, x, rawInt i, rawInt upto], []⟩) (GQ.FinOf prog w A R) (fun e s' => R (.error e) s') s := by
  induction k with
  | zero =>
    intro i hk hij hno s h
    have hij' : i = j := by omega
    subst hij'
    obtain ⟨items, n, hl1, hs1, turn⟩ := hl _ _ h
    have hlt : i < items.size := by omega
    have ht := turn hlt
    obtain ⟨hp, g, d, tk, os⟩ := s
    wp_walk using wpAny_loadPart' hl1
    have hi : (if (i : Int) < upto then items[((i : Nat) : Int).toNat]? else none) = some items[i] := by simp [hupto, hlt]
    rw [hi]
    refine wpAny_bind (wpAny_mono ht (fun r s2 h2 => ?_) fun _ _ x => x)
    obtain ⟨hr, h2⟩ := h2
    subst hr
    rw [hit]
    have hR := fin s2 h2
    obtain ⟨hp2, g2, d2, tk2, os2⟩ := s2
    wp_walk
    exact hR
  | succ k ih =>
    intro i hk hij hno s h
    obtain ⟨items, n, hl1, hs1, turn⟩ := hl _ _ h
    have hlt : i < items.size := by omega
    have hst : (i : Int) < upto := by omega
    have ht := turn hlt
    obtain ⟨hp, g, d, tk, os⟩ := s
    wp_walk using wpAny_loadPart' hl1
    have hi : (if (i : Int) < upto then items[((i : Nat) : Int).toNat]? else none) = some items[i] := by simp [hst, hlt]
    have hc : ((i : Int) + 1) = ((i + 1 : Nat) : Int) := by omega
    rw [hi]
    refine wpAny_bind (wpAny_mono ht (fun r s2 h2 => ?_) fun _ _ x => x)
    obtain ⟨hr, h2⟩ := h2
    subst hr
    rw [hno i (Nat.le_refl _) (by omega)]
    have hrec := ih (i + 1) (by omega) (by omega) (fun m h1 h2 => hno m (by omega) h2) s2 h2
    obtain ⟨hp2, g2, d2, tk2, os2⟩ := s2
    wp_walk
    rw [hc]
    exact ⟨plainId_quiet plain_index_loop _, codeAny_builtin entry_index_loop (by
      rw [Around.under_plainId plain_index_loop _]
      exact hrec)⟩
theorem list_indexG (l : Addr) (x : Value) (N : Nat) (bs : Nat → Bool) (I : Nat → Shared → Prop) (hl : LoopB prog w A (fun e s' => R (.error e) s') l x N bs I) (j : Nat) (hj : j < N) (hsmall : (j : Int) < 2 ^ 63 - 1) (hit : bs j = true) (hno : ∀ m, m < j → bs m = false)
    (fin : ∀ s, I (j + 1) s → R (.ok (.ret (.int j s.toks))) { s with toks := s.toks + 1 }) {s : Shared} (h : I 0 s) :
    wpAny (model prog w) A.in1 (Builtin.«list.index» ⟨[.ref l, x], []⟩) (GQ.FinOf prog w A R) (fun e s' => R (.error e) s') s := by
  obtain ⟨items, n, hl1, hs1, _⟩ := hl _ _ h
  have hrec := index_loopG (A := A) (R := R) l x N bs I hl (2 ^ 63 - 1) j hj hsmall hit fin j 0 (by omega) (Nat.zero_le _) (fun m _ h2 => hno m h2) s h
  obtain ⟨hp, g, d, tk, os⟩ := s
  wp_walk using wpAny_loadPart' hl1
  have a1 : ((fun i : Int => if i < 0 then max 0 (i + (items.size : Int)) else i) ((none : Option Int).getD 0)) = ((0 : Nat) : Int) := by simp
  have a2 : ((fun i : Int => if i < 0 then max 0 (i + (items.size : Int)) else i) ((none : Option Int).getD (2 ^ 63 - 1))) = 2 ^ 63 - 1 := by simp
  rw [a1, a2]
  exact ⟨plainId_quiet plain_index_loop _, codeAny_builtin entry_index_loop (by
    rw [Around.under_plainId plain_index_loop _]
    exact hrec)⟩
theorem contains_loopG (l : Addr) (x : Value) (N : Nat) (bs : Nat → Bool) (I : Nat → Shared → Prop) (hl : LoopB prog w A (fun e s' => R (.error e) s') l x N bs I) (j : Nat) (hj : j < N) (hit : bs j = true)
    (fin : ∀ s, I (j + 1) s → R (.ok (.ret (.bool true))) s) (k : Nat) :
    ∀ i : Nat, j - i = k → i ≤ j → (∀ m, i ≤ m → m < j → bs m = false) → ∀ s, I i s →
      wpAny (model prog w) A.in1 (Builtin.«list.__contains__.loop» ⟨[.ref l, x, rawInt i], []⟩) (GQ.FinOf prog w A R) (fun e s' => R (.error e) s') s := by
  induction k with
  | zero =>
    intro i hk hij hno s h
    have hij' : i = j := by omega
    subst hij'
    obtain ⟨items, n, hl1, hs1, turn⟩ := hl _ _ h
    have hlt : i < items.size := by omega
    have ht := turn hlt
    obtain ⟨hp, g, d, tk, os⟩ := s
    wp_walk using wpAny_loadPart' hl1
    have hi : items[((i : Nat) : Int).toNat]? = some items[i] := by simp [hlt]
    rw [hi]
    refine wpAny_bind (wpAny_mono ht (fun r s2 h2 => ?_) fun _ _ x => x)
    obtain ⟨hr, h2⟩ := h2
    subst hr
    rw [hit]
    have hR := fin s2 h2
    obtain ⟨hp2, g2, d2, tk2, os2⟩ := s2
    wp_walk
    exact hR
  | succ k ih =>
    intro i hk hij hno s h
    obtain ⟨items, n, hl1, hs1, turn⟩ := hl _ _ h
    have hlt : i < items.size := by omega
    have ht := turn hlt
    obtain ⟨hp, g, d, tk, os⟩ := s
    wp_walk using wpAny_loadPart' hl1
    have hi : items[((i : Nat) : Int).toNat]? = some items[i] := by simp [hlt]
    have hc : ((i : Int) + 1) = ((i + 1 : Nat) : Int) := by omega
    rw [hi]
    refine wpAny_bind (wpAny_mono ht (fun r s2 h2 => ?_) fun _ _ x => x)
    obtain ⟨hr, h2⟩ := h2
    subst hr
    rw [hno i (Nat.le_refl _) (by omega)]
    have hrec := ih (i + 1) (by omega) (by omega) (fun m h1 h2 => hno m (by omega) h2) s2 h2
    obtain ⟨hp2, g2, d2, tk2, os2⟩ := s2
    wp_walk
    rw [hc]
    exact ⟨plainId_quiet plain_contains_loop _, codeAny_builtin entry_contains_loop (by
      rw [Around.under_plainId plain_contains_loop _]
      exact hrec)⟩
theorem list_containsG (l : Addr) (x : Value) (N : Nat) (bs : Nat → Bool) (I : Nat → Shared → Prop) (hl : LoopB prog w A (fun e s' => R (.error e) s') l x N bs I) (j : Nat) (hj : j < N) (hit : bs j = true) (hno : ∀ m, m < j → bs m = false)
    (fin : ∀ s, I (j + 1) s → R (.ok (.ret (.bool true))) s) {s : Shared} (h : I 0 s) :
    wpAny (model prog w) A.in1 (Builtin.«list.__contains__» ⟨[.ref l, x], []⟩) (GQ.FinOf prog w A R) (fun e s' => R (.error e) s') s := by
  obtain ⟨items, n, hl1, hs1, _⟩ := hl _ _ h
  have hrec := contains_loopG (A := A) (R := R) l x N bs I hl j hj hit fin j 0 (by omega) (Nat.zero_le _) (fun m _ h2 => hno m h2) s h
  obtain ⟨hp, g, d, tk, os⟩ := s
  wp_walk using wpAny_loadPart' hl1
  exact ⟨plainId_quiet plain_contains_loop _, codeAny_builtin entry_contains_loop (by
    rw [Around.under_plainId plain_contains_loop _]
    exact hrec)⟩
end
section
open SeqAt
variable {X : Cx} {CX : CXT} {C g : Addr} {n : Nat} {fd : FuncData} {ps : List Str} {sp : Sp} {E : XK}
/-- what an own == tells: (x, y) are known, the answer is b, only new objects come -/
def EqB (X : Cx) (n : Nat) (D : V → V → Hp → Bool → Prop) : Prop :=
  ∀ (A : Around) (pins : List (Addr × Obj)) (s : Shared) (σ : L2.St) (H : Hp) (x y : V) (u v : Value) (b : Bool), L2.Sub X n A → L2.Inv X pins σ H s → RelV x u → RelV y v → D x y H b →
    wpAny (model X.prog X.w) A (eqBool u v) (fun r s' => r = b ∧ ∃ H', L2.Inv X pins σ H' s' ∧ Same H H') X.xe s
/-- the promise of such an __eq__ -/
def spEqB (D : V → V → Hp → Bool → Prop) : Sp := fun vs H Q _ => ∃ (x y : V) (b : Bool), vs = [x, y] ∧ D x y H b ∧ ∀ H', Same H H' → Q (.bl b) H'
/-- both are objects of the class; of one and itself the answer is True -/
structure DOk (C : Addr) (D : V → V → Hp → Bool → Prop) : Prop where
  ins : ∀ x y H b, D x y H b → ∃ a dx fs a' dx' fs', x = .ref a ∧ H a = some (.ins C dx fs) ∧ y = .ref a' ∧ H a' = some (.ins C dx' fs')
  self : ∀ x H b, D x x H b → b = true
  mono : ∀ x y H H' b, Same H H' → D x y H b → D x y H' b
theorem eqB_ins {D : V → V → Hp → Bool → Prop} (O : DOk C D) (hs : PySem.W.findIn X.K (.ref C) "__eq__" = some (some (.ref g))) (hf : PySem.W.isFn X.K (.ref g) = true) (hn : PySem.W.notFirst X.K C (.ref C) = true)
    (F : FnOk X.prog X.w X.K X.mg X.base CX n g fd ps (spEqB D)) (hb : L2.Binds X.K fd ps []) (hx : Passes CX X E0) : EqB X n D := by
  intro A pins s σ H x y u v b sb I rx ry d
  obtain ⟨a, dx, fs, a', dx', fs', rfl, ha, rfl, ha'⟩ := O.ins x y H b d
  cases (show u = Value.ref a from rx)
  cases (show v = Value.ref a' from ry)
  by_cases e : a = a'
  · subst e
    have e2 := O.self _ _ _ d
    subst e2
    unfold eqBool
    refine wpAny_holding ?_
    simp only [beq_self_eq_true, if_true]
    refine wpAny_bind (wpAny_rule (wpAny_pure ?_))
    exact ⟨rfl, H, I, fun _ _ e => e⟩
  · obtain ⟨od, J⟩ := inst_of I ha
    obtain ⟨od', J'⟩ := inst_of I ha'
    obtain ⟨m, hF⟩ := I.fr
    refine GQ.eqBool_refG e (PySem.W.cmp_K (op := .Eq) (tb := .ref C) sb.room.units0 hF I.ok.mod.kin J J'.type hn hs hf ?_)
    refine wpAny_mono (run_fnA (A := A) (us := [.ref a, .ref a']) (vs := [.ref a, .ref a']) (Q := fun z H' => z = .bl b ∧ Same H H') F sb.room sb.fr hb hx I (.cons rfl (.cons rfl .nil)) ⟨_, _, b, rfl, d, fun H' k => ⟨rfl, k⟩⟩) (fun w s' z => ?_) fun _ _ x => x
    obtain ⟨z', H', I', rz, rfl, k⟩ := z
    cases (show w = Value.bool b from rz)
    exact ⟨b, rfl, rfl, H', I', k⟩
theorem loopB_of {D : V → V → Hp → Bool → Prop} (O : DOk C D) (e : EqB X n D) {A : Around} (sb : L2.Sub X (n + 1) A) {pins : List (Addr × Obj)} {σ : L2.St} {H : Hp} {l : Addr} {xs : List V} {x : V} {u : Value} {bs : Nat → Bool} (hl : H l = some (.lst xs)) (ru : RelV x u)
    (hd : ∀ i y, xs[i]? = some y → D y x H (bs i)) : LoopB X.prog X.w A X.xe l u xs.length bs (fun _ s' => ∃ H', L2.Inv X pins σ H' s' ∧ Same H H') := by
  rintro i s ⟨H', I, k⟩
  obtain ⟨_, its, m, r, hp⟩ := (show ObjOk X.prog X.w H' s.heap l (.lst xs) from I.hok l _ (k _ _ hl))
  refine ⟨its.toArray, m, hp, by simpa using r.length.symm, fun h1 => ?_⟩
  have h1' : i < its.length := by simpa using h1
  have hix : i < xs.length := by rw [r.length]; exact h1'
  obtain ⟨v, hv, rv⟩ := r.get (List.getElem?_eq_getElem hix)
  have ev : its.toArray[i] = v := by
    rw [List.getElem?_eq_getElem h1'] at hv
    simpa using hv
  rw [ev]
  refine wpAny_mono (e A.in1 pins s σ H' _ _ _ _ (bs i) sb.in1 I rv ru (O.mono _ _ _ _ _ k (hd i _ (List.getElem?_eq_getElem hix)))) (fun r s' z => ?_) fun _ _ x => x
  obtain ⟨hr, H2, I2, k2⟩ := z
  exact ⟨hr, H2, I2, k.trans k2⟩
theorem sub_here (hr : Room n X.A) : L2.Sub X n X.A := ⟨hr, rfl⟩
def rCntB (D : V → V → Hp → Bool → Prop) : V → List V → Hp → VK → Prop := fun x xs H Q => ∃ (l : Addr) (ys : List V) (y : V) (bs : Nat → Bool), x = .ref l ∧ xs = [y] ∧ H l = some (.lst ys) ∧ (∀ i z, ys[i]? = some z → D z y H (bs i)) ∧ ∀ H', Same H H' → Q (.int (cntB bs ys.length 0)) H'
theorem mt_countB {D : V → V → Hp → Bool → Prop} (O : DOk C D) (e : EqB X n D) (hr : Room (n + 1) X.A) : MtR X "list.count" (rCntB D) := by
  intro pins s σ H x xs v us Q I rx rxs h
  obtain ⟨l, ys, y, bs, rfl, rfl, hl, hd, q⟩ := h
  cases (show v = Value.ref l from rx)
  obtain ⟨u, rfl, ru⟩ := rxs.one
  obtain ⟨_, its, m, _, hp⟩ := (show ObjOk X.prog X.w H s.heap l (.lst ys) from I.hok l _ hl)
  refine GQ.call_here F.slot_list_count ⟨_, hp, rfl⟩ F.entry_list_count (F.args_list_count_2 _ _) ?_
  refine list_countG l u ys.length bs (fun _ s' => ∃ H', L2.Inv X pins σ H' s' ∧ Same H H') (loopB_of O e (sub_here hr) (pins := pins) (σ := σ) hl ru hd) ⟨H, I, fun _ _ e => e⟩ fun s' z => ?_
  obtain ⟨H', I', k⟩ := z
  exact ⟨.int _, H', I'.tok _, ⟨_, rfl⟩, q H' k⟩
def rIdxB (D : V → V → Hp → Bool → Prop) : V → List V → Hp → VK → Prop := fun x xs H Q => ∃ (l : Addr) (ys : List V) (y : V) (bs : Nat → Bool) (j : Nat), x = .ref l ∧ xs = [y] ∧ H l = some (.lst ys) ∧ (∀ i z, ys[i]? = some z → D z y H (bs i)) ∧ j < ys.length ∧ j < 1000000 ∧ bs j = true ∧ (∀ m, m < j → bs m = false) ∧ ∀ H', Same H H' → Q (.int (j : Nat)) H'
theorem mt_indexB {D : V → V → Hp → Bool → Prop} (O : DOk C D) (e : EqB X n D) (hr : Room (n + 1) X.A) : MtR X "list.index" (rIdxB D) := by
  intro pins s σ H x xs v us Q I rx rxs h
  obtain ⟨l, ys, y, bs, j, rfl, rfl, hl, hd, hj, hj2, hit, hno, q⟩ := h
  cases (show v = Value.ref l from rx)
  obtain ⟨u, rfl, ru⟩ := rxs.one
  obtain ⟨_, its, m, _, hp⟩ := (show ObjOk X.prog X.w H s.heap l (.lst ys) from I.hok l _ hl)
  refine GQ.call_here F.slot_list_index ⟨_, hp, rfl⟩ F.entry_list_index (F.args_list_index_2 _ _) ?_
  refine list_indexG l u ys.length bs (fun _ s' => ∃ H', L2.Inv X pins σ H' s' ∧ Same H H') (loopB_of O e (sub_here hr) (pins := pins) (σ := σ) hl ru hd) j hj (by omega) hit hno (fun s' z => ?_) ⟨H, I, fun _ _ e => e⟩
  obtain ⟨H', I', k⟩ := z
  exact ⟨.int _, H', I'.tok _, ⟨_, rfl⟩, q H' k⟩
def rInB (D : V → V → Hp → Bool → Prop) : R2 := fun y x H Q => ∃ (l : Addr) (ys : List V) (bs : Nat → Bool) (j : Nat), x = .ref l ∧ H l = some (.lst ys) ∧ (∀ i z, ys[i]? = some z → D z y H (bs i)) ∧ j < ys.length ∧ bs j = true ∧ (∀ m, m < j → bs m = false) ∧ ∀ H', Same H H' → Q (.bl true) H'
/-- y in xs, where it is -/
theorem op_inB {D : V → V → Hp → Bool → Prop} (O : DOk C D) (e : EqB X n D) (hr : Room (n + 1) X.A) : OpR X (compareOp .In) (rInB D) := by
  intro pins s σ H y x u v Q I ru rx h
  obtain ⟨l, ys, bs, j, rfl, hl, hd, hj, hit, hno, q⟩ := h
  cases (show v = Value.ref l from rx)
  obtain ⟨_, its, m, _, hp⟩ := (show ObjOk X.prog X.w H s.heap l (.lst ys) from I.hok l _ hl)
  show wpAny _ X.A (do return Value.bool (← PySem.contains (.ref l) u)) _ _ s
  have hT : s.TypeIs (.ref l) "list" := ⟨_, hp, rfl⟩
  refine wpAny_bind (wpAny_contains_slot hT F.slot_list_contains (wpAny_mono (GQ.call_here (Q := fun v s' => v = .bool true ∧ ∃ H', L2.Inv X pins σ H' s' ∧ Same H H') (E := X.xe) F.slot_list_contains hT F.entry_list_contains (F.args_list_contains_2 _ _)
    (list_containsG l u ys.length bs (fun _ s' => ∃ H', L2.Inv X pins σ H' s' ∧ Same H H') (loopB_of O e (sub_here hr) (pins := pins) (σ := σ) hl ru hd) j hj hit hno (fun s' z => ⟨rfl, z⟩) ⟨H, I, fun _ _ e => e⟩)) (fun v s' hv => ?_) fun _ _ e => e))
  obtain ⟨rfl, H', I', k⟩ := hv
  exact wpAny_truthy_bool (wpAny_pure ⟨.bl true, H', I', rfl, q H' k⟩)
end
/-! ### objects of an own class: len and truth by an own __len__; the length of a range -/
section
variable {prog : Program} {w : World} {A : Around} {E : Value → Shared → Prop} {s : Shared} {K : PySem.W.Frag} {x C f : Addr} {ox : Obj} {od : Option Obj}
theorem len_bodyK {Q : Value → Shared → Prop} (X : K.In s.heap) (I : PySem.W.InstAt s.heap x ox C od) (hs : PySem.W.findIn K (.ref C) "__len__" = some (some (.ref f))) (hf : PySem.W.isFn K (.ref f) = true)
    (h : wpAny (model prog w) A (call (.ref f) [.ref x]) (PySem.W.LenBack Q) E s) : wpAny (model prog w) A (Builtin.«len» ⟨[.ref x], []⟩) (fun fin s' => ∃ v, fin = .done (.ret v) ∧ Q v s') E s := by
  unfold Builtin.«len»
  refine wpAny_bind (m := oneArg "len" _) (wpAny_pure ?_)
  refine wpAny_bind (m := callSpecial? (.ref x) (Str.ofString "__len__")) (PySem.W.special_fn X I hs (beq_iff_eq.mp hf) (wpAny_mono h ?_ fun _ _ y => y))
  intro r s' hr
  match r, hr with
  | .int n u, ⟨⟨h0, h1⟩, hq⟩ =>
    refine wpAny_bind (wpAny_holding (wpAny_pure ?_))
    refine wpAny_bind (wpAny_letGo ?_)
    show wpAny _ _ (if n < 0 then _ else _) _ _ _
    rw [if_neg (by omega)]
    show wpAny _ _ (if n ≥ 2 ^ 63 then _ else _) _ _ _
    rw [if_neg (by omega)]
    exact wpAny_bind (wpAny_mkInt (wpAny_pure ⟨_, rfl, hq⟩))
theorem truthy_len {Q : Bool → Shared → Prop} (X : K.In s.heap) (I : PySem.W.InstAt s.heap x ox C od) (hb : PySem.W.findIn K (.ref C) "__bool__" = some none) (hs : PySem.W.findIn K (.ref C) "__len__" = some (some (.ref f))) (hf : PySem.W.isFn K (.ref f) = true)
    (h : wpAny (model prog w) A.in1 (call (.ref f) [.ref x]) (PySem.W.LenBack fun v s' => ∃ n t, v = .int n t ∧ Q (n != 0) s') E s) : wpAny (model prog w) A (truthy (.ref x)) Q E s := by
  unfold truthy
  refine wpAny_bind (m := callSpecial? (.ref x) (Str.ofString "__bool__")) (wpAny_bind (wpAny_bind (I.type.here ((PySem.W.looks_findIn X hb).here (wpAny_pure ?_)))))
  refine wpAny_bind (wpAny_bind (I.type.here ((PySem.W.looks_findIn X hs).here ?_)))
  show wpAny _ _ (runValue (.builtin "len" ⟨[.ref x], []⟩) >>= _) _ _ _
  refine wpAny_bind (wpAny_runValue (codeAny_builtin PySem.entry_len ?_))
  rw [Around.under_plainId PySem.plain_len _]
  refine wpAny_mono (len_bodyK X I hs hf h) ?_ (fun _ _ y => y)
  rintro fin s' ⟨v, rfl, n, t, rfl, q⟩
  exact wpAny_pure q
theorem bool_own {Q : Value → Shared → Prop} (h : wpAny (model prog w) A.in1.in1 (truthy (.ref x)) (fun b s' => Q (.bool b) s') E s) : wpAny (model prog w) A (call (.type "bool") [.ref x]) Q E s := by
  have g : MeetsIn prog w (Builtin.«bool.__new__» ⟨[.type "bool", .ref x], []⟩) (fun A R s => wpAny (model prog w) A.in1 (truthy (.ref x)) (fun b s' => R (.ok (.ret (.bool b))) s') (fun e s' => R (.error e) s') s) := by
    intro A R s hs
    obtain ⟨hp, g, d, tk, os⟩ := s
    have f1 := F.conv_sub_bool
    have hs2 : wpAny (model prog w) A.in1 (truthy (.ref x)) (fun b s' => wpAny (model prog w) A.in1 (ret (.bool b) : Sem Fin) (fun fin s' => match fin with | .done f => R (.ok f) s' | .again c' => c'.quiet = true ∧ codeAny (model prog w) A c' R s') (fun e s' => R (.error e) s') s') (fun e s' => R (.error e) s') ⟨hp, g, d, tk, os⟩ :=
      wpAny_mono hs (fun b s' z => wpAny_pure z) fun _ _ z => z
    repeat (any_goals (first | assumption | exact hs2 | wp_step))
  exact callType_newIn F.called_bool F.newNe_bool (F.typeCall_bool_1 _) (F.newCall_bool_1 _) (fun obj => F.args_object_init_2 obj _) F.entry_bool_new g (wpAny_mono h (fun b s' z => ⟨rfl, z⟩) fun _ _ z => z)
end
section
variable {X : Cx} {CX : CXT} {C g : Addr} {n : Nat} {fd : FuncData} {ps : List Str} {sp : Sp} {E : XK}
def QLen (Q : VK) : VK := fun z H' => ∃ m : Int, z = .int m ∧ 0 ≤ m ∧ m < 2 ^ 62 ∧ Q (.int m) H'
def QTru (Q : VK) : VK := fun z H' => ∃ m : Int, z = .int m ∧ 0 ≤ m ∧ m < 2 ^ 62 ∧ Q (.bl (m != 0)) H'
/-- len(o), by o's own __len__ -/
theorem call_lenOwn (hs : PySem.W.findIn X.K (.ref C) "__len__" = some (some (.ref g))) (hf : PySem.W.isFn X.K (.ref g) = true) (F : FnOk X.prog X.w X.K X.mg X.base CX n g fd ps sp) (hb : L2.Binds X.K fd ps [])
    (hr : Room (n + 1) X.A) (hx : Passes CX X E) : CallR X (.builtin "len") (rOwn1 C sp E QLen) := by
  intro pins s σ H vs us Q I r h
  obtain ⟨a, dx, fs, rfl, ha, q⟩ := h
  obtain ⟨u, rfl, ru⟩ := Vals.one r
  cases (show u = Value.ref a from ru)
  obtain ⟨od, J⟩ := inst_of I ha
  obtain ⟨m, hF⟩ := I.fr
  refine PySem.W.len_K hF I.ok.mod.kin J hs hf ?_
  refine wpAny_mono (run_fnA (A := X.A.in1) (us := [.ref a]) (vs := [.ref a]) F hr.in1 rfl hb hx I (.cons rfl .nil) q) ?_ (fun _ _ x => x)
  rintro v s' ⟨z, H', I', rz, m, rfl, m0, m1, q'⟩
  obtain ⟨t, rfl⟩ := (show ∃ t, v = Value.int m t from rz)
  exact ⟨⟨m0, Int.lt_trans m1 (by decide)⟩, .int m, H', I'.tok _, ⟨_, rfl⟩, q'⟩
theorem truthyOwn (hbl : PySem.W.findIn X.K (.ref C) "__bool__" = some none) (hs : PySem.W.findIn X.K (.ref C) "__len__" = some (some (.ref g))) (hf : PySem.W.isFn X.K (.ref g) = true) (F : FnOk X.prog X.w X.K X.mg X.base CX n g fd ps sp) (hb : L2.Binds X.K fd ps [])
    {A : Around} (hr : Room (n + 1) A) (hA : A.frames = X.A.frames) (hx : Passes CX X E) {pins : List (Addr × Obj)} {σ : L2.St} {H : Hp} {s : Shared} {a dx : Addr} {fs : List (Str × V)} {Q : VK} (I : L2.Inv X pins σ H s) (ha : H a = some (.ins C dx fs))
    (q : sp [.ref a] H (QTru Q) E) : wpAny (model X.prog X.w) A (truthy (.ref a)) (fun b s' => ∃ H', L2.Inv X pins σ H' s' ∧ Q (.bl b) H') X.xe s := by
  obtain ⟨od, J⟩ := inst_of I ha
  refine truthy_len I.kIn J hbl hs hf ?_
  refine wpAny_mono (run_fnA (A := A.in1) (us := [.ref a]) (vs := [.ref a]) F hr.in1 hA hb hx I (.cons rfl .nil) q) ?_ (fun _ _ x => x)
  rintro v s' ⟨z, H', I', rz, m, rfl, m0, m1, q'⟩
  obtain ⟨t, rfl⟩ := (show ∃ t, v = Value.int m t from rz)
  exact ⟨⟨m0, Int.lt_trans m1 (by decide)⟩, m, _, rfl, H', I'.tok _, q'⟩
/-- bool(o), by o's own __len__ -/
theorem call_boolOwn (hbl : PySem.W.findIn X.K (.ref C) "__bool__" = some none) (hs : PySem.W.findIn X.K (.ref C) "__len__" = some (some (.ref g))) (hf : PySem.W.isFn X.K (.ref g) = true) (F : FnOk X.prog X.w X.K X.mg X.base CX n g fd ps sp) (hb : L2.Binds X.K fd ps [])
    (hr : Room (n + 3) X.A) (hx : Passes CX X E) : CallR X (.type "bool") (rOwn1 C sp E QTru) := by
  intro pins s σ H vs us Q I r h
  obtain ⟨a, dx, fs, rfl, ha, q⟩ := h
  obtain ⟨u, rfl, ru⟩ := Vals.one r
  cases (show u = Value.ref a from ru)
  refine bool_own (wpAny_mono (truthyOwn hbl hs hf F hb (A := X.A.in1.in1) hr.in1.in1 rfl hx I ha q) ?_ fun _ _ x => x)
  rintro b s' ⟨H', I', q'⟩
  exact ⟨.bl b, H', I', rfl, q'⟩
/-- len(range(..)) -/
def tLenRg (te : L2.St → Hp → (Int → Int → Hp → Prop) → Prop) : TE := fun σ H Q => te σ H fun a b H1 => (b - a).toNat < 2 ^ 62 ∧ Q (.int ((b - a).toNat : Nat)) H1
theorem pe_lenRg {e : Expr} {te : L2.St → Hp → (Int → Int → Hp → Prop) → Prop} {p pos : Pos} (hg : Gl X "len") (hm : X.mg "len" = none) (he : PRg X e te) (na : starEach [e] X.env = (false, eval e X.env) :: starEach [] X.env := by rfl) : PE X (.Call (.Name "len" p) [e] [] pos) (tLenRg te) := by
  constructor
  intro pins s σ H Q I h
  refine wpAny_Call_Name_kw (ld_blt I hg hm PySem.boot_len ?_ (by decide) (by decide))
  refine PyProof.Rows.callWith_builtin1 (PyProof.Rows.args_cons (thn (he pins s σ H _ I h) ?_) na) na rfl
  rintro x s1 ⟨r, a, b, t, u, v, H1, rfl, hr, I1, hz, q⟩
  refine PyProof.Rows.args_nil (call_len_range (n := (b - a).toNat) hr ?_ ?_ ⟨.int ((b - a).toNat : Nat), H1, I1.tok _, ⟨_, rfl⟩, q⟩)
  · unfold Builtin.Range.rangeSize
    rw [if_pos (by decide)]
    split
    · rw [Int.ediv_one]
      omega
    · omega
  · omega
end
abbrev sTape : Stmt := topS 13
abbrev NTape : List Str := ["_law_script"]
theorem scTape : FnScope NTape ["_law_script"] (defScope sTape) := ⟨rfl, rfl, rfl, by decide +kernel, rfl, by decide +kernel, by decide +kernel⟩
abbrev sDraw : Stmt := topS 14
abbrev NDraw : List Str := ["_law_tape_here", "_law_many", "_law_digit", "_law_turn", "_law_cell", "_law_primes", "_law_prime", "_law_mixed"]
theorem scDraw : FnScope NDraw ["_law_tape_here", "_law_many"] (defScope sDraw) := ⟨rfl, rfl, rfl, by decide +kernel, rfl, by decide +kernel, by decide +kernel⟩
abbrev sPick : Stmt := topS 15
abbrev NPick : List Str := ["_law_tape_here", "_law_some"]
theorem scPick : FnScope NPick ["_law_tape_here", "_law_some"] (defScope sPick) := ⟨rfl, rfl, rfl, by decide +kernel, rfl, by decide +kernel, by decide +kernel⟩

/-- the tape at T: the cells' list, the draws done (at most n), the rest of a great cell -/
structure Tape (H : Hp) (T c : Addr) (n : Nat) : Prop where
  ex : ∃ (t r : Int) (ns : List Int), H T = some (.lst [.ref c, .int t, .int r]) ∧ H c = some (.lst (ns.map V.int)) ∧ c ≠ T ∧ 0 ≤ t ∧ t ≤ n ∧ ns.length ≤ 63
/-- all but the tape stands as it stood -/
def Keep (T : Addr) (H H' : Hp) : Prop := ∀ a o, a ≠ T → H a = some o → H' a = some o
theorem Keep.refl {T : Addr} {H : Hp} : Keep T H H := fun _ _ _ e => e
theorem Keep.trans {T : Addr} {H H1 H2 : Hp} (a : Keep T H H1) (b : Keep T H1 H2) : Keep T H H2 := fun x o n e => b x o n (a x o n e)
theorem Keep.updT {T : Addr} {H H1 : Hp} {o : HO} (a : Keep T H H1) : Keep T H (upd H1 T o) := fun x o n e => by
  rw [upd_ne n]; exact a x o n e
theorem Keep.new {T : Addr} {H H1 : Hp} {p : Addr} {o : HO} (a : Keep T H H1) (h : H1 p = none) : Keep T H (upd H1 p o) := fun x o n e => by
  have z := a x o n e
  rw [upd_ne (ne_of_none z h)]; exact z
theorem Tape.mono {H : Hp} {T c : Addr} {n m : Nat} (h : Tape H T c n) (l : n ≤ m) : Tape H T c m := by
  obtain ⟨t, r, ns, h1, h2, h3, h4, h5, h6⟩ := h.ex
  exact ⟨t, r, ns, h1, h2, h3, h4, by omega, h6⟩
theorem Tape.upd {H : Hp} {T c : Addr} {n : Nat} {p : Addr} {o : HO} (h : Tape H T c n) (n1 : p ≠ T) (n2 : p ≠ c) : Tape (upd H p o) T c n := by
  obtain ⟨t, r, ns, h1, h2, h3, h4, h5, h6⟩ := h.ex
  exact ⟨t, r, ns, by rw [upd_ne n1.symm]; exact h1, by rw [upd_ne n2.symm]; exact h2, h3, h4, h5, h6⟩
theorem Tape.new {H : Hp} {T c : Addr} {n : Nat} {p : Addr} {o : HO} (h : Tape H T c n) (hp : H p = none) : Tape (L2.upd H p o) T c n := by
  obtain ⟨t, r, ns, h1, h2, h3, h4, h5, h6⟩ := h.ex
  exact ⟨t, r, ns, by rw [upd_ne (ne_of_none h1 hp)]; exact h1, by rw [upd_ne (ne_of_none h2 hp)]; exact h2, h3, h4, h5, h6⟩
theorem Tape.nec {H : Hp} {T c : Addr} {n : Nat} {p : Addr} (h : Tape H T c n) (hp : H p = none) : p ≠ c := by
  obtain ⟨t, r, ns, _, h2, _⟩ := h.ex
  exact (ne_of_none h2 hp).symm
theorem Tape.ne {H : Hp} {T c : Addr} {n : Nat} {p : Addr} (h : Tape H T c n) (hp : H p = none) : p ≠ T := by
  obtain ⟨t, r, ns, h1, _⟩ := h.ex
  exact (ne_of_none h1 hp).symm
theorem upd_at {H : Hp} {p a : Addr} {o z : HO} (hp : H p = none) (h : H a = some z) : (upd H p o) a = some z := by
  rw [upd_ne (ne_of_none h hp)]; exact h
def spTape (K : PySem.W.Frag) : Sp := fun vs H Q _ => ∃ (a : Addr) (ns : List Int), vs = [.ref a] ∧ SqL K H a (ns.map V.int) ∧ ns.length ≤ 63 ∧
  ∀ T c H', H T = none → H c = none → Same H H' → Tape H' T c 0 → Q (.ref T) H'
def spDraw : Sp := fun vs H Q _ => ∃ (T c : Addr) (b : Int) (n : Nat), vs = [.ref T, .int b] ∧ 0 < b ∧ b < 1073741824 ∧ n < 1000000 ∧ Tape H T c n ∧
  ∀ d H', 0 ≤ d → d < b → Tape H' T c (n + 1) → Keep T H H' → Q (.int d) H'
/-- an item of a list, any one -/
def spPick : Sp := fun vs H Q _ => ∃ (T c p : Addr) (xs : List V) (n : Nat), vs = [.ref T, .ref p] ∧ H p = some (.lst xs) ∧ p ≠ T ∧ 0 < xs.length ∧ xs.length < 1000000 ∧ n < 1000000 ∧ Tape H T c n ∧
  ∀ (j : Nat) (x : V) H', xs[j]? = some x → Tape H' T c (n + 1) → Keep T H H' → Q x H'
theorem dp_ints {K : PySem.W.Frag} {H : Hp} : ∀ ns : List Int, DpAll K H (ns.map V.int) (ns.map PyData.int)
  | [] => .nil
  | _ :: r => .cons (.int _) (dp_ints r)
theorem cut63 {ns : List Int} (h : ns.length ≤ 63) : cutV (ns.map V.int) none (some 63) = ns.map V.int := by
  unfold cutV
  rw [HT.sIx_none, show HT.sIx (ns.map V.int).length (ns.map V.int).length (some 63) = min 63 (ns.map V.int).length from HT.sIx_nat _ _ 63, List.length_map, Nat.min_eq_right h]
  show ((ns.map V.int).take (ns.length - 0)) = _
  rw [Nat.sub_zero]
  exact List.take_of_length_le (by rw [List.length_map]; exact Nat.le_refl _)
theorem fmod_in {a b : Int} (h : 0 < b) : 0 ≤ a.fmod b ∧ a.fmod b < b := by
  rw [Int.fmod_eq_emod_of_nonneg a (Int.le_of_lt h)]; exact ⟨Int.emod_nonneg a (by omega), Int.emod_lt_of_pos a h⟩
theorem prime_at (t : Int) : ∃ (j : Nat) (p : Int), t.fmod 5 = (j : Int) ∧ ([.int 2147483647, .int 2147483629, .int 2147483587, .int 2147483579, .int 2147483563] : List V)[j]? = some (.int p) ∧ 0 < p ∧ p < 2147483648 := by
  obtain ⟨h1, h2⟩ := fmod_in (a := t) (b := 5) (by decide)
  generalize t.fmod 5 = z at h1 h2
  have : z = 0 ∨ z = 1 ∨ z = 2 ∨ z = 3 ∨ z = 4 := by omega
  rcases this with rfl | rfl | rfl | rfl | rfl
  · exact ⟨0, _, rfl, rfl, by decide, by decide⟩
  · exact ⟨1, _, rfl, rfl, by decide, by decide⟩
  · exact ⟨2, _, rfl, rfl, by decide, by decide⟩
  · exact ⟨3, _, rfl, rfl, by decide, by decide⟩
  · exact ⟨4, _, rfl, rfl, by decide, by decide⟩
/-- what the law's helpers ask of the module's names -/
structure Txt0 (mg : Str → Option Value) : Prop where
  mlen : mg "len" = none
section
variable {P : Program} {w : World} {K : PySem.W.Frag} {mg : Str → Option Value} {base : Heap}
theorem ok_draw {f : Addr} {fd : FuncData} {k : Nat} (F : Fun K "_law_draw" "_law_draw" sDraw f fd) (T : Txt0 mg) : FnOk P w K mg base CX0 (k + 1) f fd ["_law_tape_here", "_law_many"] spDraw := by
  refine F.ok scDraw (fun vs H Q E h => ?_) (fun cdv A outer s H vs Q E hr h => ?_)
  · obtain ⟨T, c, b, n, rfl, _⟩ := h
    rfl
  · obtain ⟨a, c, b, n, rfl, hb0, hb1, hn, hT, q⟩ := h
    obtain ⟨t, r, ns, h1, h2, h3, h4, h5, h6⟩ := hT.ex
    refine ⟨_,
      (pss_cons (ps_if (pt_cmpR op_gt (pe_ix ix_list (pv 0) pe_int (fun _ _ => rfl)) pe_int (nomark _))
      (pss_cons (ps_set (i := 2) scDraw.nd rfl (.inl rfl) (pe_op op_modN (pe_ix ix_list (pv 0) pe_int (fun _ _ => rfl)) (pv 1)))
      (pss_cons (ps_asg (pe_op op_fdivN (pe_ix ix_list (pv 0) pe_int (fun _ _ => rfl)) (pv 1)) (pg_sub (pv 0) pe_int set_list))
      (pss_one (ps_ret (pv 2)))))
      pss_nil)
      (pss_cons (ps_set (i := 3) scDraw.nd rfl (.inl rfl) (pe_ix ix_list (pv 0) pe_int (fun _ _ => rfl)))
      (pss_cut (ps_asg (pe_op op_add (pv 3) pe_int) (pg_sub (pv 0) pe_int set_list))
      (pss_cons (ps_set (i := 4) scDraw.nd rfl (.inl rfl) pe_int)
      (pss_cut (ps_if (pt_cmpR (op_neD hr.units) (pe_ix ix_list (pv 0) pe_int (fun _ _ => rfl)) (pe_lst pa_nil) (nomark _))
      (pss_one (ps_set (i := 4) scDraw.nd rfl (.inl rfl) (pe_ix ix_list (pe_ix ix_list (pv 0) pe_int (fun _ _ => rfl)) (pe_op op_modN (pv 3) (pe_callB call_len_seq (by rfl) T.mlen PySem.boot_len (pa_cons (pe_ix ix_list (pv 0) pe_int (fun _ _ => rfl)) pa_nil))) (fun _ _ => rfl))))
      pss_nil)
      (pss_cut (ps_if (PW.pt (pw_and (pt_cmpR op_ge (pv 4) (pe_op op_pow pe_int pe_int) (nomark _)) (pw_and1 (pt_cmpR op_lt (pv 3) (pe_callB call_len_seq (by rfl) T.mlen PySem.boot_len (pa_cons (pe_ix ix_list (pv 0) pe_int (fun _ _ => rfl)) pa_nil)) (nomark _)))))
      (pss_cons (ps_asg (pe_op op_fdivN (pe_op op_sub (pv 4) (pe_op op_pow pe_int pe_int)) (pv 1)) (pg_sub (pv 0) pe_int set_list))
      (pss_one (ps_ret (pe_op op_modN (pe_op op_sub (pv 4) (pe_op op_pow pe_int pe_int)) (pv 1)))))
      pss_nil)
      (pss_cons (ps_set (i := 5) scDraw.nd rfl (.inl rfl) (pe_lst (pa_cons pe_int (pa_cons pe_int (pa_cons pe_int (pa_cons pe_int (pa_cons pe_int pa_nil)))))))
      (pss_cons (ps_set (i := 6) scDraw.nd rfl (.inl rfl) (pe_ix ix_list (pv 5) (pe_op op_modN (pv 3) pe_int) (fun _ _ => rfl)))
      (pss_cut (ps_set (i := 7) scDraw.nd rfl (.inl rfl) (pe_op op_modN (pe_op op_add (pe_op op_add (pe_op op_add (pe_op op_mul (pe_op op_modN (pv 4) (pv 6)) pe_int) (pe_op op_mul (pe_op op_mul pe_int (pv 3)) (pv 3))) (pe_op op_mul pe_int (pv 3))) pe_int) (pv 6)))
      (pss_cut (ps_set (i := 7) scDraw.nd rfl (.inl rfl) (pe_op op_modN (pe_op op_mul (pv 7) (pe_op op_add (pv 7) pe_int)) (pe_ix ix_list (pv 5) (pe_op op_modN (pe_op op_add (pv 3) pe_int) pe_int) (fun _ _ => rfl))))
      (pss_one (ps_ret (pe_op op_modN (pe_op op_fdivN (pe_op op_modN (pe_op op_mul (pv 7) (pv 7)) pe_int) pe_int) (pv 1))))))))))))))
      , ?_⟩
    -- if tape[2] > 0
    refine ⟨_, rfl, a, _, 2, _, rfl, rfl, SqL.of h1, atI_nat (j := 2) rfl, _, _, rfl, rfl, _, rfl, ite2 (fun _ => ?_) (fun _ => ?_)⟩
    · obtain ⟨e1, e2⟩ := fmod_in (a := r) hb0
      refine ⟨_, rfl, a, _, 2, _, rfl, rfl, SqL.of h1, atI_nat (j := 2) rfl, _, rfl, _, _, rfl, rfl, by omega, ?_⟩
      refine ⟨_, rfl, a, _, 2, _, rfl, rfl, SqL.of h1, atI_nat (j := 2) rfl, _, rfl, _, _, rfl, rfl, ⟨by omega, by omega⟩, ?_⟩
      refine ⟨_, rfl, a, _, 2, 2, rfl, rfl, h1, rfl, ?_⟩
      refine ⟨_, rfl, q _ _ e1 e2 ⟨t, _, ns, upd_same, ?_, h3, h4, by omega, h6⟩ Keep.refl.updT⟩
      rw [upd_ne h3]; exact h2
    · refine ⟨_, rfl, a, _, 1, _, rfl, rfl, SqL.of h1, atI_nat (j := 1) rfl, ?_⟩
      refine ⟨fun σ H2 => σ = [some (.ref a), some (.int b), none, some (.int t), none, none, none, none] ∧ H2 a = some (.lst [.ref c, .int (t + 1), .int r]) ∧ H2 c = some (.lst (ns.map V.int)) ∧ Keep a H H2, ?_, ?_⟩
      · refine ⟨_, rfl, _, _, rfl, rfl, _, rfl, a, _, 1, 1, rfl, rfl, h1, rfl, rfl, upd_same, ?_, Keep.refl.updT⟩
        rw [upd_ne h3]; exact h2
      rintro σ H1 ⟨rfl, g1, g2, k0⟩
      -- if tape[0] != []: the two ways meet at a cell, any one
      refine ⟨fun σ H2 => ∃ cell : Int, σ = [some (.ref a), some (.int b), none, some (.int t), some (.int cell), none, none, none] ∧ H2 a = some (.lst [.ref c, .int (t + 1), .int r]) ∧ H2 c = some (.lst (ns.map V.int)) ∧ Keep a H H2, ?_, ?_⟩
      · refine ⟨_, rfl, a, _, 0, _, rfl, rfl, SqL.of g1, atI_nat (j := 0) rfl, Nat.zero_le _, fun l hl => ?_⟩
        have u1 := upd_at (o := .lst []) hl g1
        have u2 := upd_at (o := .lst []) hl g2
        refine ⟨_, .list [], .lst (SqL.of u2) (dp_ints _), .lst (SqL.of upd_same) .nil, ke_shaped_ints ns, ke_shaped_ints [], _, rfl, ?_⟩
        cases hns : ns with
        | nil => exact iteF ⟨0, rfl, u1, by rw [← hns]; exact u2, k0.new hl⟩
        | cons z zs =>
          refine iteT ?_
          rw [← hns]
          have hpos : 0 < (ns.length : Int) := by rw [hns]; simp
          refine ⟨_, rfl, a, _, 0, _, rfl, rfl, SqL.of u1, atI_nat (j := 0) rfl, _, rfl, _, rfl, a, _, 0, _, rfl, rfl, SqL.of u1, atI_nat (j := 0) rfl, c, _, rfl, .inl (SqL.of u2), _, _, rfl, rfl, ?_, ?_⟩
          · rw [List.length_map]; omega
          · obtain ⟨e1, e2⟩ := fmod_in (a := t) hpos
            obtain ⟨j, hj⟩ := Int.eq_ofNat_of_zero_le e1
            have hj2 : j < ns.length := by omega
            refine ⟨c, _, (j : Int), .int ns[j], rfl, ?_, SqL.of u2, atI_nat ?_, _, rfl, u1, u2, k0.new hl⟩
            · exact congrArg V.int (by rw [List.length_map]; exact hj)
            · rw [List.getElem?_map, List.getElem?_eq_getElem hj2]; rfl
      · rintro σ H2 ⟨cell, rfl, u1, u2, k2⟩
        -- if cell >= 10 ** 18 and turn < len(tape[0])
        have tp : ∀ (r' : Int) (H3 : Hp), H3 a = some (.lst [.ref c, .int (t + 1), .int r']) → H3 c = some (.lst (ns.map V.int)) → Tape H3 a c (n + 1) := fun r' H3 x1 x2 => ⟨t + 1, r', ns, x1, x2, h3, by omega, by omega, h6⟩
        refine ⟨fun σ H3 => σ = [some (.ref a), some (.int b), none, some (.int t), some (.int cell), none, none, none] ∧ H3 = H2, ?_, ?_⟩
        · refine ⟨_, rfl, _, _, rfl, rfl, ⟨by decide, by decide, by decide⟩, _, _, rfl, rfl, _, rfl, ite2 (fun _ => ?_) (fun _ => iteF ⟨rfl, rfl⟩)⟩
          refine ⟨_, rfl, _, rfl, a, _, 0, _, rfl, rfl, SqL.of u1, atI_nat (j := 0) rfl, c, _, rfl, .inl (SqL.of u2), _, _, rfl, rfl, _, rfl, ite2 (fun _ => ?_) (fun _ => ⟨rfl, rfl⟩)⟩
          refine ⟨_, rfl, _, _, rfl, rfl, ⟨by decide, by decide, by decide⟩, _, _, rfl, rfl, _, rfl, _, _, rfl, rfl, ⟨by omega, by omega⟩, _, rfl, a, _, 2, 2, rfl, rfl, u1, rfl, ?_⟩
          refine ⟨_, rfl, _, _, rfl, rfl, ⟨by decide, by decide, by decide⟩, _, _, rfl, rfl, _, rfl, _, _, rfl, rfl, by omega, ?_⟩
          exact q _ _ (fmod_in hb0).1 (fmod_in hb0).2 (tp _ _ upd_same (by rw [upd_ne h3]; exact u2)) k2.updT
        · rintro σ H3 ⟨rfl, rfl⟩
          -- the five primes, the mixing
          refine ⟨by show 5 ≤ sizeLine; decide, fun l hl => ?_⟩
          have w1 := upd_at (o := .lst [.int 2147483647, .int 2147483629, .int 2147483587, .int 2147483579, .int 2147483563]) hl u1
          have w2 := upd_at (o := .lst [.int 2147483647, .int 2147483629, .int 2147483587, .int 2147483579, .int 2147483563]) hl u2
          have w3 := upd_same (H := H3) (a := l) (o := .lst [.int 2147483647, .int 2147483629, .int 2147483587, .int 2147483579, .int 2147483563])
          obtain ⟨j1, p1, ej1, ep1, hp1, hq1⟩ := prime_at t
          obtain ⟨j2, p2, ej2, ep2, hp2, hq2⟩ := prime_at (t + 2)
          refine ⟨_, rfl, _, rfl, _, _, rfl, rfl, (by show (5 : Int) ≠ 0; decide), l, _, (j1 : Int), _, rfl, congrArg V.int ej1, SqL.of w3, atI_nat ep1, ?_⟩
          have late : ∀ {A B : Prop}, A → A := fun h => h
          refine ⟨fun σ H4 => ∃ m1 : Int, 0 ≤ m1 ∧ m1 < p1 ∧ σ = [some (.ref a), some (.int b), none, some (.int t), some (.int cell), some (.ref l), some (.int p1), some (.int m1)] ∧ H4 = upd H3 l (.lst [.int 2147483647, .int 2147483629, .int 2147483587, .int 2147483579, .int 2147483563]), ?_, ?_⟩
          · refine ⟨_, rfl, _, rfl, _, _, rfl, rfl, by omega, _, _, rfl, rfl, .inr ⟨by decide, by decide⟩, _, rfl, _, _, rfl, rfl, .inl ⟨by decide, by decide⟩, _, rfl, _, _, rfl, rfl, .inr ⟨by omega, by omega⟩, _, _, rfl, rfl, _, rfl, _, _, rfl, rfl, .inl ⟨by decide, by decide⟩, _, _, rfl, rfl, _, _, rfl, rfl, _, rfl, _, _, rfl, rfl, by omega, ?_⟩
            exact ⟨_, (fmod_in hp1).1, (fmod_in hp1).2, rfl, rfl⟩
          rintro σ H4 ⟨m1, m10, m11, rfl, rfl⟩
          refine ⟨fun σ H4 => ∃ m2 : Int, 0 ≤ m2 ∧ m2 < p2 ∧ σ = [some (.ref a), some (.int b), none, some (.int t), some (.int cell), some (.ref l), some (.int p1), some (.int m2)] ∧ H4 = upd H3 l (.lst [.int 2147483647, .int 2147483629, .int 2147483587, .int 2147483579, .int 2147483563]), ?_, ?_⟩
          · refine ⟨_, rfl, _, rfl, _, _, rfl, rfl, _, _, rfl, rfl, .inl ⟨by omega, by omega⟩, _, rfl, _, rfl, _, _, rfl, rfl, _, _, rfl, rfl, (by show (5 : Int) ≠ 0; decide), l, _, (j2 : Int), _, rfl, congrArg V.int ej2, SqL.of w3, atI_nat ep2, _, _, rfl, rfl, by omega, ?_⟩
            exact ⟨_, (fmod_in hp2).1, (fmod_in hp2).2, rfl, rfl⟩
          rintro σ H4 ⟨m2, m20, m21, rfl, rfl⟩
          refine ⟨_, rfl, _, rfl, _, _, rfl, rfl, .inl ⟨by omega, by omega⟩, _, _, rfl, rfl, (by show (2147483549 : Int) ≠ 0; decide), _, _, rfl, rfl, ⟨by decide, by decide⟩, _, rfl, _, _, rfl, rfl, by omega, ?_⟩
          exact q _ _ (fmod_in hb0).1 (fmod_in hb0).2 (tp _ _ w1 w2) (k2.new hl)
/-- an item of a list by a draw -/
theorem ok_pick {f fD : Addr} {fd fdD : FuncData} {k : Nat} (F : Fun K "_law_pick" "_law_pick" sPick f fd) (T : Txt0 mg) (F_law_draw : Fun K "_law_draw" "_law_draw" sDraw fD fdD) (g_law_draw : mg "_law_draw" = some (.ref fD)) (b_law_draw : Binds K fdD ["_law_tape_here", "_law_many"] []) :
    FnOk P w K mg base CX0 (k + 2) f fd ["_law_tape_here", "_law_some"] spPick := by
  have G_law_draw : FnOk P w K mg base CX0 (k + 1) fD fdD ["_law_tape_here", "_law_many"] spDraw := ok_draw F_law_draw T
  refine F.ok scPick (fun vs H Q E h => ?_) (fun cdv A outer s H vs Q E hr h => ?_)
  · obtain ⟨T, c, p, xs, n, rfl, _⟩ := h
    rfl
  · obtain ⟨a, c, p, xs, n, rfl, hS, hpa, hx0, hx1, hn, hT, q⟩ := h
    have hr_law_draw := hr
    refine ⟨_,
      (pss_one (ps_ret (pe_ix ix_list (pv 1) (pe_call G_law_draw hr_law_draw (by rfl) g_law_draw F_law_draw.kp b_law_draw .nil pass0 (pa_cons (pv 0) (pa_cons (pe_callB call_len_seq (by rfl) T.mlen PySem.boot_len (pa_cons (pv 1) pa_nil)) pa_nil))) (fun _ _ => rfl))))
      , ?_⟩
    refine ⟨_, rfl, _, rfl, _, rfl, p, xs, rfl, .inl (SqL.of hS), a, c, xs.length, n, rfl, by omega, by omega, hn, hT, fun d H' d0 d1 T' k' => ?_⟩
    obtain ⟨j, rfl⟩ := Int.eq_ofNat_of_zero_le d0
    have hj : j < xs.length := by omega
    exact ⟨p, xs, (j : Int), xs[j], rfl, rfl, SqL.of (k' p _ hpa hS), atI_nat (List.getElem?_eq_getElem hj), q j _ _ (List.getElem?_eq_getElem hj) T' k'⟩
/-- the tape's making: the cells in a list of their own -/
theorem ok_tape {f : Addr} {fd : FuncData} {k : Nat} (F : Fun K "_law_tape" "_law_tape" sTape f fd) (T : Txt0 mg) : FnOk P w K mg base CX0 (k + 1) f fd ["_law_script"] (spTape K) := by
  refine F.ok scTape (fun vs H Q E h => ?_) (fun cdv A outer s H vs Q E hr h => ?_)
  · obtain ⟨a, ns, rfl, _⟩ := h
    rfl
  · obtain ⟨a, ns, rfl, hS, hlen, q⟩ := h
    refine ⟨_,
      (pss_one (ps_ret (pe_lst (pa_cons (pe_slice sl_list (pv 0) po_none (po_some pe_int)) (pa_cons pe_int (pa_cons pe_int pa_nil))))))
      , ?_⟩
    refine ⟨_, rfl, _, rfl, a, _, rfl, hS, fun p hp => ?_⟩
    refine ⟨by show 3 ≤ sizeLine; decide, fun l hl => ?_⟩
    have nlp : p ≠ l := fun e => by rw [e, upd_same] at hl; cases hl
    have hl0 : H l = none := by rw [upd_ne nlp.symm] at hl; exact hl
    refine q l p _ hl0 hp (fun b o e => upd_at hl (upd_at hp e)) ⟨0, 0, ns, upd_same, ?_, nlp, by omega, by omega, hlen⟩
    rw [upd_ne nlp, upd_same, cut63 hlen]
end
/-! ### heaps that grow -/
theorem Tape.same {H H' : Hp} {T c : Addr} {n : Nat} (h : Tape H T c n) (s : Same H H') : Tape H' T c n := by
  obtain ⟨t, r, ns, h1, h2, h3, h4, h5, h6⟩ := h.ex
  exact ⟨t, r, ns, s _ _ h1, s _ _ h2, h3, h4, h5, h6⟩
theorem Keep.same {T : Addr} {H H1 H2 : Hp} (a : Keep T H H1) (b : Same H1 H2) : Keep T H H2 := fun x o n e => b x o (a x o n e)
theorem same_upd {H : Hp} {p : Addr} {o : HO} (h : H p = none) : Same H (upd H p o) := fun b x e => by
  rw [upd_ne (ne_of_none e h)]; exact e
theorem same_refl {H : Hp} : Same H H := fun _ _ e => e
theorem small_line {n : Nat} (h : n ≤ 100) : n ≤ sizeLine := Nat.le_trans h (by decide)
theorem emp (x : Str) : Str.empty ++ x = x := ext_tl (by show (Str.empty ++ x).cps.toList = _; rw [Str.cps_append]; simp [Str.empty])
section
open PySem.Builtin PySem.Builtin.Str PySem.Builtin.Int
/-- two figures -/
def two (n : Nat) : Str := ⟨#[48 + n / 10, 48 + n % 10]⟩
theorem gives_cut {v : Value} {T : String} {k : String → Sem PySem.Fin} {m : Made} (hT : ∀ s : Shared, s.TypeIs v T)
    (hn : (Value.type T == Value.type "builtin_function_or_method") = false) (g : ∀ n, Gives (k n) m) : Gives (do let n ← typeNameOfCut 200 v; k n) m := by
  intro prog w A R s hq
  refine wpAny_bind ?_
  unfold typeNameOfCut shownTypeOf
  refine wpAny_bind (wpAny_bind (wpAny_typeOf (hT s) ?_))
  simp only [hn, Bool.false_eq_true, if_false]
  exact wpAny_pure (wpAny_pure (g _ prog w A R s hq))
set_option maxHeartbeats 4000000 in
theorem eq_02d (t u : Tok) : ∀ n : Nat, n < 60 → «int.__format__» ⟨[.int (n : Int) t, .str "02d" u], []⟩ = (do let _ ← typeNameOf (.str "02d" u); let _ ← typeNameOfCut 200 (.int (n : Int) t); retStr (two n))
  | 0, _ => by kernel_rfl
  | 1, _ => by kernel_rfl
  | 2, _ => by kernel_rfl
  | 3, _ => by kernel_rfl
  | 4, _ => by kernel_rfl
  | 5, _ => by kernel_rfl
  | 6, _ => by kernel_rfl
  | 7, _ => by kernel_rfl
  | 8, _ => by kernel_rfl
  | 9, _ => by kernel_rfl
  | 10, _ => by kernel_rfl
  | 11, _ => by kernel_rfl
  | 12, _ => by kernel_rfl
  | 13, _ => by kernel_rfl
  | 14, _ => by kernel_rfl
  | 15, _ => by kernel_rfl
  | 16, _ => by kernel_rfl
  | 17, _ => by kernel_rfl
  | 18, _ => by kernel_rfl
  | 19, _ => by kernel_rfl
  | 20, _ => by kernel_rfl
  | 21, _ => by kernel_rfl
  | 22, _ => by kernel_rfl
  | 23, _ => by kernel_rfl
  | 24, _ => by kernel_rfl
  | 25, _ => by kernel_rfl
  | 26, _ => by kernel_rfl
  | 27, _ => by kernel_rfl
  | 28, _ => by kernel_rfl
  | 29, _ => by kernel_rfl
  | 30, _ => by kernel_rfl
  | 31, _ => by kernel_rfl
  | 32, _ => by kernel_rfl
  | 33, _ => by kernel_rfl
  | 34, _ => by kernel_rfl
  | 35, _ => by kernel_rfl
  | 36, _ => by kernel_rfl
  | 37, _ => by kernel_rfl
  | 38, _ => by kernel_rfl
  | 39, _ => by kernel_rfl
  | 40, _ => by kernel_rfl
  | 41, _ => by kernel_rfl
  | 42, _ => by kernel_rfl
  | 43, _ => by kernel_rfl
  | 44, _ => by kernel_rfl
  | 45, _ => by kernel_rfl
  | 46, _ => by kernel_rfl
  | 47, _ => by kernel_rfl
  | 48, _ => by kernel_rfl
  | 49, _ => by kernel_rfl
  | 50, _ => by kernel_rfl
  | 51, _ => by kernel_rfl
  | 52, _ => by kernel_rfl
  | 53, _ => by kernel_rfl
  | 54, _ => by kernel_rfl
  | 55, _ => by kernel_rfl
  | 56, _ => by kernel_rfl
  | 57, _ => by kernel_rfl
  | 58, _ => by kernel_rfl
  | 59, _ => by kernel_rfl
  | n + 60, h => absurd h (by omega)
theorem gives_02d (n : Nat) (hn : n < 60) (t u : Tok) : Gives («int.__format__» ⟨[.int n t, .str "02d" u], []⟩) (.str (two n)) := by
  rw [eq_02d t u n hn]
  refine gives_after_typeNameOf (T := "str") (fun s => typeIs_str s _ _) (by decide) fun _ => ?_
  refine gives_cut (T := "int") (fun s => typeIs_int s _ _) (by decide) fun _ => ?_
  exact .of_eq rfl
section
variable {X : Cx}
/-- {x:02d}, x of at most two figures -/
def tFmt02 (te : TE) : TE := fun σ H Q => te σ H fun x H1 => ∃ n : Nat, x = .int n ∧ n < 60 ∧ Q (.str (two n)) H1
theorem two_len (n : Nat) : (two n).length ≤ sizeLine := by show 2 ≤ sizeLine; decide
theorem pe_fmt02 {e : Expr} {te : TE} {j : Nat} {pos p1 p2 : Pos} (he : PE X e te) : PE X (.FormattedValue e (-1) (some (.JoinedStr [.Constant (.str "02d") j p1] p2)) pos) (tFmt02 te) := by
  refine ⟨fun pins s σ H Q I h => ?_⟩
  refine wpAny_FormattedValue_spec (thn (he.run pins s σ H _ I h) fun v s1 hv => ?_)
  obtain ⟨x, H1, I1, r1, n, rfl, hn, q⟩ := hv
  obtain ⟨t, rfl⟩ := r1
  refine wpAny_JoinedStr_one (wpAny_Constant_str ⟨"02d", _, rfl, ?_⟩)
  exact wpAny_formatField_spec (by decide) (fun s' => typeIs_int s' n t) F.slot_int_format F.entry_int_format F.args_int_format_2 (fun u => gives_02d n hn t u)
    ⟨.str (two n), H1, I1.tok _, ⟨_, rfl⟩, q⟩ (by decide) (two_len n)
end
end
abbrev sShow : Stmt := topS 9
abbrev NShow : List Str := ["minute", "day", "clock", "hours", "minutes", "text"]
theorem scShow : FnScope NShow ["minute"] (defScope sShow) := ⟨rfl, rfl, rfl, by decide +kernel, rfl, by decide +kernel, by decide +kernel⟩
/-! ### minutes as texts -/
theorem log_small {i : Int} (h : i.natAbs < 2 ^ 64) : i.natAbs.log2 < 1920 := by
  by_cases z : i.natAbs = 0
  · rw [z]; decide
  · have := (Nat.log2_lt z).mpr (Nat.lt_of_lt_of_le h (Nat.pow_le_pow_right (by decide) (by decide : 64 ≤ 1920)))
    exact this
def clockS (m : Nat) : Str := ((Str.empty ++ two (m % 1440 / 60)) ++ ":") ++ two (m % 1440 % 60)
def dayT (m : Nat) : Str := Str.ofString (toString ((m / 1440 : Nat) : Int))
def showS (m : Nat) : Str := if m / 1440 > 0 then ((Str.empty ++ clockS m) ++ "+") ++ dayT m else clockS m
theorem clock_len (m : Nat) : (clockS m).length = 5 := by
  unfold clockS
  rw [Str.length_append, Str.length_append, Str.length_append]; rfl
theorem day_len {m : Nat} (h : m < 14400000000) : (dayT m).length ≤ 8 := toString_length_le (by omega) (by decide) (by omega)
theorem show_len {m : Nat} (h : m < 14400000000) : (showS m).length ≤ 14 := by
  unfold showS
  have := day_len h
  have e := clock_len m
  split
  · rw [Str.length_append, Str.length_append, Str.length_append, e]
    show 0 + 5 + 1 + (dayT m).length ≤ 14
    omega
  · omega
theorem div_nat (m n : Nat) : (m : Int) / (n : Int) = ((m / n : Nat) : Int) := rfl
theorem mod_nat (m n : Nat) : (m : Int) % (n : Int) = ((m % n : Nat) : Int) := rfl
def spShow : Sp := fun vs H Q _ => ∃ m : Nat, vs = [.int (m : Int)] ∧ m < 14400000000 ∧ ∀ H', Same H H' → Q (.str (showS m)) H'
/-- what show_time asks of the module's names -/
structure TxtS (mg : Str → Option Value) : Prop where
  mdivmod : mg "divmod" = none
  mDAY : ∃ t, mg "DAY" = some (.int 1440 t)
  mHOUR : ∃ t, mg "HOUR" = some (.int 60 t)
section
variable {P : Program} {w : World} {K : PySem.W.Frag} {mg : Str → Option Value} {base : Heap}
theorem ok_show {f : Addr} {fd : FuncData} {k : Nat} (F : Fun K "show_time" "show_time" sShow f fd) (T : TxtS mg) : FnOk P w K mg base CX0 (k + 1) f fd ["minute"] spShow := by
  obtain ⟨tDAY, mDAY⟩ := T.mDAY
  obtain ⟨tHOUR, mHOUR⟩ := T.mHOUR
  refine F.ok scShow (fun vs H Q E h => ?_) (fun cdv A outer s H vs Q E hr h => ?_)
  · obtain ⟨m, rfl, _⟩ := h
    rfl
  · obtain ⟨m, rfl, hm, q⟩ := h
    refine ⟨_,
      (pss_cons (ps_asg (pe_callB call_divmod (by rfl) T.mdivmod (by decide +kernel) (pa_cons (pv 0) (pa_cons (pe_glob (v := .int 1440) (by rfl) mDAY ⟨_, rfl⟩) pa_nil))) (pg_tup rfl (pgs_cons (pg_name (i := 1) scShow.nd rfl (.inl rfl)) (pgs_cons (pg_name (i := 2) scShow.nd rfl (.inl rfl)) pgs_nil))))
      (pss_cons (ps_asg (pe_callB call_divmod (by rfl) T.mdivmod (by decide +kernel) (pa_cons (pv 2) (pa_cons (pe_glob (v := .int 60) (by rfl) mHOUR ⟨_, rfl⟩) pa_nil))) (pg_tup rfl (pgs_cons (pg_name (i := 3) scShow.nd rfl (.inl rfl)) (pgs_cons (pg_name (i := 4) scShow.nd rfl (.inl rfl)) pgs_nil))))
      (pss_cons (ps_set (i := 5) scShow.nd rfl (.inl rfl) (pe_joined (.cons (pe_fmt02 (pv 3)) (.cons pe_str (.cons (pe_fmt02 (pv 4)) .nil)))))
      (pss_cons (ps_if (pt_cmpR op_gt (pv 1) pe_int (nomark _))
      (pss_one (ps_ret (pe_joined (.cons (pe_fmt (pv 5)) (.cons pe_str (.cons (pe_fmt (pv 1)) .nil))))))
      pss_nil)
      (pss_one (ps_ret (pv 5)))))))
      , ?_⟩
    refine ⟨_, rfl, _, _, rfl, ⟨by decide, by decide⟩, fun p hp => ?_⟩
    refine ⟨p, _, rfl, .inl (.inl upd_same), rfl, _, _, rfl, _, _, rfl, rfl, ?_⟩
    refine ⟨_, rfl, _, _, rfl, ⟨by decide, by decide⟩, fun p2 hp2 => ?_⟩
    refine ⟨p2, _, rfl, .inl (.inl upd_same), rfl, _, _, rfl, _, _, rfl, rfl, ?_⟩
    have sm : Same H (upd (upd H p (.tup [.int ((m / 1440 : Nat) : Int), .int ((m % 1440 : Nat) : Int)])) p2 (.tup [.int ((m % 1440 / 60 : Nat) : Int), .int ((m % 1440 % 60 : Nat) : Int)])) := (same_upd hp).trans (same_upd hp2)
    refine ⟨_, rfl, m % 1440 / 60, rfl, by omega, _, rfl, small_line (by rw [Str.length_append]; show 0 + 2 ≤ 100; omega), _, rfl, small_line (by rw [Str.length_append, Str.length_append]; show 0 + 2 + 1 ≤ 100; omega), _, rfl, m % 1440 % 60, rfl, by omega, _, rfl, small_line (by rw [Str.length_append, Str.length_append, Str.length_append]; show 0 + 2 + 1 + 2 ≤ 100; omega), ?_⟩
    refine ⟨_, rfl, _, _, rfl, rfl, _, rfl, ite2 (fun c => ?_) (fun c => ?_)⟩
    · have c1 : m / 1440 > 0 := by
        have : (0 : Int) < ((m / 1440 : Nat) : Int) := of_decide_eq_true c
        omega
      have dl := day_len hm
      refine ⟨_, rfl, .inl ⟨clockS m, rfl, small_line (by rw [clock_len]; decide), _, rfl, small_line (by rw [Str.length_append, clock_len]; show 0 + 5 ≤ 100; omega), _, rfl, small_line (by rw [Str.length_append, Str.length_append, clock_len]; show 0 + 5 + 1 ≤ 100; omega), _, rfl, .inr ⟨_, rfl, ?_, _, rfl, small_line ?_, ?_⟩⟩⟩
      · exact log_small (show (m / 1440) < 2 ^ 64 by omega)
      · rw [Str.length_append, Str.length_append, Str.length_append, clock_len]
        show 0 + 5 + 1 + (dayT m).length ≤ 100
        omega
      · have e : showS m = ((Str.empty ++ clockS m) ++ "+") ++ dayT m := if_pos c1
        have z := q _ sm
        rw [e] at z
        exact z
    · have c1 : ¬ m / 1440 > 0 := fun z => c (decide_eq_true (show (0 : Int) < ((m / 1440 : Nat) : Int) by omega))
      have e : showS m = clockS m := if_neg c1
      have z := q _ sm
      rw [e] at z
      exact ⟨_, rfl, z⟩
end
abbrev sTwo : Stmt := topS 16
abbrev NTwo : List Str := ["_law_number"]
theorem scTwo : FnScope NTwo ["_law_number"] (defScope sTwo) := ⟨rfl, rfl, rfl, by decide +kernel, rfl, by decide +kernel, by decide +kernel⟩
abbrev sTime : Stmt := topS 17
abbrev NTime : List Str := ["_law_minute", "_law_shown"]
theorem scTime : FnScope NTime ["_law_minute"] (defScope sTime) := ⟨rfl, rfl, rfl, by decide +kernel, rfl, by decide +kernel, by decide +kernel⟩
/-! ### the law's own figures -/
theorem fmod_nat (m n : Nat) : (m : Int).fmod (n : Int) = ((m % n : Nat) : Int) := by rw [Int.fmod_eq_emod_of_nonneg _ (by omega)]; rfl
theorem fdiv_nat (m n : Nat) : (m : Int).fdiv (n : Int) = ((m / n : Nat) : Int) := by rw [Int.fdiv_eq_ediv_of_nonneg _ (by omega)]; rfl
theorem cut_two : ∀ n : Nat, n < 60 → cutS (Str.ofString (toString (100 + (n : Int)))) (some 1) none = two n := by decide +kernel
def spTwo : Sp := fun vs H Q _ => ∃ n : Nat, vs = [.int (n : Int)] ∧ n < 60 ∧ Q (.str (two n)) H
/-- what the law's text of a minute asks of the module's names -/
structure Txt2 (mg : Str → Option Value) : Prop where
  mstr : mg "str" = none
  mint : mg "int" = none
  mbool : mg "bool" = none
  misinstance : mg "isinstance" = none
section
variable {P : Program} {w : World} {K : PySem.W.Frag} {mg : Str → Option Value} {base : Heap}
theorem ok_two {f : Addr} {fd : FuncData} {k : Nat} (F : Fun K "_law_two" "_law_two" sTwo f fd) (T : Txt2 mg) : FnOk P w K mg base CX0 (k + 1) f fd ["_law_number"] spTwo := by
  refine F.ok scTwo (fun vs H Q E h => ?_) (fun cdv A outer s H vs Q E hr h => ?_)
  · obtain ⟨m, rfl, _⟩ := h
    rfl
  · obtain ⟨m, rfl, hm, q⟩ := h
    refine ⟨_,
      (pss_one (ps_ret (pe_slice sl_str (pe_callTy call_str_int (by rfl) T.mstr (by decide +kernel) (pa_cons (pe_op op_add pe_int (pv 0)) pa_nil)) (po_some pe_int) po_none)))
      , ?_⟩
    refine ⟨_, rfl, _, _, rfl, rfl, _, rfl, log_small (show (100 + (m : Int)).natAbs < 2 ^ 64 by omega), 1, rfl, _, rfl, ?_, ?_⟩
    · exact int_text_fits (log_small (show (100 + (m : Int)).natAbs < 2 ^ 64 by omega))
    · rw [← cut_two m hm] at q
      exact q
theorem ok_time {f fT : Addr} {fd fdT : FuncData} {k : Nat} (F : Fun K "_law_time" "_law_time" sTime f fd) (T : Txt2 mg)
    (F_law_two : Fun K "_law_two" "_law_two" sTwo fT fdT) (g_law_two : mg "_law_two" = some (.ref fT)) (b_law_two : Binds K fdT ["_law_number"] []) : FnOk P w K mg base CX0 (k + 2) f fd ["_law_minute"] spShow := by
  have G_law_two : FnOk P w K mg base CX0 (k + 1) fT fdT ["_law_number"] spTwo := ok_two F_law_two T
  refine F.ok scTime (fun vs H Q E h => ?_) (fun cdv A outer s H vs Q E hr h => ?_)
  · obtain ⟨m, rfl, _⟩ := h
    rfl
  · obtain ⟨m, rfl, hm, q⟩ := h
    have hr_law_two := hr
    refine ⟨_,
      (pss_cons (ps_set (i := 1) scTime.nd rfl (.inl rfl) (pe_op op_add_str (pe_op op_add_str (pe_call G_law_two hr_law_two (by rfl) g_law_two F_law_two.kp b_law_two .nil pass0 (pa_cons (pe_op op_fdivN (pe_op op_modN (pv 0) pe_int) pe_int) pa_nil)) pe_str) (pe_call G_law_two hr_law_two (by rfl) g_law_two F_law_two.kp b_law_two .nil pass0 (pa_cons (pe_op op_modN (pv 0) pe_int) pa_nil))))
      (pss_cons (ps_if (pt_cmpR op_lt (pv 0) pe_int (nomark _))
      (pss_one (ps_ret (pv 1)))
      pss_nil)
      (pss_one (ps_ret (pe_op op_add_str (pe_op op_add_str (pv 1) pe_str) (pe_callTy call_str_int (by rfl) T.mstr (by decide +kernel) (pa_cons (pe_op op_fdivN (pv 0) pe_int) pa_nil)))))))
      , ?_⟩
    have e1 : ((m : Int).fmod 1440).fdiv 60 = ((m % 1440 / 60 : Nat) : Int) := by
      rw [show (1440 : Int) = ((1440 : Nat) : Int) from rfl, show (60 : Int) = ((60 : Nat) : Int) from rfl, fmod_nat, fdiv_nat]
    have e2 : (m : Int).fmod 60 = ((m % 1440 % 60 : Nat) : Int) := by
      rw [show (60 : Int) = ((60 : Nat) : Int) from rfl, fmod_nat]
      congr 1
      omega
    have e3 : (m : Int).fdiv 1440 = ((m / 1440 : Nat) : Int) := by
      rw [show (1440 : Int) = ((1440 : Nat) : Int) from rfl, fdiv_nat]
    have hc : (two (m % 1440 / 60) ++ ":") ++ two (m % 1440 % 60) = clockS m := by unfold clockS; rw [emp]
    refine ⟨_, rfl, _, _, rfl, rfl, (by show (1440 : Int) ≠ 0; decide), _, _, rfl, rfl, ⟨by decide, by decide⟩, m % 1440 / 60, congrArg (fun z => [V.int z]) e1, by omega, _, _, rfl, rfl, small_line (by show 2 + 1 ≤ 100; omega), ?_⟩
    refine ⟨_, rfl, _, _, rfl, rfl, (by show (60 : Int) ≠ 0; decide), m % 1440 % 60, congrArg (fun z => [V.int z]) e2, by omega, _, _, rfl, rfl, small_line (by rw [Str.length_append]; show 2 + 1 + 2 ≤ 100; omega), ?_⟩
    have z := q H (fun _ _ e => e)
    refine ⟨_, rfl, _, _, rfl, rfl, _, rfl, ite2 (fun c => ?_) (fun c => ?_)⟩
    · have c1 : (m : Int) < 1440 := of_decide_eq_true c
      have e : showS m = clockS m := if_neg (by omega)
      rw [e, ← hc] at z
      exact ⟨_, rfl, z⟩
    · have c1 : ¬ (m : Int) < 1440 := fun h => c (decide_eq_true h)
      have e : showS m = ((Str.empty ++ clockS m) ++ "+") ++ dayT m := if_pos (by omega)
      have dl := day_len hm
      rw [e, emp, ← hc] at z
      refine ⟨_, rfl, _, _, rfl, rfl, small_line (by rw [Str.length_append, Str.length_append]; show 2 + 1 + 2 + 1 ≤ 100; omega), _, rfl, _, _, rfl, rfl, ⟨by decide, by decide⟩, _, rfl, log_small (show ((m : Int).fdiv 1440).natAbs < 2 ^ 64 by rw [e3]; omega), _, _, rfl, rfl, ?_, ?_⟩
      · show (((two (m % 1440 / 60) ++ ":") ++ two (m % 1440 % 60)) ++ "+").length + (Str.ofString (toString ((m : Int).fdiv 1440))).length ≤ sizeLine
        rw [hc, e3, Str.length_append, clock_len]
        exact small_line (by show 5 + 1 + (dayT m).length ≤ 100; omega)
      · show Q (.str (((two (m % 1440 / 60) ++ ":") ++ two (m % 1440 % 60)) ++ "+" ++ Str.ofString (toString ((m : Int).fdiv 1440)))) H
        rw [e3]
        exact z
end
abbrev sWhole : Stmt := topS 18
abbrev NWhole : List Str := ["_law_thing"]
theorem scWhole : FnScope NWhole ["_law_thing"] (defScope sWhole) := ⟨rfl, rfl, rfl, by decide +kernel, rfl, by decide +kernel, by decide +kernel⟩
def spWhole : Sp := fun vs H Q _ => ∃ i : Int, vs = [.int i] ∧ Q (.bl true) H
section
variable {P : Program} {w : World} {K : PySem.W.Frag} {mg : Str → Option Value} {base : Heap}
theorem ok_whole {f : Addr} {fd : FuncData} {k : Nat} (F : Fun K "_law_is_whole" "_law_is_whole" sWhole f fd) (T : Txt2 mg) : FnOk P w K mg base CX0 (k + 1) f fd ["_law_thing"] spWhole := by
  refine F.ok scWhole (fun vs H Q E h => ?_) (fun cdv A outer s H vs Q E hr h => ?_)
  · obtain ⟨m, rfl, _⟩ := h
    rfl
  · obtain ⟨m, rfl, q⟩ := h
    refine ⟨_,
      (pss_one (ps_ret (pe_and (pe_callB call_isi (by rfl) T.misinstance (by decide +kernel) (pa_cons (pv 0) (pa_cons (pe_bltn (v := .ty "int") (u := .type "int") (by rfl) T.mint (by decide +kernel) rfl) pa_nil))) (pe_one (pe_not (pe_callB call_isi (by rfl) T.misinstance (by decide +kernel) (pa_cons (pv 0) (pa_cons (pe_bltn (v := .ty "bool") (u := .type "bool") (by rfl) T.mbool (by decide +kernel) rfl) pa_nil))))))))
      , ?_⟩
    refine ⟨_, rfl, _, _, _, _, true, rfl, .ty "int", .base (.int _), kit_ty (by decide +kernel), true, rfl, ?_⟩
    exact ⟨_, rfl, _, _, _, _, false, rfl, .ty "bool", .base (.int _), kit_ty (by decide +kernel), _, rfl, q⟩
end
abbrev sSInit : Stmt := inClass (topS 11) 0
abbrev NSInit : List Str := ["self", "first", "behind"]
theorem scSInit : FnScope NSInit ["self", "first", "behind"] (defScope sSInit) := ⟨rfl, rfl, rfl, by decide +kernel, rfl, by decide +kernel, by decide +kernel⟩
abbrev sSEq : Stmt := inClass (topS 11) 1
abbrev NSEq : List Str := ["self", "other"]
theorem scSEq : FnScope NSEq ["self", "other"] (defScope sSEq) := ⟨rfl, rfl, rfl, by decide +kernel, rfl, by decide +kernel, by decide +kernel⟩
abbrev sSLen : Stmt := inClass (topS 11) 2
abbrev NSLen : List Str := ["self"]
theorem scSLen : FnScope NSLen ["self"] (defScope sSLen) := ⟨rfl, rfl, rfl, by decide +kernel, rfl, by decide +kernel, by decide +kernel⟩
abbrev sSStr : Stmt := inClass (topS 11) 3
abbrev NSStr : List Str := ["self"]
theorem scSStr : FnScope NSStr ["self"] (defScope sSStr) := ⟨rfl, rfl, rfl, by decide +kernel, rfl, by decide +kernel, by decide +kernel⟩
abbrev sSRepr : Stmt := inClass (topS 11) 4
abbrev NSRepr : List Str := ["self"]
theorem scSRepr : FnScope NSRepr ["self"] (defScope sSRepr) := ⟨rfl, rfl, rfl, by decide +kernel, rfl, by decide +kernel, by decide +kernel⟩
abbrev sNInit : Stmt := inClass (topS 4) 0
abbrev NNInit : List Str := ["self", "first", "behind"]
theorem scNInit : FnScope NNInit ["self", "first", "behind"] (defScope sNInit) := ⟨rfl, rfl, rfl, by decide +kernel, rfl, by decide +kernel, by decide +kernel⟩
/-! ### a Stretch -/
theorem fb : ¬ (("first" : Str) = "behind") := by decide +kernel
def strF (a b : Int) : List (Str × V) := putF "behind" (.int b) (putF "first" (.int a) [])
theorem strF_first (a b : Int) : (strF a b).lookup ("first" : Str) = some (.int a) := by
  unfold strF
  rw [lookup_putF, if_neg fb, lookup_putF, if_pos rfl]
theorem strF_behind (a b : Int) : (strF a b).lookup ("behind" : Str) = some (.int b) := by
  unfold strF
  rw [lookup_putF, if_pos rfl]
/-- a Stretch of these minutes stands at p -/
def StrAt (C : Addr) (H : Hp) (p : Addr) (a b : Int) : Prop := ∃ dx, H p = some (.ins C dx (strF a b))
theorem StrAt.same {C : Addr} {H H' : Hp} {p : Addr} {a b : Int} (h : StrAt C H p a b) (s : Same H H') : StrAt C H' p a b := by
  obtain ⟨dx, e⟩ := h; exact ⟨dx, s _ _ e⟩
/-- what the walk asks of the class -/
structure SCl (K : PySem.W.Frag) (mg : Str → Option Value) (C : Addr) : Prop where
  cl : Cls K C
  nF : NoAttr K C "first"
  nB : NoAttr K C "behind"
  gC : mg "Stretch" = some (.ref C)
  ha : PySem.W.findIn K (.ref C) "__class__" = some (some (.builtin "object.__class__"))
  hn : PySem.W.specialIn K (.builtin "object.__class__") "__get__" = some (some (.builtin "getset_descriptor.__get__"))
  htk : PySem.W.takesIn K (.builtin "object.__class__") = some true
  hm : PySem.W.mroIn K C (.type "object") = some true
  nf : PySem.W.notFirst K C (.ref C) = true
  ne : PySem.W.findIn K (.ref C) "__ne__" = some (some (.builtin "object.__ne__"))
  bl : PySem.W.findIn K (.ref C) "__bool__" = some none
  sub : NotSub K C
  misinstance : mg "isinstance" = none
  mlen : mg "len" = none
  mrange : mg "range" = none
/-- the def with a default -/
abbrev FunS (K : PySem.W.Frag) (f : Addr) (fd : FuncData) : Prop := FunD K "__init__" "Stretch.__init__" (defArgs sSInit) (defBody sSInit) (defScope sSInit) [.non] [] f fd
theorem FunS.b3 {K : PySem.W.Frag} {f : Addr} {fd : FuncData} (F : FunS K f fd) : Binds K fd ["self", "first", "behind"] [] := by
  obtain ⟨ds, r, b⟩ := FunD.binds1 (ps := ["self", "first", "behind"]) F 3 1 (by intro z; cases z) rfl fun _ _ _ _ _ _ _ us its hu hi => match us, its, hu, hi with | [_, _, _], [_], _, _ => ⟨_, rfl, rfl⟩
  cases r
  exact b
theorem FunS.b2 {K : PySem.W.Frag} {f : Addr} {fd : FuncData} (F : FunS K f fd) : ∃ ds, Vals [.non] ds ∧ Binds K fd ["self", "first", "behind"] ds :=
  FunD.binds1 (ps := ["self", "first", "behind"]) F 2 0 (by intro z; cases z) rfl fun _ _ _ _ _ _ _ us its hu hi => match us, its, hu, hi with | [_, _], [_], _, _ => ⟨_, rfl, rfl⟩
theorem FunS.kb {K : PySem.W.Frag} {f : Addr} {fd : FuncData} (F : FunS K f fd) : ∃ its : List Value, KBn K fd ["self", "first", "behind"] 1 ["first", "behind"] (fun us ws => us ++ ws) (fun vs zs => vs ++ zs) :=
  FunD.kbindsD (ps := ["self", "first", "behind"]) F 1 ["first", "behind"] (fun us _ ws => us ++ ws) (by intro z; cases z) (fun a _ b => a.append b) fun _ _ _ _ _ _ _ us its ws hu hi hw => match us, its, ws, hu, hi, hw with | [_], [_], [_, _], _, _, _ => ⟨_, rfl, rfl⟩
def spSInit (C : Addr) : Sp := fun vs H Q _ => ∃ (p dx : Addr) (a b : Int) (y : V), vs = [.ref p, .int a, y] ∧ (y = .int b ∨ y = .non ∧ b = a + 1) ∧ a ≤ b ∧ H p = some (.ins C dx []) ∧ ∀ H', StrAt C H' p a b → (∀ x o, x ≠ p → H x = some o → H' x = some o) → Q .non H'
/-- refused: both fields told -/
def noF (a b : Int) : List (Str × V) := [("behind", .int b), ("first", .int a)]
theorem noF_first (a b : Int) : (noF a b).lookup ("first" : Str) = some (.int a) := rfl
theorem noF_behind (a b : Int) : (noF a b).lookup ("behind" : Str) = some (.int b) := rfl
def spSInitE (C CN : Addr) : Sp := fun vs H _ E => ∃ (p dx : Addr) (a b : Int), vs = [.ref p, .int a, .int b] ∧ b < a ∧ H p = some (.ins C dx []) ∧ ∀ d H', Same H H' → H' d = some (.xd (noF a b)) → E (.ref CN) (some d) H'
def spNInit (CN : Addr) : Sp := fun vs H Q _ => ∃ (p : Addr) (a b : Int), vs = [.ref p, .int a, .int b] ∧ H p = some (exo p CN none) ∧ ∀ d H', H d = none → d ≠ p → H' p = some (exo p CN (some d)) → H' d = some (exd d (noF a b)) → (∀ x o, x ≠ p → H x = some o → H' x = some o) → Q .non H'
def spSEq (K : PySem.W.Frag) (C : Addr) : Sp := fun vs H Q _ => ∃ (p : Addr) (y : V) (a b : Int), vs = [.ref p, y] ∧ StrAt C H p a b ∧
  ((∃ q c d, y = .ref q ∧ StrAt C H q c d ∧ Q (.bl (decide (a = c) && decide (b = d))) H) ∨ (∃ t, TyX K H y t ∧ PySem.W.kitOne K t (.ref C) = some false ∧ Q (.bl false) H))
def spSLen (C : Addr) : Sp := fun vs H Q _ => ∃ (p : Addr) (a b : Int), vs = [.ref p] ∧ StrAt C H p a b ∧ a ≤ b ∧ b - a < 2 ^ 62 ∧ Q (.int (b - a)) H
def strS (a b : Nat) : Str := ((Str.empty ++ showS a) ++ "-") ++ showS b
def strR (a b : Nat) : Str := ((((Str.empty ++ "Stretch(") ++ Str.ofString (toString (a : Int))) ++ ", ") ++ Str.ofString (toString (b : Int))) ++ ")"
def spSStr (C : Addr) : Sp := fun vs H Q _ => ∃ (p : Addr) (a b : Nat), vs = [.ref p] ∧ StrAt C H p a b ∧ a < 14400000000 ∧ b < 14400000000 ∧ ∀ H', Same H H' → Q (.str (strS a b)) H'
def spSRepr (C : Addr) : Sp := fun vs H Q _ => ∃ (p : Addr) (a b : Nat), vs = [.ref p] ∧ StrAt C H p a b ∧ a < 14400000000 ∧ b < 14400000000 ∧ Q (.str (strR a b)) H
theorem isStr {K : PySem.W.Frag} {mg : Str → Option Value} {C : Addr} (T : SCl K mg C) {H : Hp} {p : Addr} {a b : Int} (h : StrAt C H p a b) : TyX K H (.ref p) (.ref C) := by
  obtain ⟨dx, e⟩ := h
  exact .base (.ins e T.cl T.ha T.hn T.htk T.hm)
theorem kitC {K : PySem.W.Frag} {C : Addr} : PySem.W.kitOne K (.ref C) (.ref C) = some true := if_pos (beq_self_eq_true _)
theorem made_same {H H' : Hp} {x dx : Addr} {o1 o2 : HO} (hx : H x = none) (hdx : H dx = none) (k : ∀ y o, y ≠ x → (upd (upd H dx o1) x o2) y = some o → H' y = some o) : Same H H' := fun y o e =>
  k y o (ne_of_none e hx) (by rw [upd_ne (ne_of_none e hx), upd_ne (ne_of_none e hdx)]; exact e)
theorem num_len {b : Nat} (h1 : b < 14400000000) : (Str.ofString (toString (b : Int))).length ≤ 11 := toString_length_le (by omega) (by decide) (by omega)
section
variable {P : Program} {w : World} {K : PySem.W.Frag} {mg : Str → Option Value} {base : Heap} {C CN : Addr}
theorem ok_sinit {f : Addr} {fd : FuncData} {k : Nat} (F : FunS K f fd) (T : SCl K mg C) : FnOk P w K mg base CX0 (k + 1) f fd ["self", "first", "behind"] (spSInit C) := by
  refine F.ok scSInit (fun vs H Q E h => ?_) (fun cdv A outer s H vs Q E hr h => ?_)
  · obtain ⟨p, dx, a, b, y, rfl, _⟩ := h
    rfl
  · obtain ⟨p, dx, a, b, y, rfl, hy, hab, hp, q⟩ := h
    refine ⟨_, PSs.nox (
      (pss_cut (ps_if (pt_cmpR op_isN (pv 2) pe_non (nomark _))
      (pss_one (ps_set (i := 2) scSInit.nd rfl (.inl rfl) (pe_op op_add (pv 1) pe_int)))
      pss_nil)
      (pss_cons (ps_if (pt_cmpR op_lt (pv 2) (pv 1) (nomark _))
      (pss_one ps_never)
      pss_nil)
      (pss_cons (ps_fld (pv 0) (pv 1) rfl)
      (pss_one (ps_fld (pv 0) (pv 2) rfl)))))
      ), ?_⟩
    refine ⟨fun σ H2 => σ = [some (.ref p), some (.int a), some (.int b)] ∧ H2 = H, ?_, ?_⟩
    · rcases hy with rfl | ⟨rfl, rfl⟩
      · refine ⟨_, rfl, rfl, _, rfl, ite2 (fun d => absurd (of_decide_eq_true d) (by intro z; cases z)) (fun _ => ⟨rfl, rfl⟩)⟩
      · refine ⟨_, rfl, rfl, _, rfl, ite2 (fun _ => ?_) (fun d => absurd (decide_eq_true rfl) d)⟩
        exact ⟨_, rfl, _, _, rfl, rfl, rfl, rfl⟩
    rintro σ H2 ⟨rfl, rfl⟩
    refine ⟨_, rfl, _, rfl, _, _, rfl, rfl, _, rfl, ite2 (fun d => absurd (of_decide_eq_true d) (by omega)) (fun _ => ?_)⟩
    refine ⟨_, rfl, _, rfl, p, C, dx, _, rfl, hp, T.cl, T.nF, (by show 0 < 1000; decide), ?_⟩
    refine ⟨_, rfl, _, rfl, p, C, dx, _, rfl, upd_same, T.cl, T.nB, (by show 1 < 1000; decide), ?_⟩
    exact q _ ⟨dx, upd_same⟩ fun x o n e => by rw [upd_ne n, upd_ne n]; exact e
/-- the refusal's own __init__ -/
theorem ok_ninit {f : Addr} {fd : FuncData} {k : Nat} (F : Fun K "__init__" "NoStretch.__init__" sNInit f fd) (TB : OexB K CN) (n1 : PySem.W.findIn K (.ref CN) "first" = some none) (n2 : PySem.W.findIn K (.ref CN) "behind" = some none) :
    FnOk P w K mg base CX0 (k + 1) f fd ["self", "first", "behind"] (spNInit CN) := by
  refine F.ok scNInit (fun vs H Q E h => ?_) (fun cdv A outer s H vs Q E hr h => ?_)
  · obtain ⟨p, a, b, rfl, _⟩ := h
    rfl
  · obtain ⟨p, a, b, rfl, hp, q⟩ := h
    refine ⟨_, pss_cons (ps_put (pv 0) (pv 1)) (pss_one (ps_put (pv 0) (pv 2))), ?_⟩
    refine ⟨_, rfl, _, rfl, p, CN, rfl, TB, n1, .inl ⟨hp, fun d hd ne => ?_⟩⟩
    refine ⟨_, rfl, _, rfl, p, CN, rfl, TB, n2, .inr ⟨d, [("first", .int a)], upd_same, by rw [upd_ne ne, upd_same], by show 1 ≤ 900; decide, ?_⟩⟩
    refine q d _ hd ne ?_ upd_same fun x o n e => ?_
    · rw [upd_ne (Ne.symm ne), upd_same]
    · have nd : x ≠ d := ne_of_none e hd
      rw [upd_ne nd, upd_ne n, upd_ne nd]
      exact e
theorem ok_sinitE {f fN : Addr} {fd fdN : FuncData} {k : Nat} (F : FunS K f fd) (gCN : mg "NoStretch" = some (.ref CN)) (TB : OexB K CN) (iN : PySem.W.findIn K (.ref CN) "__init__" = some (some (.ref fN))) (tN : PySem.W.typeIn K (.ref fN) = some (.type "function"))
    (FN : Fun K "__init__" "NoStretch.__init__" sNInit fN fdN) (bN : Binds K fdN ["self", "first", "behind"] []) (n1 : PySem.W.findIn K (.ref CN) "first" = some none) (n2 : PySem.W.findIn K (.ref CN) "behind" = some none) :
    FnOk P w K mg base (L2.CX P w) (k + 3) f fd ["self", "first", "behind"] (spSInitE C CN) := by
  have GN : FnOk P w K mg base CX0 (k + 1) fN fdN ["self", "first", "behind"] (spNInit CN) := ok_ninit FN TB n1 n2
  refine F.ok scSInit (fun vs H Q E h => ?_) (fun cdv A outer s H vs Q E hr h => ?_)
  · obtain ⟨p, dx, a, b, rfl, _⟩ := h
    rfl
  · obtain ⟨p, dx, a, b, rfl, hab, hp, q⟩ := h
    refine ⟨_, pss_cut (ps_if (pt_cmpR op_isN (pv 2) pe_non (nomark _)) (pss_one (ps_set (i := 2) scSInit.nd rfl (.inl rfl) (pe_op op_add (pv 1) pe_int))) pss_nil)
      (pss_cons (ps_if (pt_cmpR op_lt (pv 2) (pv 1) (nomark _)) (pss_one (ps_raise rfl (takes_of rfl rfl rfl rfl) (pmk_oexB TB iN tN GN hr bN pass0 rfl gCN (by exact (pa_cons (pv 1) (pa_cons (pv 2) pa_nil)))))) pss_nil)
      (pss_cons (ps_fld (pv 0) (pv 1) rfl) (pss_one (ps_fld (pv 0) (pv 2) rfl)))), ?_⟩
    refine ⟨fun σ H2 => σ = [some (.ref p), some (.int a), some (.int b)] ∧ H2 = H, ?_, ?_⟩
    · refine ⟨_, rfl, rfl, _, rfl, ite2 (fun d => absurd (of_decide_eq_true d) (by intro z; cases z)) (fun _ => ⟨rfl, rfl⟩)⟩
    rintro σ H2 ⟨rfl, rfl⟩
    refine ⟨_, rfl, _, rfl, _, _, rfl, rfl, _, rfl, ite2 (fun _ => ?_) (fun d => absurd (decide_eq_true hab) d)⟩
    refine ⟨_, rfl, _, rfl, by show 2 ≤ 1000; decide, fun e he => ⟨e, a, b, rfl, upd_same, fun d H' hd ne ep ed k => ⟨rfl, d, noF a b, ep, ed, ?_, ?_⟩⟩⟩
    · rw [upd_ne ne] at hd
      exact hd
    · refine q d _ (fun x o ex => ?_) upd_same
      have nx : x ≠ e := ne_of_none ex he
      have nd : x ≠ d := by
        intro z
        rw [z] at ex
        rw [upd_ne ne, ex] at hd
        cases hd
      rw [upd_ne nd, del_ne nx]
      exact k x o nx (by rw [upd_ne nx]; exact ex)
theorem ok_seq {f : Addr} {fd : FuncData} {k : Nat} (F : Fun K "__eq__" "Stretch.__eq__" sSEq f fd) (T : SCl K mg C) : FnOk P w K mg base CX0 (k + 1) f fd ["self", "other"] (spSEq K C) := by
  refine F.ok scSEq (fun vs H Q E h => ?_) (fun cdv A outer s H vs Q E hr h => ?_)
  · obtain ⟨p, y, a, b, rfl, _⟩ := h
    rfl
  · obtain ⟨p, y, a, b, rfl, hp, q⟩ := h
    have gC := T.gC
    refine ⟨_,
      (pss_one (ps_ret (pe_and (pe_callB call_isi (by rfl) T.misinstance (by decide +kernel) (pa_cons (pv 1) (pa_cons (pe_glob (v := .ref C) (by rfl) gC rfl) pa_nil))) (pe_and (pe_cmpR op_eq (pe_fld (pv 0) rfl) (pe_fld (pv 1) rfl) (nomark _)) (pe_one (pe_cmpR op_eq (pe_fld (pv 0) rfl) (pe_fld (pv 1) rfl) (nomark _)))))))
      , ?_⟩
    obtain ⟨dx, ep⟩ := id hp
    rcases q with ⟨r, c, d, rfl, hr', q⟩ | ⟨t, ty, hk, q⟩
    · obtain ⟨dy, er⟩ := id hr'
      refine ⟨_, rfl, _, _, _, _, true, rfl, .own C, isStr T hr', kitC, true, rfl, ?_⟩
      refine ⟨_, rfl, p, C, dx, _, _, rfl, ep, T.cl, T.nF, strF_first a b, _, rfl, r, C, dy, _, _, rfl, er, T.cl, T.nF, strF_first c d, rfl, _, rfl, ?_⟩
      refine ite2 (fun c1 => ?_) (fun c1 => ?_)
      · have e1 : a = c := V.int.inj (of_decide_eq_true c1)
        refine ⟨_, rfl, p, C, dx, _, _, rfl, ep, T.cl, T.nB, strF_behind a b, _, rfl, r, C, dy, _, _, rfl, er, T.cl, T.nB, strF_behind c d, rfl, ?_⟩
        have z : (decide (a = c) && decide (b = d)) = decide (V.int b = V.int d) := by
          rw [decide_eq_true e1, Bool.true_and]
          exact decide_eq_decide.mpr ⟨fun e => congrArg V.int e, fun e => V.int.inj e⟩
        rw [z] at q
        exact q
      · have e1 : ¬ a = c := fun e => c1 (decide_eq_true (congrArg V.int e))
        rw [decide_eq_false e1, Bool.false_and] at q
        exact q
    · exact ⟨_, rfl, _, _, _, _, false, rfl, .own C, ty, hk, false, rfl, q⟩
theorem ok_slen {f : Addr} {fd : FuncData} {k : Nat} (F : Fun K "__len__" "Stretch.__len__" sSLen f fd) (T : SCl K mg C) : FnOk P w K mg base CX0 (k + 1) f fd ["self"] (spSLen C) := by
  refine F.ok scSLen (fun vs H Q E h => ?_) (fun cdv A outer s H vs Q E hr h => ?_)
  · obtain ⟨p, a, b, rfl, _⟩ := h
    rfl
  · obtain ⟨p, a, b, rfl, hp, hab, hz, q⟩ := h
    refine ⟨_, pss_one (ps_ret (pe_lenRg rfl T.mlen (prg_2 rfl T.mrange (pe_fld (pv 0) rfl) (pe_fld (pv 0) rfl)))), ?_⟩
    obtain ⟨dx, ep⟩ := id hp
    refine ⟨_, rfl, p, C, dx, _, _, rfl, ep, T.cl, T.nF, strF_first a b, _, rfl, p, C, dx, _, _, rfl, ep, T.cl, T.nB, strF_behind a b, a, b, rfl, rfl, by omega, ?_⟩
    rw [show ((((b - a).toNat : Nat)) : Int) = b - a by omega]
    exact q
theorem ok_sstr {f fS : Addr} {fd fdS : FuncData} {k : Nat} (F : Fun K "__str__" "Stretch.__str__" sSStr f fd) (T : SCl K mg C) (TS : TxtS mg)
    (Fshow_time : Fun K "show_time" "show_time" sShow fS fdS) (gshow_time : mg "show_time" = some (.ref fS)) (bshow_time : Binds K fdS ["minute"] []) : FnOk P w K mg base CX0 (k + 2) f fd ["self"] (spSStr C) := by
  have Gshow_time : FnOk P w K mg base CX0 (k + 1) fS fdS ["minute"] spShow := ok_show Fshow_time TS
  refine F.ok scSStr (fun vs H Q E h => ?_) (fun cdv A outer s H vs Q E hr h => ?_)
  · obtain ⟨p, a, b, rfl, _⟩ := h
    rfl
  · obtain ⟨p, a, b, rfl, hp, ha, hb, q⟩ := h
    have hrshow_time := hr
    refine ⟨_,
      (pss_one (ps_ret (pe_joined (.cons (pe_fmt (pe_call Gshow_time hrshow_time (by rfl) gshow_time Fshow_time.kp bshow_time .nil pass0 (pa_cons (pe_fld (pv 0) rfl) pa_nil))) (.cons pe_str (.cons (pe_fmt (pe_call Gshow_time hrshow_time (by rfl) gshow_time Fshow_time.kp bshow_time .nil pass0 (pa_cons (pe_fld (pv 0) rfl) pa_nil))) .nil))))))
      , ?_⟩
    obtain ⟨dx, ep⟩ := id hp
    have la := show_len ha
    have lb := show_len hb
    refine ⟨_, rfl, p, C, dx, _, _, rfl, ep, T.cl, T.nF, strF_first a b, a, rfl, ha, fun H1 s1 => .inl ⟨showS a, rfl, small_line (by omega), _, rfl, small_line (by rw [Str.length_append]; show 0 + (showS a).length ≤ 100; omega), _, rfl, small_line (by rw [Str.length_append, Str.length_append]; show 0 + (showS a).length + 1 ≤ 100; omega), ?_⟩⟩
    refine ⟨_, rfl, p, C, dx, _, _, rfl, s1 _ _ ep, T.cl, T.nB, strF_behind a b, b, rfl, hb, fun H2 s2 => .inl ⟨showS b, rfl, small_line (by omega), _, rfl, small_line (by rw [Str.length_append, Str.length_append, Str.length_append]; show 0 + (showS a).length + 1 + (showS b).length ≤ 100; omega), ?_⟩⟩
    exact q H2 (s1.trans s2)
theorem ok_srepr {f : Addr} {fd : FuncData} {k : Nat} (F : Fun K "__repr__" "Stretch.__repr__" sSRepr f fd) (T : SCl K mg C) : FnOk P w K mg base CX0 (k + 1) f fd ["self"] (spSRepr C) := by
  refine F.ok scSRepr (fun vs H Q E h => ?_) (fun cdv A outer s H vs Q E hr h => ?_)
  · obtain ⟨p, a, b, rfl, _⟩ := h
    rfl
  · obtain ⟨p, a, b, rfl, hp, ha, hb, q⟩ := h
    refine ⟨_,
      (pss_one (ps_ret (pe_joined (.cons pe_str (.cons (pe_fmt (pe_fld (pv 0) rfl)) (.cons pe_str (.cons (pe_fmt (pe_fld (pv 0) rfl)) (.cons pe_str .nil))))))))
      , ?_⟩
    obtain ⟨dx, ep⟩ := id hp
    have la := num_len ha
    have lb := num_len hb
    refine ⟨_, rfl, small_line (by rw [Str.length_append]; show 0 + 8 ≤ 100; omega), _, rfl, p, C, dx, _, _, rfl, ep, T.cl, T.nF, strF_first a b, .inr ⟨(a : Int), rfl, log_small (by omega), _, rfl, small_line (by rw [Str.length_append, Str.length_append]; show 0 + 8 + _ ≤ 100; omega), _, rfl, small_line (by rw [Str.length_append, Str.length_append, Str.length_append]; show 0 + 8 + _ + 2 ≤ 100; omega), ?_⟩⟩
    exact ⟨_, rfl, p, C, dx, _, _, rfl, ep, T.cl, T.nB, strF_behind a b, .inr ⟨(b : Int), rfl, log_small (by omega), _, rfl, small_line (by rw [Str.length_append, Str.length_append, Str.length_append, Str.length_append]; show 0 + 8 + _ + 2 + _ ≤ 100; omega), _, rfl, small_line (by rw [Str.length_append, Str.length_append, Str.length_append, Str.length_append, Str.length_append]; show 0 + 8 + _ + 2 + _ + 1 ≤ 100; omega), q⟩⟩
end
section
variable {X : Cx}
theorem eqBool_bl {prog : Program} {w : World} {A : Around} {E : Value → Shared → Prop} {s : Shared} {i j : Bool} {Q : Bool → Shared → Prop} (h : Q (i == j) s) : wpAny (model prog w) A (eqBool (.bool i) (.bool j)) Q E s := by
  have key : wpAny (model prog w) A (compareOp .Eq (.bool i) (.bool j)) (fun v s' => v = .bool (i == j) ∧ s' = s) E s := PyProof.Rows.eq_bool ⟨rfl, rfl⟩
  have key2 : wpAny (model prog w) A (richCompare .Eq (.bool i) (.bool j)) (fun v s' => v = .bool (i == j) ∧ s' = s) E s := key
  unfold eqBool
  refine wpAny_holding (wpAny_ite_split (fun e => ?_) (fun _ => ?_))
  · have e2 : i = j := by
      have := eq_of_beq e
      injection this
    subst e2
    rw [beq_self_eq_true] at h
    exact wpAny_bind (wpAny_rule (wpAny_pure h))
  · refine wpAny_bind (wpAny_mono key2 ?_ fun _ _ z => z)
    rintro v s' ⟨rfl, rfl⟩
    exact wpAny_truthy_bool h
/-- xs.count(b) of truths -/
def rCntBl : V → List V → Hp → VK → Prop := fun x xs H Q => ∃ (l : Addr) (rs : List Bool) (b : Bool), x = .ref l ∧ xs = [.bl b] ∧ H l = some (.lst (rs.map V.bl)) ∧ Q (.int (cntB (fun i => rs.getD i false == b) rs.length 0)) H
theorem mt_countBl : MtR X "list.count" rCntBl := by
  intro pins s σ H x xs v us Q I rx rxs h
  obtain ⟨l, rs, b, rfl, rfl, hl, q⟩ := h
  cases (show v = Value.ref l from rx)
  obtain ⟨u, rfl, ru⟩ := rxs.one
  cases (show u = Value.bool b from ru)
  obtain ⟨_, its, m, _, hp⟩ := (show ObjOk X.prog X.w H s.heap l (.lst (rs.map V.bl)) from I.hok l _ hl)
  refine GQ.call_here F.slot_list_count ⟨_, hp, rfl⟩ F.entry_list_count (F.args_list_count_2 _ _) ?_
  refine list_countG l (.bool b) rs.length (fun i => rs.getD i false == b) (fun _ s' => L2.Inv X pins σ H s') ?_ I (fun s' I' => ⟨.int _, H, I'.tok _, ⟨_, rfl⟩, q⟩)
  intro i s' I'
  obtain ⟨_, its, m, r, hp⟩ := (show ObjOk X.prog X.w H s'.heap l (.lst (rs.map V.bl)) from I'.hok l _ hl)
  have hlen : its.length = rs.length := by rw [← r.length, List.length_map]
  refine ⟨its.toArray, m, hp, by simpa using hlen, fun h1 => ?_⟩
  have h1' : i < its.length := by simpa using h1
  have hix : i < rs.length := by omega
  obtain ⟨v, hv, rv⟩ := r.get (show (rs.map V.bl)[i]? = some (.bl rs[i]) by rw [List.getElem?_map, List.getElem?_eq_getElem hix]; rfl)
  have ev : its.toArray[i] = v := by
    rw [List.getElem?_eq_getElem h1'] at hv
    simpa using hv
  cases (show v = Value.bool rs[i] from rv)
  rw [ev]
  refine eqBool_bl ⟨?_, I'⟩
  show (rs[i] == b) = (rs.getD i false == b)
  rw [List.getD_eq_getElem?_getD, List.getElem?_eq_getElem hix]
  rfl
end
abbrev sRef : Stmt := topS 19
abbrev NRef : List Str := ["_law_start", "_law_upto", "_law_error", "e"]
theorem scRef : FnScope NRef ["_law_start", "_law_upto"] (defScope sRef) := ⟨rfl, rfl, rfl, by decide +kernel, rfl, by decide +kernel, by decide +kernel⟩
abbrev sLIs : Stmt := topS 20
abbrev NLIs : List Str := ["_law_one", "_law_start", "_law_upto"]
theorem scLIs : FnScope NLIs ["_law_one", "_law_start", "_law_upto"] (defScope sLIs) := ⟨rfl, rfl, rfl, by decide +kernel, rfl, by decide +kernel, by decide +kernel⟩
abbrev sLPair : Stmt := topS 21
abbrev NLPair : List Str := ["_law_tape_here", "_law_far", "_law_start"]
theorem scLPair : FnScope NLPair ["_law_tape_here"] (defScope sLPair) := ⟨rfl, rfl, rfl, by decide +kernel, rfl, by decide +kernel, by decide +kernel⟩
abbrev sLNear : Stmt := topS 22
abbrev NLNear : List Str := ["_law_tape_here", "_law_pair_here", "_law_start", "_law_upto", "_law_some"]
theorem scLNear : FnScope NLNear ["_law_tape_here", "_law_pair_here"] (defScope sLNear) := ⟨rfl, rfl, rfl, by decide +kernel, rfl, by decide +kernel, by decide +kernel⟩
/-! ### the law's helpers -/
/-- what is asked of the refusal's class -/
structure NCl (K : PySem.W.Frag) (mg : Str → Option Value) (CN CNoTime CNoBridge COverload CNoWaits : Addr) : Prop where
  gC : mg "NoStretch" = some (.ref CN)
  g1 : mg "NoTime" = some (.ref CNoTime)
  g2 : mg "NoBridge" = some (.ref CNoBridge)
  g3 : mg "Overload" = some (.ref COverload)
  g4 : mg "NoWaits" = some (.ref CNoWaits)
  oex : OexB K CN
  xf : XfC K CN
  ec : ExcC K CN
  n1 : PySem.W.findIn K (.ref CN) "first" = some none
  n2 : PySem.W.findIn K (.ref CN) "behind" = some none
  hit : PySem.W.exmOne K (.ref CN) (.ref CN) = some true
  up : PySem.W.kitOne K (.ref CN) (.type "ArithmeticError") = some true
  no : PySem.W.kitAny K (.ref CN) [.ref CNoTime, .ref CNoBridge, .ref COverload, .ref CNoWaits] = some false
  misinstance : mg "isinstance" = none
  mArithmeticError : mg "ArithmeticError" = none
def spRef : Sp := fun vs H Q _ => ∃ a b : Int, vs = [.int a, .int b] ∧ b < a ∧ ∀ p H', Same H H' → H' p = some (.tup [.int a, .int b]) → Q (.ref p) H'
abbrev tbRef (C CN : Addr) : WX → TS := fun W => tDrop (tMakeS C (spSInitE C CN) [] (WE W) (tCons (tVar 0) (tCons (tVar 1) tNil)))
section
variable {P : Program} {w : World} {K : PySem.W.Frag} {mg : Str → Option Value} {base : Heap} {C CN CNoTime CNoBridge COverload CNoWaits : Addr}
theorem ok_refused {f fI fN : Addr} {fd fdI fdN : FuncData} {k : Nat} (F : Fun K "_law_refused" "_law_refused" sRef f fd) (TB : SCl K mg C) (T : NCl K mg CN CNoTime CNoBridge COverload CNoWaits) (MStretch : Mk K C fI) (FI : FunS K fI fdI) (bStretch : Binds K fdI ["self", "first", "behind"] [])
    (iN : PySem.W.findIn K (.ref CN) "__init__" = some (some (.ref fN))) (tN : PySem.W.typeIn K (.ref fN) = some (.type "function")) (FN : Fun K "__init__" "NoStretch.__init__" sNInit fN fdN) (bN : Binds K fdN ["self", "first", "behind"] []) :
    FnOk P w K mg base CX0 (k + 5) f fd ["_law_start", "_law_upto"] spRef := by
  have GEStretch : FnOk P w K mg base (L2.CX P w) (k + 3) fI fdI ["self", "first", "behind"] (spSInitE C CN) := ok_sinitE FI T.gC T.oex iN tN FN bN T.n1 T.n2
  refine F.ok scRef (fun vs H Q E h => ?_) (fun cdv A outer s H vs Q E hr h => ?_)
  · obtain ⟨a, b, rfl, _⟩ := h
    rfl
  · obtain ⟨a, b, rfl, hab, q⟩ := h
    have hrEStretch := hr
    have gC := TB.gC
    have gCNoStretch := T.gC
    have gCNoTime := T.g1
    have gCNoBridge := T.g2
    have gCOverload := T.g3
    have gCNoWaits := T.g4
    refine ⟨_,
      (pss_cons (ps_set (i := 2) scRef.nd rfl (.inl rfl) pe_non)
      (pss_cons (ps_try_keep (i := 3) (tb := tbRef C CN) (ts := fun _ _ _ => tAsg (tVar 3) (gName 2)) rfl rfl rfl scRef.nd rfl rfl ⟨rfl, by decide, .inl gCNoStretch⟩
      (fun W pn xe tk _ => pss_one (ps_expr (by exact (pe_makeS MStretch GEStretch hrEStretch rfl gC bStretch .nil (fun σ => passAt tk σ) (by exact (pa_cons (pv 0) (pa_cons (pv 1) pa_nil)))))))
      (fun a cls d pn => pss_one (ps_set (i := 2) scRef.nd rfl (Or.inl rfl) (pv 3))))
      (pss_cons (ps_if (PW.pt (pw_or (pt_not (pt_val (pe_callB call_isO (by rfl) T.misinstance (by decide +kernel) (pa_cons (pv 2) (pa_cons (pe_bltn (v := .ty "ArithmeticError") (u := .type "ArithmeticError") (by rfl) T.mArithmeticError (by decide +kernel) rfl) pa_nil))))) (pw_or1 (pt_val (pe_callB call_isOT (by rfl) T.misinstance (by decide +kernel) (pa_cons (pv 2) (pa_cons (pe_tup (pa_cons (pe_glob (v := .ref CNoTime) (by rfl) gCNoTime rfl) (pa_cons (pe_glob (v := .ref CNoBridge) (by rfl) gCNoBridge rfl) (pa_cons (pe_glob (v := .ref COverload) (by rfl) gCOverload rfl) (pa_cons (pe_glob (v := .ref CNoWaits) (by rfl) gCNoWaits rfl) pa_nil))))) pa_nil)))))))
      (pss_one (ps_ret pe_non))
      pss_nil)
      (pss_one (ps_ret (pe_tup (pa_cons (pe_fldX (pv 2) rfl) (pa_cons (pe_fldX (pv 2) rfl) pa_nil))))))))
      , ?_⟩
    refine ⟨_, rfl, _, rfl, fun x dx hx hdx ne => ⟨x, dx, a, b, rfl, hab, upd_same, fun d H1 s1 ed => ⟨T.hit, fun e he => ⟨_, rfl, ?_⟩⟩⟩⟩
    have s2 : Same H H1 := made_same hx hdx fun y o _ z => s1 y o z
    have kp : KeptE (upd H1 e (keptX (.ref CN) (some d) e)) e CN (noF a b) := ⟨d, upd_same, upd_at he ed⟩
    have s3 : Same H (upd H1 e (keptX (.ref CN) (some d) e)) := s2.trans (same_upd he)
    generalize upd H1 e (keptX (.ref CN) (some d) e) = H2 at kp s3 ⊢
    refine ⟨_, rfl, .inr ⟨e, CN, noF a b, .ty "ArithmeticError", .type "ArithmeticError", true, rfl, kp, T.ec, .ty _, T.up, true, rfl, ?_⟩⟩
    refine iteF ⟨_, rfl, by show 4 ≤ sizeLine; decide, fun tp htp => ?_⟩
    have kp2 : KeptE (upd H2 tp (.tup [.ref CNoTime, .ref CNoBridge, .ref COverload, .ref CNoWaits])) e CN (noF a b) := by
      obtain ⟨d2, k1, k2⟩ := kp
      exact ⟨d2, upd_at htp k1, upd_at htp k2⟩
    have s4 := s3.trans (same_upd (o := .tup [.ref CNoTime, .ref CNoBridge, .ref COverload, .ref CNoWaits]) htp)
    refine .inr ⟨e, CN, noF a b, tp, _, [.ref CNoTime, .ref CNoBridge, .ref COverload, .ref CNoWaits], false, rfl, kp2, T.ec, upd_same, .cons (.own _) (.cons (.own _) (.cons (.own _) (.cons (.own _) .nil))), T.no, false, rfl, iteF ?_⟩
    refine ⟨_, rfl, e, CN, noF a b, .int a, rfl, T.xf, T.n1, kp2, noF_first a b, _, rfl, e, CN, noF a b, .int b, rfl, T.xf, T.n2, kp2, noF_behind a b, by show 2 ≤ sizeLine; decide, fun p hp => ?_⟩
    exact q p _ (s4.trans (same_upd hp)) upd_same
theorem ii_eqv2 (a b c d : Int) : PyData.eqv (.tuple [.int a, .int b]) (.tuple [.int c, .int d]) = (decide (a = c) && decide (b = d)) := by
  rw [Bool.eq_iff_iff]
  simp [PyData.eqv, PyData.eqvAll]
theorem dp_ii {K : PySem.W.Frag} {H : Hp} {p : Addr} {a b : Int} (h : H p = some (.tup [.int a, .int b])) : Dp K H (.ref p) (.tuple [.int a, .int b]) := .tup (SqT.of h) (.cons (.int _) (.cons (.int _) .nil))
theorem log_nat {n : Nat} (h : n < 14400000000) : ((n : Int)).natAbs.log2 < 1920 := log_small (by omega)
/-- a Stretch is as told in all that it tells -/
def spIs (C : Addr) : Sp := fun vs H Q _ => ∃ (p : Addr) (a b : Nat), vs = [.ref p, .int (a : Int), .int (b : Int)] ∧ StrAt C H p a b ∧ a ≤ b ∧ b < 14400000000 ∧ ∀ H', Same H H' → Q (.bl true) H'
structure TxtI (mg : Str → Option Value) : Prop where
  mlen : mg "len" = none
  mbool : mg "bool" = none
  mstr : mg "str" = none
  mrepr : mg "repr" = none
theorem ok_is {f fL fS fR fW fT2 fT fSh : Addr} {fd fdL fdS fdR fdW fdT2 fdT fdSh : FuncData} {k : Nat} (F : Fun K "_law_is" "_law_is" sLIs f fd) (TB : SCl K mg C) (T : TxtI mg) (T2 : Txt2 mg) (TS : TxtS mg)
    (mL : Meth K C "__len__" fL) (FL : Fun K "__len__" "Stretch.__len__" sSLen fL fdL) (bL : Binds K fdL ["self"] [])
    (mSstr : Meth K C "__str__" fS) (FS : Fun K "__str__" "Stretch.__str__" sSStr fS fdS) (bSstr : Binds K fdS ["self"] [])
    (mSrepr : Meth K C "__repr__" fR) (FR : Fun K "__repr__" "Stretch.__repr__" sSRepr fR fdR) (bSrepr : Binds K fdR ["self"] [])
    (F_law_is_whole : Fun K "_law_is_whole" "_law_is_whole" sWhole fW fdW) (g_law_is_whole : mg "_law_is_whole" = some (.ref fW)) (b_law_is_whole : Binds K fdW ["_law_thing"] [])
    (F_law_two : Fun K "_law_two" "_law_two" sTwo fT2 fdT2) (g_law_two : mg "_law_two" = some (.ref fT2)) (b_law_two : Binds K fdT2 ["_law_number"] [])
    (F_law_time : Fun K "_law_time" "_law_time" sTime fT fdT) (g_law_time : mg "_law_time" = some (.ref fT)) (b_law_time : Binds K fdT ["_law_minute"] [])
    (Fshow_time : Fun K "show_time" "show_time" sShow fSh fdSh) (gshow_time : mg "show_time" = some (.ref fSh)) (bshow_time : Binds K fdSh ["minute"] []) :
    FnOk P w K mg base CX0 (k + 6) f fd ["_law_one", "_law_start", "_law_upto"] (spIs C) := by
  have GL : FnOk P w K mg base CX0 (k + 1) fL fdL ["self"] (spSLen C) := ok_slen FL TB
  have GSstr : FnOk P w K mg base CX0 (k + 2) fS fdS ["self"] (spSStr C) := ok_sstr FS TB TS Fshow_time gshow_time bshow_time
  have GSrepr : FnOk P w K mg base CX0 (k + 1) fR fdR ["self"] (spSRepr C) := ok_srepr FR TB
  have G_law_is_whole : FnOk P w K mg base CX0 (k + 1) fW fdW ["_law_thing"] spWhole := ok_whole F_law_is_whole T2
  have G_law_time : FnOk P w K mg base CX0 (k + 2) fT fdT ["_law_minute"] spShow := ok_time F_law_time T2 F_law_two g_law_two b_law_two
  refine F.ok scLIs (fun vs H Q E h => ?_) (fun cdv A outer s H vs Q E hr h => ?_)
  · obtain ⟨p, a, b, rfl, _⟩ := h
    rfl
  · obtain ⟨p, a, b, rfl, hp, hab, hb, q⟩ := h
    have hrL : Room (k + 2) _ := hr.mono (by omega)
    have hrL3 : Room (k + 4) _ := hr.mono (by omega)
    have hrstr : Room (k + 4) _ := hr.mono (by omega)
    have hrrepr : Room (k + 2) _ := hr.mono (by omega)
    have hr_law_is_whole : Room (k + 1) _ := hr.mono (by omega)
    have hr_law_time : Room (k + 2) _ := hr.mono (by omega)
    refine ⟨_,
      (pss_cut (ps_if (PW.pt (pw_or (pt_not (pt_val (pe_call G_law_is_whole hr_law_is_whole (by rfl) g_law_is_whole F_law_is_whole.kp b_law_is_whole .nil pass0 (pa_cons (pe_fld (pv 0) rfl) pa_nil)))) (pw_or (pt_not (pt_val (pe_call G_law_is_whole hr_law_is_whole (by rfl) g_law_is_whole F_law_is_whole.kp b_law_is_whole .nil pass0 (pa_cons (pe_fld (pv 0) rfl) pa_nil)))) (pw_or1 (pt_cmpR (op_neD hr.units) (pe_tup (pa_cons (pe_fld (pv 0) rfl) (pa_cons (pe_fld (pv 0) rfl) pa_nil))) (pe_tup (pa_cons (pv 1) (pa_cons (pv 2) pa_nil))) (nomark _))))))
      (pss_one (ps_ret pe_bl))
      pss_nil)
      (pss_cut (ps_if (PW.pt (pw_or (pt_cmpR op_ne (pe_callB (call_lenOwn mL.at_ mL.fn GL bL hrL pass0) (by rfl) T.mlen PySem.boot_len (pa_cons (pv 0) pa_nil)) (pe_op op_sub (pv 2) (pv 1)) (nomark _)) (pw_or1 (pt_cmpR op_ne (pe_callTy (call_boolOwn TB.bl mL.at_ mL.fn GL bL hrL3 pass0) (by rfl) T.mbool (by decide +kernel) (pa_cons (pv 0) pa_nil)) (pe_cmpR op_gt (pv 2) (pv 1) (nomark _)) (nomark _)))))
      (pss_one (ps_ret pe_bl))
      pss_nil)
      (pss_cut (ps_if (pt_cmpR op_ne (pe_callTy (call_strOwn mSstr.at_ mSstr.fn GSstr bSstr hrstr pass0) (by rfl) T.mstr (by decide +kernel) (pa_cons (pv 0) pa_nil)) (pe_op op_add_str (pe_op op_add_str (pe_call G_law_time hr_law_time (by rfl) g_law_time F_law_time.kp b_law_time .nil pass0 (pa_cons (pv 1) pa_nil)) pe_str) (pe_call G_law_time hr_law_time (by rfl) g_law_time F_law_time.kp b_law_time .nil pass0 (pa_cons (pv 2) pa_nil))) (nomark _))
      (pss_one (ps_ret pe_bl))
      pss_nil)
      (pss_one (ps_ret (pe_cmpR op_eq (pe_callB (call_reprOwn mSrepr.at_ mSrepr.fn GSrepr bSrepr hrrepr pass0) (by rfl) T.mrepr (by decide +kernel) (pa_cons (pv 0) pa_nil)) (pe_op op_add_str (pe_op op_add_str (pe_op op_add_str (pe_op op_add_str pe_str (pe_callTy call_str_int (by rfl) T.mstr (by decide +kernel) (pa_cons (pv 1) pa_nil))) pe_str) (pe_callTy call_str_int (by rfl) T.mstr (by decide +kernel) (pa_cons (pv 2) pa_nil))) pe_str) (nomark _)))))))
      , ?_⟩
    have ha : a < 14400000000 := by omega
    have hn : ∀ n : Nat, n < 14400000000 → (Str.ofString (toString (n : Int))).length ≤ 11 := fun n h => num_len h
    refine ⟨fun σ H2 => σ = [some (.ref p), some (.int (a : Int)), some (.int (b : Int))] ∧ Same H H2, ?_, ?_⟩
    · obtain ⟨dx, ep⟩ := id hp
      refine ⟨_, rfl, p, C, dx, _, _, rfl, ep, TB.cl, TB.nF, strF_first a b, (a : Int), rfl, true, rfl, iteF ⟨_, rfl, p, C, dx, _, _, rfl, ep, TB.cl, TB.nB, strF_behind a b, (b : Int), rfl, true, rfl, iteF ?_⟩⟩
      refine ⟨_, rfl, p, C, dx, _, _, rfl, ep, TB.cl, TB.nF, strF_first a b, _, rfl, p, C, dx, _, _, rfl, ep, TB.cl, TB.nB, strF_behind a b, by show 2 ≤ sizeLine; decide, fun t1 h1 => ?_⟩
      refine ⟨_, rfl, _, rfl, by show 2 ≤ sizeLine; decide, fun t2 h2 => ?_⟩
      refine ⟨.tuple [.int a, .int b], .tuple [.int a, .int b], dp_ii (upd_at h2 upd_same), dp_ii upd_same, rfl, rfl, _, rfl, ite2 (fun z => ?_) (fun _ => ?_)⟩
      · rw [ii_eqv2, decide_eq_true rfl, decide_eq_true rfl] at z
        exact absurd z (by decide)
      · exact ⟨rfl, (same_upd h1).trans (same_upd h2)⟩
    rintro σ H2 ⟨rfl, s2⟩
    have hp2 := hp.same s2
    refine ⟨fun σ H3 => σ = [some (.ref p), some (.int (a : Int)), some (.int (b : Int))] ∧ Same H H3, ?_, ?_⟩
    · obtain ⟨dx, ep⟩ := id hp2
      refine ⟨_, rfl, p, dx, _, rfl, ep, p, a, b, rfl, hp2, by omega, by omega, _, rfl, by omega, by omega, _, rfl, _, rfl, _, _, rfl, rfl, rfl, _, rfl, iteNS rfl ?_⟩
      refine ⟨_, rfl, p, dx, _, rfl, ep, p, a, b, rfl, hp2, by omega, by omega, _, rfl, by omega, by omega, _, rfl, _, rfl, _, _, rfl, rfl, rfl, _, rfl, iteNS (congrArg V.bl ?_) ?_⟩
      · by_cases c : (a : Int) < b
        · rw [decide_eq_true c]
          exact bne_iff_ne.mpr (by omega)
        · rw [decide_eq_false c]
          exact bne_eq_false_iff_eq.mpr (by omega)
      · exact ⟨rfl, s2⟩
    rintro σ H3 ⟨rfl, s3⟩
    have hp3 := hp.same s3
    have la := show_len ha
    have lb := show_len hb
    refine ⟨fun σ H4 => σ = [some (.ref p), some (.int (a : Int)), some (.int (b : Int))] ∧ Same H H4, ?_, ?_⟩
    · obtain ⟨dx, ep⟩ := id hp3
      refine ⟨_, rfl, p, dx, _, rfl, ep, p, a, b, rfl, hp3, ha, hb, fun H4 s4 => ⟨strS a b, rfl, _, rfl, a, rfl, ha, fun H5 s5 => ⟨_, _, rfl, rfl, small_line (by show (showS a).length + 1 ≤ 100; omega), _, rfl, b, rfl, hb, fun H6 s6 => ?_⟩⟩⟩
      refine ⟨_, _, rfl, rfl, small_line (by rw [Str.length_append]; show (showS a).length + 1 + (showS b).length ≤ 100; omega), rfl, _, rfl, iteNS (congrArg V.str ?_) ?_⟩
      · unfold strS
        rw [emp]
      · exact ⟨rfl, ((s3.trans s4).trans s5).trans s6⟩
    rintro σ H4 ⟨rfl, s4⟩
    have hp4 := hp.same s4
    obtain ⟨dx, ep⟩ := id hp4
    have na := hn a ha
    have nb := hn b hb
    refine ⟨_, rfl, p, dx, _, rfl, ep, p, a, b, rfl, hp4, ha, hb, strR a b, rfl, ?_⟩
    refine ⟨_, rfl, _, rfl, log_nat ha, _, _, rfl, rfl, small_line (by show 8 + _ ≤ 100; omega), _, _, rfl, rfl, small_line (by rw [Str.length_append]; show 8 + _ + 2 ≤ 100; omega), ?_⟩
    refine ⟨_, rfl, _, rfl, log_nat hb, _, _, rfl, rfl, small_line (by rw [Str.length_append, Str.length_append]; show 8 + _ + 2 + _ ≤ 100; omega), _, _, rfl, rfl, small_line (by rw [Str.length_append, Str.length_append, Str.length_append]; show 8 + _ + 2 + _ + 1 ≤ 100; omega), rfl, ?_⟩
    have e : V.str (strR a b) = V.str (((("Stretch(" ++ Str.ofString (toString (a : Int))) ++ ", ") ++ Str.ofString (toString (b : Int))) ++ ")") := by
      unfold strR
      rw [emp]
    rw [decide_eq_true e]
    exact q H4 s4
/-- a pair of minutes, the second none less -/
def spPair : Sp := fun vs H Q _ => ∃ (T c : Addr) (n : Nat), vs = [.ref T] ∧ n < 900000 ∧ Tape H T c n ∧ ∀ (p : Addr) (a b : Nat) H', a ≤ b → b ≤ 900000000 → H' p = some (.tup [.int (a : Int), .int (b : Int)]) → p ≠ T → Tape H' T c (n + 5) → Keep T H H' → Q (.ref p) H'
theorem ok_pair {f fD fP : Addr} {fd fdD fdP : FuncData} {k : Nat} (F : Fun K "_law_pair" "_law_pair" sLPair f fd) (T0 : Txt0 mg)
    (F_law_draw : Fun K "_law_draw" "_law_draw" sDraw fD fdD) (g_law_draw : mg "_law_draw" = some (.ref fD)) (b_law_draw : Binds K fdD ["_law_tape_here", "_law_many"] [])
    (F_law_pick : Fun K "_law_pick" "_law_pick" sPick fP fdP) (g_law_pick : mg "_law_pick" = some (.ref fP)) (b_law_pick : Binds K fdP ["_law_tape_here", "_law_some"] []) :
    FnOk P w K mg base CX0 (k + 3) f fd ["_law_tape_here"] spPair := by
  have G_law_draw : FnOk P w K mg base CX0 (k + 2) fD fdD ["_law_tape_here", "_law_many"] spDraw := ok_draw F_law_draw T0
  have G_law_pick : FnOk P w K mg base CX0 (k + 2) fP fdP ["_law_tape_here", "_law_some"] spPick := ok_pick F_law_pick T0 F_law_draw g_law_draw b_law_draw
  refine F.ok scLPair (fun vs H Q E h => ?_) (fun cdv A outer s H vs Q E hr h => ?_)
  · obtain ⟨T, c, n, rfl, _⟩ := h
    rfl
  · obtain ⟨T, c, n, rfl, hn, hT, q⟩ := h
    have hr_law_draw := hr
    have hr_law_pick := hr
    refine ⟨_,
      (pss_cons (ps_set (i := 1) scLPair.nd rfl (.inl rfl) (pe_call G_law_pick hr_law_pick (by rfl) g_law_pick F_law_pick.kp b_law_pick .nil pass0 (pa_cons (pv 0) (pa_cons (pe_lst (pa_cons pe_int (pa_cons pe_int (pa_cons (pe_op op_pow pe_int pe_int) (pa_cons (pe_op op_mul pe_int (pe_op op_pow pe_int pe_int)) pa_nil))))) pa_nil))))
      (pss_cons (ps_set (i := 2) scLPair.nd rfl (.inl rfl) (pe_call G_law_draw hr_law_draw (by rfl) g_law_draw F_law_draw.kp b_law_draw .nil pass0 (pa_cons (pv 0) (pa_cons (pv 1) pa_nil))))
      (pss_one (ps_ret (pe_tup (pa_cons (pv 2) (pa_cons (pe_op op_add (pv 2) (pe_call G_law_pick hr_law_pick (by rfl) g_law_pick F_law_pick.kp b_law_pick .nil pass0 (pa_cons (pv 0) (pa_cons (pe_lst (pa_cons pe_int (pa_cons pe_int (pa_cons (pe_op op_add pe_int (pe_call G_law_draw hr_law_draw (by rfl) g_law_draw F_law_draw.kp b_law_draw .nil pass0 (pa_cons (pv 0) (pa_cons (pv 1) pa_nil)))) (pa_cons pe_int (pa_cons (pe_call G_law_draw hr_law_draw (by rfl) g_law_draw F_law_draw.kp b_law_draw .nil pass0 (pa_cons (pv 0) (pa_cons pe_int pa_nil))) pa_nil)))))) pa_nil)))) pa_nil)))))))
      , ?_⟩
    refine ⟨_, rfl, _, _, rfl, rfl, ⟨by decide, by decide, by decide⟩, _, _, rfl, rfl, ⟨by decide, by decide, by decide⟩, _, _, rfl, rfl, .inl ⟨by decide, by decide⟩, by show 4 ≤ sizeLine; decide, fun l hl => ?_⟩
    refine ⟨T, c, l, _, n, rfl, upd_same, hT.ne hl, by show 0 < 4; decide, by show 4 < 1000000; decide, by omega, hT.new hl, fun j x H1 hx T1 k1 => ?_⟩
    have hv : ∃ z : Int, x = .int z ∧ 0 < z ∧ z ≤ 400000000 := by
      rcases j with _ | _ | _ | _ | j
      · exact ⟨_, (Option.some.inj hx).symm, by decide, by decide⟩
      · exact ⟨_, (Option.some.inj hx).symm, by decide, by decide⟩
      · exact ⟨_, (Option.some.inj hx).symm, by decide, by decide⟩
      · exact ⟨_, (Option.some.inj hx).symm, by decide, by decide⟩
      · exact absurd hx (by simp)
    obtain ⟨z, rfl, hz0, hz1⟩ := hv
    refine ⟨_, rfl, _, rfl, T, c, z, n + 1, rfl, hz0, by omega, by omega, T1, fun d H2 d0 d1 T2 k2 => ?_⟩
    refine ⟨_, rfl, _, rfl, _, rfl, _, rfl, _, rfl, T, c, z, n + 2, rfl, hz0, by omega, by omega, T2, fun d2 H3 d20 d21 T3 k3 => ⟨_, _, rfl, rfl, ?_⟩⟩
    refine ⟨_, rfl, T, c, 4, n + 3, rfl, by decide, by decide, by omega, T3, fun d3 H4 d30 d31 T4 k4 => ⟨by show 5 ≤ sizeLine; decide, fun l2 hl2 => ?_⟩⟩
    refine ⟨T, c, l2, _, n + 4, rfl, upd_same, T4.ne hl2, by show 0 < 5; decide, by show 5 < 1000000; decide, by omega, T4.new hl2, fun j x H5 hx T5 k5 => ?_⟩
    have hv : ∃ y : Int, x = .int y ∧ 0 ≤ y ∧ y ≤ 400000001 := by
      rcases j with _ | _ | _ | _ | _ | j
      · exact ⟨_, (Option.some.inj hx).symm, by decide, by decide⟩
      · exact ⟨_, (Option.some.inj hx).symm, by decide, by decide⟩
      · exact ⟨_, (Option.some.inj hx).symm, by omega, by omega⟩
      · exact ⟨_, (Option.some.inj hx).symm, by decide, by decide⟩
      · exact ⟨_, (Option.some.inj hx).symm, by omega, by omega⟩
      · exact absurd hx (by simp)
    obtain ⟨y, rfl, hy0, hy1⟩ := hv
    refine ⟨_, _, rfl, rfl, by show 2 ≤ sizeLine; decide, fun p hp => ?_⟩
    obtain ⟨a, rfl⟩ := Int.eq_ofNat_of_zero_le d0
    obtain ⟨b, hb⟩ := Int.eq_ofNat_of_zero_le (show 0 ≤ (a : Int) + y by omega)
    have hr : (upd H5 p (.tup [.int (a : Int), .int ((a : Int) + y)])) p = some (.tup [.int (a : Int), .int (b : Int)]) := by
      rw [upd_same, hb]
    refine q p a b _ (by omega) (by omega) hr (T5.ne hp) (T5.new hp) ?_
    exact (((((Keep.refl.new hl).trans k1).trans k2).trans k3).trans k4 |>.new hl2 |>.trans k5).new hp
/-- a pair, or one near it -/
def spNear : Sp := fun vs H Q _ => ∃ (T c pp : Addr) (a b : Nat) (n : Nat), vs = [.ref T, .ref pp] ∧ a ≤ b ∧ b ≤ 900000000 ∧ n < 800000 ∧ H pp = some (.tup [.int (a : Int), .int (b : Int)]) ∧ pp ≠ T ∧ Tape H T c n ∧
  ∀ (p : Addr) (a' b' : Nat) H', a' ≤ b' → b' ≤ 900000001 → H' p = some (.tup [.int (a' : Int), .int (b' : Int)]) → Tape H' T c (n + 6) → Keep T H H' → Q (.ref p) H'
structure TxtN (mg : Str → Option Value) : Prop where
  mmax : mg "max" = none
theorem ok_near {f fD fP fPa : Addr} {fd fdD fdP fdPa : FuncData} {k : Nat} (F : Fun K "_law_near" "_law_near" sLNear f fd) (T0 : Txt0 mg) (T : TxtN mg)
    (F_law_draw : Fun K "_law_draw" "_law_draw" sDraw fD fdD) (g_law_draw : mg "_law_draw" = some (.ref fD)) (b_law_draw : Binds K fdD ["_law_tape_here", "_law_many"] [])
    (F_law_pick : Fun K "_law_pick" "_law_pick" sPick fP fdP) (g_law_pick : mg "_law_pick" = some (.ref fP)) (b_law_pick : Binds K fdP ["_law_tape_here", "_law_some"] [])
    (F_law_pair : Fun K "_law_pair" "_law_pair" sLPair fPa fdPa) (g_law_pair : mg "_law_pair" = some (.ref fPa)) (b_law_pair : Binds K fdPa ["_law_tape_here"] []) :
    FnOk P w K mg base CX0 (k + 4) f fd ["_law_tape_here", "_law_pair_here"] spNear := by
  have G_law_pick : FnOk P w K mg base CX0 (k + 3) fP fdP ["_law_tape_here", "_law_some"] spPick := ok_pick F_law_pick T0 F_law_draw g_law_draw b_law_draw
  have G_law_pair : FnOk P w K mg base CX0 (k + 3) fPa fdPa ["_law_tape_here"] spPair := ok_pair F_law_pair T0 F_law_draw g_law_draw b_law_draw F_law_pick g_law_pick b_law_pick
  refine F.ok scLNear (fun vs H Q E h => ?_) (fun cdv A outer s H vs Q E hr h => ?_)
  · obtain ⟨T, c, pp, a, b, n, rfl, _⟩ := h
    rfl
  · obtain ⟨tp, c, pp, a, b, n, rfl, hab, hb, hn, hp, npp, hT, q⟩ := h
    have hr_law_pair := hr
    have hr_law_pick := hr
    refine ⟨_,
      (pss_cons (ps_asg (pv 1) (pg_tup rfl (pgs_cons (pg_name (i := 2) scLNear.nd rfl (.inl rfl)) (pgs_cons (pg_name (i := 3) scLNear.nd rfl (.inl rfl)) pgs_nil))))
      (pss_cons (ps_set (i := 4) scLNear.nd rfl (.inl rfl) (pe_lst (pa_cons (pv 1) (pa_cons (pe_tup (pa_cons (pv 2) (pa_cons (pe_op op_add (pv 3) pe_int) pa_nil))) (pa_cons (pe_tup (pa_cons (pe_op op_add (pv 2) pe_int) (pa_cons (pe_op op_add (pv 3) pe_int) pa_nil))) (pa_cons (pe_tup (pa_cons (pe_callB (call_max2 rfl) (by rfl) T.mmax (by decide +kernel) (pa_cons pe_int (pa_cons (pe_op op_sub (pv 2) pe_int) pa_nil))) (pa_cons (pv 3) pa_nil))) (pa_cons (pe_call G_law_pair hr_law_pair (by rfl) g_law_pair F_law_pair.kp b_law_pair .nil pass0 (pa_cons (pv 0) pa_nil)) pa_nil)))))))
      (pss_one (ps_ret (pe_call G_law_pick hr_law_pick (by rfl) g_law_pick F_law_pick.kp b_law_pick .nil pass0 (pa_cons (pv 0) (pa_cons (pe_op op_cat (pv 4) (pe_lst (pa_cons (pe_tup (pa_cons (pv 3) (pa_cons (pv 3) pa_nil))) (pa_cons (pe_tup (pa_cons (pv 2) (pa_cons (pv 2) pa_nil))) (pa_cons (pe_tup (pa_cons (pv 2) (pa_cons (pe_op op_add (pv 2) pe_int) pa_nil))) pa_nil))))) pa_nil)))))))
      , ?_⟩
    refine ⟨_, rfl, pp, _, rfl, .inl (.inl hp), rfl, _, _, rfl, _, _, rfl, rfl, ?_⟩
    have mx0 : ∃ m : Nat, (if (a : Int) - 1 > 0 then (a : Int) - 1 else 0) = (m : Int) ∧ m ≤ b := by
      by_cases z : (a : Int) - 1 > 0
      · exact ⟨a - 1, by rw [if_pos z]; omega, by omega⟩
      · exact ⟨0, by rw [if_neg z]; rfl, by omega⟩
    obtain ⟨m, hm, hmb⟩ := mx0
    refine ⟨_, rfl, _, rfl, _, rfl, _, _, rfl, rfl, by show 2 ≤ sizeLine; decide, fun p1 h1 => ?_⟩
    refine ⟨_, rfl, _, _, rfl, rfl, _, rfl, _, _, rfl, rfl, by show 2 ≤ sizeLine; decide, fun p2 h2 => ?_⟩
    refine ⟨_, rfl, _, _, rfl, rfl, _, _, rfl, ?_⟩
    rw [hm]
    refine ⟨_, rfl, by show 2 ≤ sizeLine; decide, fun p3 h3 => ?_⟩
    have e1 : (upd (upd (upd H p1 (.tup [.int (a : Int), .int ((b : Int) + 1)])) p2 (.tup [.int ((a : Int) + 1), .int ((b : Int) + 1)])) p3 (.tup [.int (m : Int), .int (b : Int)])) p1 = some (.tup [.int (a : Int), .int ((b + 1 : Nat) : Int)]) := upd_at h3 (upd_at h2 upd_same)
    have e2 : (upd (upd (upd H p1 (.tup [.int (a : Int), .int ((b : Int) + 1)])) p2 (.tup [.int ((a : Int) + 1), .int ((b : Int) + 1)])) p3 (.tup [.int (m : Int), .int (b : Int)])) p2 = some (.tup [.int ((a + 1 : Nat) : Int), .int ((b + 1 : Nat) : Int)]) := upd_at h3 upd_same
    have e3 : (upd (upd (upd H p1 (.tup [.int (a : Int), .int ((b : Int) + 1)])) p2 (.tup [.int ((a : Int) + 1), .int ((b : Int) + 1)])) p3 (.tup [.int (m : Int), .int (b : Int)])) p3 = some (.tup [.int (m : Int), .int (b : Int)]) := upd_same
    have n1 : p1 ≠ tp := hT.ne h1
    have T1 := hT.new (o := .tup [.int (a : Int), .int ((b : Int) + 1)]) h1
    have n2 : p2 ≠ tp := T1.ne h2
    have T2 := T1.new (o := .tup [.int ((a : Int) + 1), .int ((b : Int) + 1)]) h2
    have n3 : p3 ≠ tp := T2.ne h3
    have T3 := T2.new (o := .tup [.int (m : Int), .int (b : Int)]) h3
    have s3 := ((same_upd (o := .tup [.int (a : Int), .int ((b : Int) + 1)]) h1).trans (same_upd (o := .tup [.int ((a : Int) + 1), .int ((b : Int) + 1)]) h2)).trans (same_upd (o := .tup [.int (m : Int), .int (b : Int)]) h3)
    generalize upd (upd (upd H p1 (.tup [.int (a : Int), .int ((b : Int) + 1)])) p2 (.tup [.int ((a : Int) + 1), .int ((b : Int) + 1)])) p3 (.tup [.int (m : Int), .int (b : Int)]) = H3 at e1 e2 e3 T3 s3 ⊢
    have ep3 := s3 _ _ hp
    refine ⟨_, rfl, tp, c, n, rfl, by omega, T3, fun p4 a4 b4 H4 hab4 hb4 e4 n4 T4 k4 => ?_⟩
    have k4' : Keep tp H H4 := fun x o nx ex => k4 x o nx (s3 _ _ ex)
    refine ⟨by show 5 ≤ sizeLine; decide, fun l hl => ?_⟩
    have el : (upd H4 l (.lst [.ref pp, .ref p1, .ref p2, .ref p3, .ref p4])) l = some (.lst [.ref pp, .ref p1, .ref p2, .ref p3, .ref p4]) := upd_same
    have g0 := upd_at (o := .lst [.ref pp, .ref p1, .ref p2, .ref p3, .ref p4]) hl (k4 _ _ npp ep3)
    have g1 := upd_at (o := .lst [.ref pp, .ref p1, .ref p2, .ref p3, .ref p4]) hl (k4 _ _ n1 e1)
    have g2 := upd_at (o := .lst [.ref pp, .ref p1, .ref p2, .ref p3, .ref p4]) hl (k4 _ _ n2 e2)
    have g3 := upd_at (o := .lst [.ref pp, .ref p1, .ref p2, .ref p3, .ref p4]) hl (k4 _ _ n3 e3)
    have g4 := upd_at (o := .lst [.ref pp, .ref p1, .ref p2, .ref p3, .ref p4]) hl e4
    have T5 := T4.new (o := .lst [.ref pp, .ref p1, .ref p2, .ref p3, .ref p4]) hl
    have k5 := k4'.new (o := .lst [.ref pp, .ref p1, .ref p2, .ref p3, .ref p4]) hl
    generalize upd H4 l (.lst [.ref pp, .ref p1, .ref p2, .ref p3, .ref p4]) = H5 at el g0 g1 g2 g3 g4 T5 k5 ⊢
    refine ⟨_, rfl, _, rfl, _, rfl, _, rfl, by show 2 ≤ sizeLine; decide, fun q1 w1 => ?_⟩
    refine ⟨_, rfl, _, rfl, by show 2 ≤ sizeLine; decide, fun q2 w2 => ?_⟩
    refine ⟨_, rfl, _, rfl, _, _, rfl, rfl, by show 2 ≤ sizeLine; decide, fun q3 w3 => ?_⟩
    refine ⟨by show 3 ≤ sizeLine; decide, fun l2 w4 => ?_⟩
    have s6 := (((same_upd (o := .tup [.int (b : Int), .int (b : Int)]) w1).trans (same_upd (o := .tup [.int (a : Int), .int (a : Int)]) w2)).trans (same_upd (o := .tup [.int (a : Int), .int ((a : Int) + 1)]) w3)).trans (same_upd (o := .lst [.ref q1, .ref q2, .ref q3]) w4)
    have T6 := (((T5.new (o := .tup [.int (b : Int), .int (b : Int)]) w1).new (o := .tup [.int (a : Int), .int (a : Int)]) w2).new (o := .tup [.int (a : Int), .int ((a : Int) + 1)]) w3).new (o := .lst [.ref q1, .ref q2, .ref q3]) w4
    have m1 : q1 ≠ tp := T5.ne w1
    have m2 : q2 ≠ tp := (T5.new (o := .tup [.int (b : Int), .int (b : Int)]) w1).ne w2
    have m3 : q3 ≠ tp := ((T5.new (o := .tup [.int (b : Int), .int (b : Int)]) w1).new (o := .tup [.int (a : Int), .int (a : Int)]) w2).ne w3
    have f1 : (upd (upd (upd (upd H5 q1 (.tup [.int (b : Int), .int (b : Int)])) q2 (.tup [.int (a : Int), .int (a : Int)])) q3 (.tup [.int (a : Int), .int ((a : Int) + 1)])) l2 (.lst [.ref q1, .ref q2, .ref q3])) q1 = some (.tup [.int (b : Int), .int (b : Int)]) := upd_at w4 (upd_at w3 (upd_at w2 upd_same))
    have f2 : (upd (upd (upd (upd H5 q1 (.tup [.int (b : Int), .int (b : Int)])) q2 (.tup [.int (a : Int), .int (a : Int)])) q3 (.tup [.int (a : Int), .int ((a : Int) + 1)])) l2 (.lst [.ref q1, .ref q2, .ref q3])) q2 = some (.tup [.int (a : Int), .int (a : Int)]) := upd_at w4 (upd_at w3 upd_same)
    have f3 : (upd (upd (upd (upd H5 q1 (.tup [.int (b : Int), .int (b : Int)])) q2 (.tup [.int (a : Int), .int (a : Int)])) q3 (.tup [.int (a : Int), .int ((a : Int) + 1)])) l2 (.lst [.ref q1, .ref q2, .ref q3])) q3 = some (.tup [.int (a : Int), .int ((a + 1 : Nat) : Int)]) := upd_at w4 upd_same
    have f4 : (upd (upd (upd (upd H5 q1 (.tup [.int (b : Int), .int (b : Int)])) q2 (.tup [.int (a : Int), .int (a : Int)])) q3 (.tup [.int (a : Int), .int ((a : Int) + 1)])) l2 (.lst [.ref q1, .ref q2, .ref q3])) l2 = some (.lst [.ref q1, .ref q2, .ref q3]) := upd_same
    generalize upd (upd (upd (upd H5 q1 (.tup [.int (b : Int), .int (b : Int)])) q2 (.tup [.int (a : Int), .int (a : Int)])) q3 (.tup [.int (a : Int), .int ((a : Int) + 1)])) l2 (.lst [.ref q1, .ref q2, .ref q3]) = H6 at s6 T6 f1 f2 f3 f4 ⊢
    refine ⟨_, _, _, _, rfl, rfl, s6 _ _ el, f4, by show 5 + 3 ≤ sizeLine; decide, fun l3 w5 => ?_⟩
    refine ⟨tp, c, l3, [.ref pp, .ref p1, .ref p2, .ref p3, .ref p4, .ref q1, .ref q2, .ref q3], n + 5, rfl, upd_same, T6.ne w5, by show 0 < 8; decide, by show 8 < 1000000; decide, by omega, T6.new w5, fun j x H7 hx T7 k7 => ?_⟩
    have st : ∀ {x : Addr} {o : HO}, x ≠ tp → H6 x = some o → H7 x = some o := fun nx ex => k7 _ _ nx (upd_at w5 ex)
    have kk : Keep tp H H7 := fun x o nx ex => st nx (s6 _ _ (k5 x o nx ex))
    have hv : ∃ (p : Addr) (a' b' : Nat), x = .ref p ∧ a' ≤ b' ∧ b' ≤ 900000001 ∧ H7 p = some (.tup [.int (a' : Int), .int (b' : Int)]) := by
      rcases j with _ | _ | _ | _ | _ | _ | _ | _ | j
      · exact ⟨pp, a, b, (Option.some.inj hx).symm, hab, by omega, st npp (s6 _ _ g0)⟩
      · exact ⟨p1, a, b + 1, (Option.some.inj hx).symm, by omega, by omega, st n1 (s6 _ _ g1)⟩
      · exact ⟨p2, a + 1, b + 1, (Option.some.inj hx).symm, by omega, by omega, st n2 (s6 _ _ g2)⟩
      · exact ⟨p3, m, b, (Option.some.inj hx).symm, by omega, by omega, st n3 (s6 _ _ g3)⟩
      · exact ⟨p4, a4, b4, (Option.some.inj hx).symm, by omega, by omega, st n4 (s6 _ _ g4)⟩
      · exact ⟨q1, b, b, (Option.some.inj hx).symm, by omega, by omega, st m1 f1⟩
      · exact ⟨q2, a, a, (Option.some.inj hx).symm, by omega, by omega, st m2 f2⟩
      · exact ⟨q3, a, a + 1, (Option.some.inj hx).symm, by omega, by omega, st m3 f3⟩
      · exact absurd hx (by simp)
    obtain ⟨p, a', b', rfl, h1', h2', h3'⟩ := hv
    exact q p a' b' H7 h1' h2' h3' T7 kk
end
abbrev sLaw : Stmt := topS 23
abbrev NLaw : List Str := ["_law_script", "_law_tape_here", "_law_turn", "_law_pair_here", "_law_near_here", "_law_one", "_law_other", "_law_twin", "_law_alone", "_law_due", "_law_thing", "_law_row", "_law_less"]
theorem scLaw : FnScope NLaw ["_law_script"] (defScope sLaw) := ⟨rfl, rfl, rfl, by decide +kernel, rfl, by decide +kernel, by decide +kernel⟩
/-! ### the law -/
def spLaw (K : PySem.W.Frag) : Sp := fun vs H Q _ => ∃ (a : Addr) (ns : List Int), vs = [.ref a] ∧ SqL K H a (ns.map V.int) ∧ ns.length ≤ 63 ∧ ∀ H', Q (.bl true) H'
structure TxtL (mg : Str → Option Value) : Prop where
  mlen : mg "len" = none
  mmax : mg "max" = none
  mmin : mg "min" = none
  mrange : mg "range" = none
  mstr : mg "str" = none
  mrepr : mg "repr" = none
  mlist : mg "list" = none
/-- two Stretches, and whether they are equal -/
def DStr (C : Addr) : V → V → Hp → Bool → Prop := fun x y H r => ∃ (p q : Addr) (a c b d : Int), x = .ref p ∧ y = .ref q ∧ StrAt C H p a b ∧ StrAt C H q c d ∧ r = (decide (a = c) && decide (b = d))
theorem str_one {C : Addr} {H : Hp} {p : Addr} {a b c d : Int} (h1 : StrAt C H p a b) (h2 : StrAt C H p c d) : a = c ∧ b = d := by
  obtain ⟨dx, e1⟩ := h1
  obtain ⟨dy, e2⟩ := h2
  rw [e1] at e2
  have e := HO.ins.inj (Option.some.inj e2)
  have l1 := congrArg (fun l => List.lookup ("first" : Str) l) e.2.2
  have l2 := congrArg (fun l => List.lookup ("behind" : Str) l) e.2.2
  simp only [strF_first, strF_behind] at l1 l2
  exact ⟨V.int.inj (Option.some.inj l1), V.int.inj (Option.some.inj l2)⟩
theorem dok (C : Addr) : DOk C (DStr C) where
  ins := by
    rintro x y H r ⟨p, q, a, c, b, d, rfl, rfl, ⟨dx, e1⟩, ⟨dy, e2⟩, _⟩
    exact ⟨p, dx, _, q, dy, _, rfl, e1, rfl, e2⟩
  self := by
    rintro x H r ⟨p, q, a, c, b, d, rfl, e, h1, h2, rfl⟩
    cases e
    obtain ⟨e1, e2⟩ := str_one h1 h2
    rw [decide_eq_true e1, decide_eq_true e2]; rfl
  mono := by
    rintro x y H H' r s ⟨p, q, a, c, b, d, e1, e2, h1, h2, e⟩
    exact ⟨p, q, a, c, b, d, e1, e2, h1.same s, h2.same s, e⟩
/-- things that are none of the class -/
structure Alien (K : PySem.W.Frag) (C : Addr) (T : String) : Prop where
  kit : PySem.W.kitOne K (.type T) (.ref C) = some false
  nf : PySem.W.notFirst K C (.type T) = true
structure Aliens (K : PySem.W.Frag) (C : Addr) : Prop where
  non : Alien K C "NoneType"
  int : Alien K C "int"
  str : Alien K C "str"
  lst : Alien K C "list"
  tup : Alien K C "tuple"
  dct : Alien K C "dict"
theorem dp_bools5 {K : PySem.W.Frag} {H : Hp} {l : Addr} {r1 r2 r3 r4 r5 : Bool} (h : H l = some (.lst [.bl r1, .bl r2, .bl r3, .bl r4, .bl r5])) : Dp K H (.ref l) (.list [.bool r1, .bool r2, .bool r3, .bool r4, .bool r5]) :=
  .lst (SqL.of h) (.cons (.bl _) (.cons (.bl _) (.cons (.bl _) (.cons (.bl _) (.cons (.bl _) .nil)))))
/-- what stands once all are made -/
structure All (C : Addr) (H : Hp) (pp pq x y z u : Addr) (a b c d : Nat) : Prop where
  hp : H pp = some (.tup [.int (a : Int), .int (b : Int)])
  hq : H pq = some (.tup [.int (c : Int), .int (d : Int)])
  hx : StrAt C H x a b
  hy : StrAt C H y c d
  hz : StrAt C H z a b
  hu : StrAt C H u a ((a : Int) + 1)
  r1 : a ≤ b ∧ b ≤ 900000000
  r2 : c ≤ d ∧ d ≤ 900000001
theorem All.same {C : Addr} {H H' : Hp} {pp pq x y z u : Addr} {a b c d : Nat} (h : All C H pp pq x y z u a b c d) (s : Same H H') : All C H' pp pq x y z u a b c d :=
  ⟨s _ _ h.hp, s _ _ h.hq, h.hx.same s, h.hy.same s, h.hz.same s, h.hu.same s, h.r1, h.r2⟩
/-- which items of the row are equal to the first Stretch -/
def rowB3 (ru r : Bool) : Nat → Bool
  | 0 => ru
  | 1 => r
  | 2 => true
  | _ => false
theorem rowB3_first (ru r : Bool) : ∃ j : Nat, j < 3 ∧ rowB3 ru r j = true ∧ (∀ m, m < j → rowB3 ru r m = false) := by
  cases ru
  · cases r
    · refine ⟨2, by decide, rfl, fun m hm => ?_⟩
      rcases m with _ | _ | m
      · rfl
      · rfl
      · omega
    · refine ⟨1, by decide, rfl, fun m hm => ?_⟩
      rcases m with _ | m
      · rfl
      · omega
  · exact ⟨0, by decide, rfl, fun m hm => by omega⟩
section
variable {P : Program} {w : World} {K : PySem.W.Frag} {mg : Str → Option Value} {base : Heap} {C CN CNoTime CNoBridge COverload CNoWaits : Addr}
theorem ok_law {f fTape fD fP fI fE fL fS fR fN fIs fPa fNe fRf fW fT2 fT fSh : Addr} {fd fdTape fdD fdP fdI fdE fdL fdS fdR fdN fdIs fdPa fdNe fdRf fdW fdT2 fdT fdSh : FuncData} (F : Fun K "law" "law" sLaw f fd) (T0 : Txt0 mg) (TI : TxtI mg) (T2 : Txt2 mg) (TS : TxtS mg) (TN : TxtN mg) (T : TxtL mg)
    (TB : SCl K mg C) (TR : NCl K mg CN CNoTime CNoBridge COverload CNoWaits) (TA : Aliens K C)
    (MStretch : Mk K C fI) (FI : FunS K fI fdI)
    (iN : PySem.W.findIn K (.ref CN) "__init__" = some (some (.ref fN))) (tN : PySem.W.typeIn K (.ref fN) = some (.type "function")) (FN : Fun K "__init__" "NoStretch.__init__" sNInit fN fdN) (bN : Binds K fdN ["self", "first", "behind"] [])
    (mE : Meth K C "__eq__" fE) (FE : Fun K "__eq__" "Stretch.__eq__" sSEq fE fdE) (bE : Binds K fdE ["self", "other"] [])
    (mL : Meth K C "__len__" fL) (FL : Fun K "__len__" "Stretch.__len__" sSLen fL fdL) (bL : Binds K fdL ["self"] [])
    (mSstr : Meth K C "__str__" fS) (FS : Fun K "__str__" "Stretch.__str__" sSStr fS fdS) (bSstr : Binds K fdS ["self"] [])
    (mSrepr : Meth K C "__repr__" fR) (FR : Fun K "__repr__" "Stretch.__repr__" sSRepr fR fdR) (bSrepr : Binds K fdR ["self"] [])
    (F_law_tape : Fun K "_law_tape" "_law_tape" sTape fTape fdTape) (g_law_tape : mg "_law_tape" = some (.ref fTape)) (b_law_tape : Binds K fdTape ["_law_script"] [])
    (F_law_draw : Fun K "_law_draw" "_law_draw" sDraw fD fdD) (g_law_draw : mg "_law_draw" = some (.ref fD)) (b_law_draw : Binds K fdD ["_law_tape_here", "_law_many"] [])
    (F_law_pick : Fun K "_law_pick" "_law_pick" sPick fP fdP) (g_law_pick : mg "_law_pick" = some (.ref fP)) (b_law_pick : Binds K fdP ["_law_tape_here", "_law_some"] [])
    (F_law_two : Fun K "_law_two" "_law_two" sTwo fT2 fdT2) (g_law_two : mg "_law_two" = some (.ref fT2)) (b_law_two : Binds K fdT2 ["_law_number"] [])
    (F_law_time : Fun K "_law_time" "_law_time" sTime fT fdT) (g_law_time : mg "_law_time" = some (.ref fT)) (b_law_time : Binds K fdT ["_law_minute"] [])
    (F_law_is_whole : Fun K "_law_is_whole" "_law_is_whole" sWhole fW fdW) (g_law_is_whole : mg "_law_is_whole" = some (.ref fW)) (b_law_is_whole : Binds K fdW ["_law_thing"] [])
    (F_law_refused : Fun K "_law_refused" "_law_refused" sRef fRf fdRf) (g_law_refused : mg "_law_refused" = some (.ref fRf)) (b_law_refused : Binds K fdRf ["_law_start", "_law_upto"] [])
    (F_law_is : Fun K "_law_is" "_law_is" sLIs fIs fdIs) (g_law_is : mg "_law_is" = some (.ref fIs)) (b_law_is : Binds K fdIs ["_law_one", "_law_start", "_law_upto"] [])
    (F_law_pair : Fun K "_law_pair" "_law_pair" sLPair fPa fdPa) (g_law_pair : mg "_law_pair" = some (.ref fPa)) (b_law_pair : Binds K fdPa ["_law_tape_here"] [])
    (F_law_near : Fun K "_law_near" "_law_near" sLNear fNe fdNe) (g_law_near : mg "_law_near" = some (.ref fNe)) (b_law_near : Binds K fdNe ["_law_tape_here", "_law_pair_here"] [])
    (Fshow_time : Fun K "show_time" "show_time" sShow fSh fdSh) (gshow_time : mg "show_time" = some (.ref fSh)) (bshow_time : Binds K fdSh ["minute"] []) :
    FnOk P w K mg base CX0 8 f fd ["_law_script"] (spLaw K) := by
  have bStretch := FI.b3
  obtain ⟨dsS, rStretch1, bStretch1⟩ := FI.b2
  obtain ⟨itsS, kbStretch⟩ := FI.kb
  have GStretch : FnOk P w K mg base CX0 1 fI fdI ["self", "first", "behind"] (spSInit C) := ok_sinit FI TB
  have GE : FnOk P w K mg base CX0 1 fE fdE ["self", "other"] (spSEq K C) := ok_seq FE TB
  have GEB : FnOk P w K mg base CX0 1 fE fdE ["self", "other"] (spEqB (DStr C)) := GE.imp fun vs H Q E h => by
    obtain ⟨x, y, r, rfl, ⟨p, q, a, c, b, d, rfl, rfl, h1, h2, rfl⟩, k⟩ := h
    exact ⟨p, .ref q, a, b, rfl, h1, .inl ⟨q, c, d, rfl, h2, k H same_refl⟩⟩
  have GSstr : FnOk P w K mg base CX0 2 fS fdS ["self"] (spSStr C) := ok_sstr FS TB TS Fshow_time gshow_time bshow_time
  have GSrepr : FnOk P w K mg base CX0 1 fR fdR ["self"] (spSRepr C) := ok_srepr FR TB
  have G_law_tape : FnOk P w K mg base CX0 7 fTape fdTape ["_law_script"] (spTape K) := ok_tape F_law_tape T0
  have G_law_draw : FnOk P w K mg base CX0 7 fD fdD ["_law_tape_here", "_law_many"] spDraw := ok_draw F_law_draw T0
  have G_law_pair : FnOk P w K mg base CX0 7 fPa fdPa ["_law_tape_here"] spPair := ok_pair F_law_pair T0 F_law_draw g_law_draw b_law_draw F_law_pick g_law_pick b_law_pick
  have G_law_near : FnOk P w K mg base CX0 7 fNe fdNe ["_law_tape_here", "_law_pair_here"] spNear := ok_near F_law_near T0 TN F_law_draw g_law_draw b_law_draw F_law_pick g_law_pick b_law_pick F_law_pair g_law_pair b_law_pair
  have G_law_is : FnOk P w K mg base CX0 7 fIs fdIs ["_law_one", "_law_start", "_law_upto"] (spIs C) := ok_is F_law_is TB TI T2 TS mL FL bL mSstr FS bSstr mSrepr FR bSrepr F_law_is_whole g_law_is_whole b_law_is_whole F_law_two g_law_two b_law_two F_law_time g_law_time b_law_time Fshow_time gshow_time bshow_time
  have G_law_refused : FnOk P w K mg base CX0 7 fRf fdRf ["_law_start", "_law_upto"] spRef := ok_refused F_law_refused TB TR MStretch FI bStretch iN tN FN bN
  have DO := dok C
  refine F.ok scLaw (fun vs H Q E h => ?_) (fun cdv A outer s H vs Q E hr h => ?_)
  · obtain ⟨a, n, rfl, _⟩ := h
    rfl
  · obtain ⟨a, ns, rfl, hS, hlen, q⟩ := h
    have gC := TB.gC
    have hrStretch : Room 2 _ := hr.mono (by decide)
    have hrE : Room 1 _ := hr.mono (by decide)
    have hrE1 : Room 2 _ := hr.mono (by decide)
    have hrstr : Room 4 _ := hr.mono (by decide)
    have hrrepr : Room 2 _ := hr.mono (by decide)
    have hr_law_tape := hr
    have hr_law_draw := hr
    have hr_law_pair := hr
    have hr_law_near := hr
    have hr_law_is := hr
    have hr_law_refused := hr
    have EB : EqB (cxOf CX0 P w K mg base NLaw "law" (defScope sLaw) f cdv A outer s H E).nox 1 (DStr C) := eqB_ins DO mE.at_ mE.fn TB.nf GEB bE pass0
    refine ⟨_,
      (pss_cons (ps_set (i := 1) scLaw.nd rfl (.inl rfl) (pe_call G_law_tape hr_law_tape (by rfl) g_law_tape F_law_tape.kp b_law_tape .nil pass0 (pa_cons (pv 0) pa_nil)))
      (pss_cons (ps_for PassesOwn.never rfl (pi_range1 (by rfl) T.mrange (pa_cons (pe_callB (call_max2 rfl) (by rfl) T.mmax (by decide +kernel) (pa_cons pe_int (pa_cons (pe_callB (call_min2 rfl) (by rfl) T.mmin (by decide +kernel) (pa_cons (pe_callB call_len_seq (by rfl) T.mlen PySem.boot_len (pa_cons (pv 0) pa_nil)) (pa_cons pe_int pa_nil))) pa_nil))) pa_nil)) (pg_name (i := 2) scLaw.nd rfl (.inl rfl))
      (pss_cut (ps_set (i := 3) scLaw.nd rfl (.inl rfl) (pe_call G_law_pair hr_law_pair (by rfl) g_law_pair F_law_pair.kp b_law_pair .nil pass0 (pa_cons (pv 1) pa_nil)))
      (pss_cut (ps_set (i := 4) scLaw.nd rfl (.inl rfl) (pe_call G_law_near hr_law_near (by rfl) g_law_near F_law_near.kp b_law_near .nil pass0 (pa_cons (pv 1) (pa_cons (pv 3) pa_nil))))
      (pss_cut (ps_asg (pe_tup (pa_cons (pe_make MStretch GStretch hrStretch (by rfl) gC bStretch .nil pass0 (pa_cons (pe_ix ix_tup (pv 3) pe_int (fun _ _ => rfl)) (pa_cons (pe_ix ix_tup (pv 3) pe_int (fun _ _ => rfl)) pa_nil))) (pa_cons (pe_makeK0 MStretch GStretch hrStretch (by rfl) gC kbStretch pass0 (pk_cons (pe_ix ix_tup (pv 4) pe_int (fun _ _ => rfl)) (pk_cons (pe_ix ix_tup (pv 4) pe_int (fun _ _ => rfl)) pk_nil))) (pa_cons (pe_make MStretch GStretch hrStretch (by rfl) gC bStretch .nil pass0 (pa_cons (pe_ix ix_tup (pv 3) pe_int (fun _ _ => rfl)) (pa_cons (pe_ix ix_tup (pv 3) pe_int (fun _ _ => rfl)) pa_nil))) pa_nil)))) (pg_tup rfl (pgs_cons (pg_name (i := 5) scLaw.nd rfl (.inr rfl)) (pgs_cons (pg_name (i := 6) scLaw.nd rfl (.inl rfl)) (pgs_cons (pg_name (i := 7) scLaw.nd rfl (.inl rfl)) pgs_nil)))))
      (pss_cut (ps_set (i := 8) scLaw.nd rfl (.inl rfl) (pe_make MStretch GStretch hrStretch (by rfl) gC bStretch1 rStretch1 pass0 (pa_cons (pe_ix ix_tup (pv 3) pe_int (fun _ _ => rfl)) pa_nil)))
      (pss_cut (ps_if (PW.pt (pw_or (pt_not (pt_val (pe_call G_law_is hr_law_is (by rfl) g_law_is F_law_is.kp b_law_is .nil pass0 (pa_cons (pv 5) (pa_cons (pe_ix ix_tup (pv 3) pe_int (fun _ _ => rfl)) (pa_cons (pe_ix ix_tup (pv 3) pe_int (fun _ _ => rfl)) pa_nil)))))) (pw_or1 (pt_not (pt_val (pe_call G_law_is hr_law_is (by rfl) g_law_is F_law_is.kp b_law_is .nil pass0 (pa_cons (pv 6) (pa_cons (pe_ix ix_tup (pv 4) pe_int (fun _ _ => rfl)) (pa_cons (pe_ix ix_tup (pv 4) pe_int (fun _ _ => rfl)) pa_nil)))))))))
      (pss_one (ps_ret pe_bl))
      pss_nil)
      (pss_cut (ps_if (PW.pt (pw_or (pt_not (pt_val (pe_call G_law_is hr_law_is (by rfl) g_law_is F_law_is.kp b_law_is .nil pass0 (pa_cons (pv 8) (pa_cons (pe_ix ix_tup (pv 3) pe_int (fun _ _ => rfl)) (pa_cons (pe_op op_add (pe_ix ix_tup (pv 3) pe_int (fun _ _ => rfl)) pe_int) pa_nil)))))) (pw_or1 (pt_not (pt_val (pe_call G_law_is hr_law_is (by rfl) g_law_is F_law_is.kp b_law_is .nil pass0 (pa_cons (pe_make MStretch GStretch hrStretch (by rfl) gC bStretch .nil pass0 (pa_cons (pe_ix ix_tup (pv 3) pe_int (fun _ _ => rfl)) (pa_cons pe_non pa_nil))) (pa_cons (pe_ix ix_tup (pv 3) pe_int (fun _ _ => rfl)) (pa_cons (pe_op op_add (pe_ix ix_tup (pv 3) pe_int (fun _ _ => rfl)) pe_int) pa_nil)))))))))
      (pss_one (ps_ret pe_bl))
      pss_nil)
      (pss_cut (ps_set (i := 9) scLaw.nd rfl (.inl rfl) (pe_cmpR (op_eqD hr.units) (pv 3) (pv 4) (nomark _)))
      (pss_cut (ps_if (pt_cmpR (op_neD hr.units) (pe_lst (pa_cons (pe_cmpR (op_eqY mE.at_ mE.fn GE bE hrE pass0) (pv 5) (pv 6) (nomark _)) (pa_cons (pe_cmpR (op_eqY mE.at_ mE.fn GE bE hrE pass0) (pv 6) (pv 5) (nomark _)) (pa_cons (pe_cmpR (op_neY mE.at_ mE.fn TB.hm TB.ne GE bE hrE1 pass0) (pv 5) (pv 6) (nomark _)) (pa_cons (pe_cmpR (op_eqY mE.at_ mE.fn GE bE hrE pass0) (pv 5) (pv 7) (nomark _)) (pa_cons (pe_cmpR (op_neY mE.at_ mE.fn TB.hm TB.ne GE bE hrE1 pass0) (pv 5) (pv 7) (nomark _)) pa_nil)))))) (pe_lst (pa_cons (pv 9) (pa_cons (pv 9) (pa_cons (pe_not (pv 9)) (pa_cons pe_bl (pa_cons pe_bl pa_nil)))))) (nomark _))
      (pss_one (ps_ret pe_bl))
      pss_nil)
      (pss_cut (ps_for PassesOwn.never rfl (pi_list (pe_lst (pa_cons (pv 3) (pa_cons (pe_callTy call_list_of (by rfl) T.mlist (by decide +kernel) (pa_cons (pv 3) pa_nil)) (pa_cons (pe_callTy (call_strOwn mSstr.at_ mSstr.fn GSstr bSstr hrstr pass0) (by rfl) T.mstr (by decide +kernel) (pa_cons (pv 5) pa_nil)) (pa_cons (pe_callB (call_reprOwn mSrepr.at_ mSrepr.fn GSrepr bSrepr hrrepr pass0) (by rfl) T.mrepr (by decide +kernel) (pa_cons (pv 5) pa_nil)) (pa_cons pe_non (pa_cons (pe_ix ix_tup (pv 3) pe_int (fun _ _ => rfl)) (pa_cons pe_dnewK pa_nil))))))))) (pg_name (i := 10) scLaw.nd rfl (.inl rfl))
      (pss_one (ps_if (PW.pt (pw_or (pt_cmpR (op_eqY mE.at_ mE.fn GE bE hrE pass0) (pv 5) (pv 10) (nomark _)) (pw_or (pt_not (pt_cmpR (op_neY mE.at_ mE.fn TB.hm TB.ne GE bE hrE1 pass0) (pv 5) (pv 10) (nomark _))) (pw_or1 (pt_cmpR (op_eqR mE.at_ mE.fn TB.sub GE bE hrE pass0) (pv 10) (pv 5) (nomark _))))))
      (pss_one (ps_ret pe_bl))
      pss_nil)))
      (pss_cut (ps_set (i := 11) scLaw.nd rfl (.inl rfl) (pe_lst (pa_cons (pv 8) (pa_cons (pv 6) (pa_cons (pv 7) pa_nil)))))
      (pss_cut (ps_if (PW.pt (pw_or (pt_not (pt_cmpR (op_inB DO EB hrE1) (pv 5) (pv 11) (by rfl))) (pw_or1 (pt_cmpR op_ne (pe_bm PySem.F.plainAttrs_list PySem.F.slot_list_index PySem.F.type_list_index (mt_indexB DO EB hrE1) (pv 11) (pa_cons (pv 5) pa_nil)) (pe_bm PySem.F.plainAttrs_list PySem.F.slot_list_index PySem.F.type_list_index mt_index (pe_lc (own := [("_law_thing", 10)]) (g := gName 10) (tt := tYes) rfl scLaw.nd (pi_list (pv 11)) (blkOk_by (N := NLaw) (own := [("_law_thing", 10)]) (sc := defScope sLaw) (by decide +kernel)) (fun _ _ _ _ _ => pg_name (i := 10) scLaw.nd rfl (Or.inl rfl)) (fun _ _ _ _ _ => pts_nil) (fun _ _ _ _ _ => (pe_cmpR (r := rOwnY K C (spSEq K C) E0 id) (op_eqY mE.at_ mE.fn GE bE hrE pass0) (pv 5) (pv 10) (nomark _)))) (pa_cons pe_bl pa_nil)) (nomark _)))))
      (pss_one (ps_ret pe_bl))
      pss_nil)
      (pss_cut (ps_if (pt_cmpR op_ne (pe_bm PySem.F.plainAttrs_list PySem.F.slot_list_count PySem.F.type_list_count (mt_countB DO EB hrE1) (pv 11) (pa_cons (pv 5) pa_nil)) (pe_bm PySem.F.plainAttrs_list PySem.F.slot_list_count PySem.F.type_list_count mt_countBl (pe_lst (pa_cons pe_bl (pa_cons (pv 9) (pa_cons (pe_cmpR (op_eqD hr.units) (pv 3) (pe_tup (pa_cons (pe_ix ix_tup (pv 3) pe_int (fun _ _ => rfl)) (pa_cons (pe_op op_add (pe_ix ix_tup (pv 3) pe_int (fun _ _ => rfl)) pe_int) pa_nil))) (nomark _)) pa_nil)))) (pa_cons pe_bl pa_nil)) (nomark _))
      (pss_one (ps_ret pe_bl))
      pss_nil)
      (pss_cut (ps_set (i := 12) scLaw.nd rfl (.inl rfl) (pe_callB (call_max2 rfl) (by rfl) T.mmax (by decide +kernel) (pa_cons pe_int (pa_cons (pe_op op_sub (pe_op op_sub (pe_ix ix_tup (pv 3) pe_int (fun _ _ => rfl)) pe_int) (pe_call G_law_draw hr_law_draw (by rfl) g_law_draw F_law_draw.kp b_law_draw .nil pass0 (pa_cons (pv 1) (pa_cons pe_int pa_nil)))) pa_nil))))
      (pss_cut (ps_if (PW.pt (pw_and (pt_cmpR op_lt (pv 12) (pe_ix ix_tup (pv 3) pe_int (fun _ _ => rfl)) (nomark _)) (pw_and1 (pt_cmpR (op_neD hr.units) (pe_call G_law_refused hr_law_refused (by rfl) g_law_refused F_law_refused.kp b_law_refused .nil pass0 (pa_cons (pe_ix ix_tup (pv 3) pe_int (fun _ _ => rfl)) (pa_cons (pv 12) pa_nil))) (pe_tup (pa_cons (pe_ix ix_tup (pv 3) pe_int (fun _ _ => rfl)) (pa_cons (pv 12) pa_nil))) (nomark _)))))
      (pss_one (ps_ret pe_bl))
      pss_nil)
      (pss_one (ps_if (pt_not (pt_val (pe_call G_law_is hr_law_is (by rfl) g_law_is F_law_is.kp b_law_is .nil pass0 (pa_cons (pv 5) (pa_cons (pe_ix ix_tup (pv 3) pe_int (fun _ _ => rfl)) (pa_cons (pe_ix ix_tup (pv 3) pe_int (fun _ _ => rfl)) pa_nil))))))
      (pss_one (ps_ret pe_bl))
      pss_nil)))))))))))))))))
      (pss_one (ps_ret pe_bl))))
      , ?_⟩
    refine ⟨_, rfl, a, ns, rfl, hS, hlen, fun tp c H1 ntp ncc s1 T1 => ?_⟩
    refine ⟨_, rfl, a, _, rfl, .inl (s1.seq hS), _, _, rfl, _, _, rfl, _, rfl, ?_, ?_, ?_⟩
    · show -(2 ^ 62) ≤ (if (if (15 : Int) < _ then (15 : Int) else _) > 4 then _ else (4 : Int))
      split <;> omega
    · show (if (if (15 : Int) < (((ns.map V.int).length : Nat) : Int) then (15 : Int) else (((ns.map V.int).length : Nat) : Int)) > 4 then (if (15 : Int) < (((ns.map V.int).length : Nat) : Int) then (15 : Int) else (((ns.map V.int).length : Nat) : Int)) else (4 : Int)) < 2 ^ 62
      rw [List.length_map]
      split <;> split <;> omega
    refine for_range (fun i σ H2 => ∃ (v2 v3 v4 v5 v6 v7 v8 v9 v10 v11 v12 : Option V), σ = [some (.ref a), some (.ref tp), v2, v3, v4, v5, v6, v7, v8, v9, v10, v11, v12] ∧ Tape H2 tp c (60 * i))
      ⟨_, _, _, _, _, _, _, _, _, _, _, rfl, T1⟩ ?_ ?_
    · rintro i σ H2 hi ⟨v2, v3, v4, v5, v6, v7, v8, v9, v10, v11, v12, rfl, T2⟩
      have hi2 : i < 100 := by
        have h : (i : Int) < (if (if (15 : Int) < (((ns.map V.int).length : Nat) : Int) then (15 : Int) else (((ns.map V.int).length : Nat) : Int)) > 4 then (if (15 : Int) < (((ns.map V.int).length : Nat) : Int) then (15 : Int) else (((ns.map V.int).length : Nat) : Int)) else (4 : Int)) := Int.lt_toNat.mp hi
        rw [List.length_map] at h
        split at h <;> split at h <;> omega
      -- pair
      refine ⟨fun σ H3 => ∃ (pp : Addr) (a1 b1 : Nat), a1 ≤ b1 ∧ b1 ≤ 900000000 ∧ H3 pp = some (.tup [.int (a1 : Int), .int (b1 : Int)]) ∧ pp ≠ tp ∧ σ = [some (.ref a), some (.ref tp), some (.int (0 + (i : Int))), some (.ref pp), v4, v5, v6, v7, v8, v9, v10, v11, v12] ∧ Tape H3 tp c (60 * i + 5), ?_, ?_⟩
      · exact ⟨_, rfl, tp, c, 60 * i, rfl, by omega, T2, fun p a1 b1 H3 h1 h2 e np T3 _ => ⟨p, a1, b1, h1, h2, e, np, rfl, T3⟩⟩
      rintro σ H3 ⟨pp, a1, b1, hab1, hb1, ep3, npp, rfl, T3⟩
      -- near
      refine ⟨fun σ H4 => ∃ (pq : Addr) (a2 b2 : Nat), a2 ≤ b2 ∧ b2 ≤ 900000001 ∧ H4 pp = some (.tup [.int (a1 : Int), .int (b1 : Int)]) ∧ H4 pq = some (.tup [.int (a2 : Int), .int (b2 : Int)]) ∧ σ = [some (.ref a), some (.ref tp), some (.int (0 + (i : Int))), some (.ref pp), some (.ref pq), v5, v6, v7, v8, v9, v10, v11, v12] ∧ Tape H4 tp c (60 * i + 11), ?_, ?_⟩
      · exact ⟨_, rfl, _, rfl, tp, c, pp, a1, b1, 60 * i + 5, rfl, hab1, hb1, by omega, ep3, npp, T3, fun p a2 b2 H4 h1 h2 e T4 k4 => ⟨p, a2, b2, h1, h2, k4 _ _ npp ep3, e, rfl, T4⟩⟩
      rintro σ H4 ⟨pq, a2, b2, hab2, hb2, ep4, eq4, rfl, T4⟩
      -- one, other, twin
      refine ⟨fun σ H5 => ∃ x y z : Addr, H5 pp = some (.tup [.int (a1 : Int), .int (b1 : Int)]) ∧ H5 pq = some (.tup [.int (a2 : Int), .int (b2 : Int)]) ∧ StrAt C H5 x a1 b1 ∧ StrAt C H5 y a2 b2 ∧ StrAt C H5 z a1 b1 ∧ σ = [some (.ref a), some (.ref tp), some (.int (0 + (i : Int))), some (.ref pp), some (.ref pq), some (.ref x), some (.ref y), some (.ref z), v8, v9, v10, v11, v12] ∧ Tape H5 tp c (60 * i + 11), ?_, ?_⟩
      · refine ⟨_, rfl, pp, _, 0, _, rfl, rfl, SqT.of ep4, atI_nat (j := 0) rfl, _, rfl, pp, _, 1, _, rfl, rfl, SqT.of ep4, atI_nat (j := 1) rfl, ?_⟩
        intro x1 dx1 hx1 hdx1 ne1
        refine ⟨x1, dx1, a1, b1, _, rfl, .inl rfl, by omega, upd_same, fun H5 hb5 k5 => ⟨rfl, ?_⟩⟩
        have s5 := made_same hx1 hdx1 k5
        refine ⟨_, rfl, pq, _, 0, _, rfl, rfl, SqT.of (s5 _ _ eq4), atI_nat (j := 0) rfl, _, rfl, pq, _, 1, _, rfl, rfl, SqT.of (s5 _ _ eq4), atI_nat (j := 1) rfl, rfl, rfl, ?_⟩
        intro x2 dx2 hx2 hdx2 ne2
        refine ⟨x2, dx2, a2, b2, _, rfl, .inl rfl, by omega, upd_same, fun H6 hb6 k6 => ⟨rfl, ?_⟩⟩
        have s6 := made_same hx2 hdx2 k6
        refine ⟨_, rfl, pp, _, 0, _, rfl, rfl, SqT.of (s6 _ _ (s5 _ _ ep4)), atI_nat (j := 0) rfl, _, rfl, pp, _, 1, _, rfl, rfl, SqT.of (s6 _ _ (s5 _ _ ep4)), atI_nat (j := 1) rfl, ?_⟩
        intro x3 dx3 hx3 hdx3 ne3
        refine ⟨x3, dx3, a1, b1, _, rfl, .inl rfl, by omega, upd_same, fun H7 hb7 k7 => ⟨rfl, by show 3 ≤ sizeLine; decide, fun t ht => ⟨t, _, rfl, .inl (.inl upd_same), rfl, _, _, rfl, _, _, rfl, _, _, rfl, rfl, ?_⟩⟩⟩
        have s7 := made_same hx3 hdx3 k7
        have s8 := same_upd (o := .tup [.ref x1, .ref x2, .ref x3]) ht
        have sa := ((s5.trans s6).trans s7).trans s8
        exact ⟨x1, x2, x3, sa _ _ ep4, sa _ _ eq4, ((hb5.same s6).same s7).same s8, (hb6.same s7).same s8, hb7.same s8, rfl, T4.same sa⟩
      rintro σ H5 ⟨x, y, z, ep5, eq5, hx5, hy5, hz5, rfl, T5⟩
      -- alone
      refine ⟨fun σ H6 => ∃ u : Addr, All C H6 pp pq x y z u a1 b1 a2 b2 ∧ σ = [some (.ref a), some (.ref tp), some (.int (0 + (i : Int))), some (.ref pp), some (.ref pq), some (.ref x), some (.ref y), some (.ref z), some (.ref u), v9, v10, v11, v12] ∧ Tape H6 tp c (60 * i + 11), ?_, ?_⟩
      · refine ⟨_, rfl, pp, _, 0, _, rfl, rfl, SqT.of ep5, atI_nat (j := 0) rfl, ?_⟩
        intro x4 dx4 hx4 hdx4 ne4
        refine ⟨x4, dx4, a1, (a1 : Int) + 1, _, rfl, .inr ⟨rfl, rfl⟩, by omega, upd_same, fun H6 hb6 k6 => ⟨rfl, ?_⟩⟩
        have s6 := made_same hx4 hdx4 k6
        exact ⟨x4, ⟨s6 _ _ ep5, s6 _ _ eq5, hx5.same s6, hy5.same s6, hz5.same s6, hb6, ⟨hab1, hb1⟩, ⟨hab2, hb2⟩⟩, rfl, T5.same s6⟩
      rintro σ H6 ⟨u, B6, rfl, T6⟩
      -- one and other are as told
      refine ⟨fun σ H8 => σ = [some (.ref a), some (.ref tp), some (.int (0 + (i : Int))), some (.ref pp), some (.ref pq), some (.ref x), some (.ref y), some (.ref z), some (.ref u), v9, v10, v11, v12] ∧ Same H6 H8, ?_, ?_⟩
      · refine ⟨_, rfl, _, rfl, pp, _, 0, _, rfl, rfl, SqT.of B6.hp, atI_nat (j := 0) rfl, _, rfl, pp, _, 1, _, rfl, rfl, SqT.of B6.hp, atI_nat (j := 1) rfl, x, a1, b1, rfl, B6.hx, by omega, by omega, fun H8 s8 => ⟨_, rfl, ?_⟩⟩
        refine ⟨_, rfl, _, rfl, pq, _, 0, _, rfl, rfl, SqT.of (s8 _ _ B6.hq), atI_nat (j := 0) rfl, _, rfl, pq, _, 1, _, rfl, rfl, SqT.of (s8 _ _ B6.hq), atI_nat (j := 1) rfl, y, a2, b2, rfl, B6.hy.same s8, by omega, by omega, fun H9 s9 => ⟨_, rfl, ?_⟩⟩
        exact ⟨rfl, s8.trans s9⟩
      rintro σ H8 ⟨rfl, s8⟩
      have B8 := B6.same s8
      have T8 := T6.same s8
      -- of one minute
      refine ⟨fun σ H9 => σ = [some (.ref a), some (.ref tp), some (.int (0 + (i : Int))), some (.ref pp), some (.ref pq), some (.ref x), some (.ref y), some (.ref z), some (.ref u), v9, v10, v11, v12] ∧ Same H8 H9, ?_, ?_⟩
      · refine ⟨_, rfl, _, rfl, pp, _, 0, _, rfl, rfl, SqT.of B8.hp, atI_nat (j := 0) rfl, _, rfl, pp, _, 0, _, rfl, rfl, SqT.of B8.hp, atI_nat (j := 0) rfl, _, _, rfl, rfl, u, a1, a1 + 1, rfl, B8.hu, by omega, by omega, fun H9 s9 => ⟨_, rfl, ?_⟩⟩
        refine ⟨_, rfl, pp, _, 0, _, rfl, rfl, SqT.of (s9 _ _ B8.hp), atI_nat (j := 0) rfl, ?_⟩
        intro x5 dx5 hx5 hdx5 ne5
        refine ⟨x5, dx5, a1, (a1 : Int) + 1, _, rfl, .inr ⟨rfl, rfl⟩, by omega, upd_same, fun H10 hb10 k10 => ⟨rfl, ?_⟩⟩
        have s10 := made_same hx5 hdx5 k10
        refine ⟨_, rfl, pp, _, 0, _, rfl, rfl, SqT.of (s10 _ _ (s9 _ _ B8.hp)), atI_nat (j := 0) rfl, _, rfl, pp, _, 0, _, rfl, rfl, SqT.of (s10 _ _ (s9 _ _ B8.hp)), atI_nat (j := 0) rfl, _, _, rfl, rfl, x5, a1, a1 + 1, rfl, hb10, by omega, by omega, fun H11 s11 => ⟨_, rfl, ?_⟩⟩
        exact ⟨rfl, (s9.trans s10).trans s11⟩
      rintro σ H9 ⟨rfl, s9⟩
      have B9 := B8.same s9
      have T9 := T8.same s9
      -- due
      generalize hr9 : (decide ((a1 : Int) = a2) && decide ((b1 : Int) = b2)) = r
      refine ⟨fun σ H10 => σ = [some (.ref a), some (.ref tp), some (.int (0 + (i : Int))), some (.ref pp), some (.ref pq), some (.ref x), some (.ref y), some (.ref z), some (.ref u), some (.bl r), v10, v11, v12] ∧ H10 = H9, ?_, ?_⟩
      · refine ⟨_, rfl, _, rfl, .tuple [.int a1, .int b1], .tuple [.int a2, .int b2], dp_ii B9.hp, dp_ii B9.hq, rfl, rfl, ?_⟩
        rw [ii_eqv2, hr9]
        exact ⟨rfl, rfl⟩
      rintro σ H10 ⟨rfl, rfl⟩
      -- the five comparisons
      have hr9' : (decide ((a2 : Int) = a1) && decide ((b2 : Int) = b1)) = r := by rw [← hr9, show decide ((a2 : Int) = a1) = decide ((a1 : Int) = a2) from decide_eq_decide.mpr ⟨Eq.symm, Eq.symm⟩, show decide ((b2 : Int) = b1) = decide ((b1 : Int) = b2) from decide_eq_decide.mpr ⟨Eq.symm, Eq.symm⟩]
      have self1 : (decide ((a1 : Int) = a1) && decide ((b1 : Int) = b1)) = true := by rw [decide_eq_true rfl, decide_eq_true rfl]; rfl
      obtain ⟨dx, ex⟩ := id B9.hx
      obtain ⟨dy, ey⟩ := id B9.hy
      refine ⟨fun σ H11 => σ = [some (.ref a), some (.ref tp), some (.int (0 + (i : Int))), some (.ref pp), some (.ref pq), some (.ref x), some (.ref y), some (.ref z), some (.ref u), some (.bl r), v10, v11, v12] ∧ Same H10 H11, ?_, ?_⟩
      · refine ⟨_, rfl, _, rfl, x, dx, _, _, rfl, ex, isStr TB B9.hy, TB.nf, x, .ref y, a1, b1, rfl, B9.hx, .inl ⟨y, a2, b2, rfl, B9.hy, ?_⟩⟩
        rw [hr9]
        refine ⟨_, rfl, _, rfl, y, dy, _, _, rfl, ey, isStr TB B9.hx, TB.nf, y, .ref x, a2, b2, rfl, B9.hy, .inl ⟨x, a1, b1, rfl, B9.hx, ?_⟩⟩
        rw [hr9']
        refine ⟨_, rfl, _, rfl, x, dx, _, _, rfl, ex, isStr TB B9.hy, TB.nf, x, .ref y, a1, b1, rfl, B9.hx, .inl ⟨y, a2, b2, rfl, B9.hy, ?_⟩⟩
        rw [hr9]
        refine ⟨r, rfl, _, rfl, _, rfl, x, dx, _, _, rfl, ex, isStr TB B9.hz, TB.nf, x, .ref z, a1, b1, rfl, B9.hx, .inl ⟨z, a1, b1, rfl, B9.hz, ?_⟩⟩
        rw [self1]
        refine ⟨_, rfl, _, rfl, x, dx, _, _, rfl, ex, isStr TB B9.hz, TB.nf, x, .ref z, a1, b1, rfl, B9.hx, .inl ⟨z, a1, b1, rfl, B9.hz, ?_⟩⟩
        rw [self1]
        refine ⟨true, rfl, by show 5 ≤ sizeLine; decide, fun l7 hl7 => ?_⟩
        refine ⟨_, rfl, _, rfl, _, rfl, _, rfl, by show 5 ≤ sizeLine; decide, fun l8 hl8 => ?_⟩
        refine ⟨.list [.bool r, .bool r, .bool (!r), .bool true, .bool false], .list [.bool r, .bool r, .bool (!r), .bool true, .bool false], dp_bools5 (upd_at hl8 upd_same), dp_bools5 upd_same, rfl, rfl, _, rfl, ite2 (fun z => ?_) (fun _ => ?_)⟩
        · have e : PyData.eqv (.list [.bool r, .bool r, .bool (!r), .bool true, .bool false]) (.list [.bool r, .bool r, .bool (!r), .bool true, .bool false]) = true := by cases r <;> rfl
          rw [e] at z
          exact absurd z (by decide)
        exact ⟨rfl, (same_upd hl7).trans (same_upd hl8)⟩
      rintro σ H11 ⟨rfl, s11⟩
      have B11 := B9.same s11
      have T11 := T9.same s11
      obtain ⟨dx, ex⟩ := id B11.hx
      -- the others
      refine ⟨fun σ H12 => ∃ v10', σ = [some (.ref a), some (.ref tp), some (.int (0 + (i : Int))), some (.ref pp), some (.ref pq), some (.ref x), some (.ref y), some (.ref z), some (.ref u), some (.bl r), v10', v11, v12] ∧ Same H11 H12, ?_, ?_⟩
      · refine ⟨_, rfl, _, rfl, pp, _, rfl, .inr (SqT.of B11.hp), fun l9 hl9 => ?_⟩
        have s9 := same_upd (o := .lst [.int (a1 : Int), .int (b1 : Int)]) hl9
        refine ⟨_, rfl, x, dx, _, rfl, s9 _ _ ex, x, a1, b1, rfl, B11.hx.same s9, by omega, by omega, fun H13 s13 => ⟨strS a1 b1, rfl, ?_⟩⟩
        have s14 := s9.trans s13
        refine ⟨_, rfl, x, dx, _, rfl, s14 _ _ ex, x, a1, b1, rfl, B11.hx.same s14, by omega, by omega, strR a1 b1, rfl, ?_⟩
        refine ⟨_, rfl, pp, _, 0, _, rfl, rfl, SqT.of (s14 _ _ B11.hp), atI_nat (j := 0) rfl, ?_⟩
        intro dd hdd
        have sd := s14.trans (same_upd (o := .dK []) hdd)
        refine ⟨by show 7 ≤ sizeLine; decide, fun lo hlo => ?_⟩
        have s15 := sd.trans (same_upd (o := .lst [.ref pp, .ref l9, .str (strS a1 b1), .str (strR a1 b1), .non, .int (a1 : Int), .ref dd]) hlo)
        have ed : (upd (upd H13 dd (.dK [])) lo (.lst [.ref pp, .ref l9, .str (strS a1 b1), .str (strR a1 b1), .non, .int (a1 : Int), .ref dd])) dd = some (.dK []) := upd_at hlo upd_same
        have el9 : (upd (upd H13 dd (.dK [])) lo (.lst [.ref pp, .ref l9, .str (strS a1 b1), .str (strR a1 b1), .non, .int (a1 : Int), .ref dd])) l9 = some (.lst [.int (a1 : Int), .int (b1 : Int)]) := upd_at hlo (upd_at hdd (s13 _ _ upd_same))
        have elo : (upd (upd H13 dd (.dK [])) lo (.lst [.ref pp, .ref l9, .str (strS a1 b1), .str (strR a1 b1), .non, .int (a1 : Int), .ref dd])) lo = some (.lst [.ref pp, .ref l9, .str (strS a1 b1), .str (strR a1 b1), .non, .int (a1 : Int), .ref dd]) := upd_same
        generalize upd (upd H13 dd (.dK [])) lo (.lst [.ref pp, .ref l9, .str (strS a1 b1), .str (strR a1 b1), .non, .int (a1 : Int), .ref dd]) = H12 at s15 ed el9 elo ⊢
        refine ⟨lo, rfl, ⟨_, SqL.of elo⟩, for_list (K := K) (a := lo) (xs := [.ref pp, .ref l9, .str (strS a1 b1), .str (strR a1 b1), .non, .int (a1 : Int), .ref dd]) (fun j σ H' => ∃ v10', σ = [some (.ref a), some (.ref tp), some (.int (0 + (i : Int))), some (.ref pp), some (.ref pq), some (.ref x), some (.ref y), some (.ref z), some (.ref u), some (.bl r), v10', v11, v12] ∧ Same H12 H')
          ⟨_, rfl, same_refl⟩ (fun j σ H' _ ⟨_, _, z⟩ => SqL.of (z _ _ elo)) ?_ ?_⟩
        · rintro j y0 σ H' hj ⟨v10', rfl, s'⟩
          have hz : ∃ t, TyX K H' y0 t ∧ PySem.W.kitOne K t (.ref C) = some false ∧ PySem.W.notFirst K C t = true ∧ LeftOk H' y0 := by
            rcases j with _ | _ | _ | _ | _ | _ | _ | j
            · rw [← Option.some.inj hj]; exact ⟨_, .base (.tup (s' _ _ (s15 _ _ B11.hp))), TA.tup.kit, TA.tup.nf, .tup (s' _ _ (s15 _ _ B11.hp))⟩
            · rw [← Option.some.inj hj]; exact ⟨_, .base (.lst (s' _ _ el9)), TA.lst.kit, TA.lst.nf, .lst (s' _ _ el9)⟩
            · rw [← Option.some.inj hj]; exact ⟨_, .base (.str _), TA.str.kit, TA.str.nf, .str _⟩
            · rw [← Option.some.inj hj]; exact ⟨_, .base (.str _), TA.str.kit, TA.str.nf, .str _⟩
            · rw [← Option.some.inj hj]; exact ⟨_, .base .non, TA.non.kit, TA.non.nf, .non⟩
            · rw [← Option.some.inj hj]; exact ⟨_, .base (.int _), TA.int.kit, TA.int.nf, .int _⟩
            · rw [← Option.some.inj hj]; exact ⟨_, .base (.dK (s' _ _ ed)), TA.dct.kit, TA.dct.nf, .dK (s' _ _ ed)⟩
            · exact absurd hj (by simp)
          obtain ⟨t, ty, kt, nf, lo'⟩ := hz
          have ex' := s' _ _ (s15 _ _ ex)
          have hx' : StrAt C H' x a1 b1 := ⟨dx, ex'⟩
          refine ⟨_, rfl, _, rfl, x, dx, _, t, rfl, ex', ty, nf, x, y0, a1, b1, rfl, hx', .inr ⟨t, ty, kt, _, rfl, ?_⟩⟩
          refine ⟨_, rfl, _, rfl, x, dx, _, t, rfl, ex', ty, nf, x, y0, a1, b1, rfl, hx', .inr ⟨t, ty, kt, false, rfl, _, rfl, ?_⟩⟩
          refine ⟨_, rfl, _, rfl, x, dx, _, rfl, ex', lo', x, y0, a1, b1, rfl, hx', .inr ⟨t, ty, kt, _, rfl, ?_⟩⟩
          exact ⟨_, rfl, s'⟩
        · rintro σ H' ⟨v10', rfl, s'⟩
          exact ⟨_, rfl, s15.trans s'⟩
      rintro σ H12 ⟨v10', rfl, s12⟩
      have B12 := B11.same s12
      have T12 := T11.same s12
      -- row
      refine ⟨fun σ H13 => ∃ pr : Addr, H13 pr = some (.lst [.ref u, .ref y, .ref z]) ∧ σ = [some (.ref a), some (.ref tp), some (.int (0 + (i : Int))), some (.ref pp), some (.ref pq), some (.ref x), some (.ref y), some (.ref z), some (.ref u), some (.bl r), v10', some (.ref pr), v12] ∧ Same H12 H13, ?_, ?_⟩
      · exact ⟨_, rfl, _, rfl, _, rfl, by show 3 ≤ sizeLine; decide, fun pr npr => ⟨pr, upd_same, rfl, same_upd npr⟩⟩
      rintro σ H13 ⟨pr, hpr, rfl, s13⟩
      have B13 := B12.same s13
      have T13 := T12.same s13
      generalize hru : (decide ((a1 : Int) = a1) && decide ((a1 : Int) + 1 = b1)) = ru
      have hd : ∀ H' : Hp, Same H13 H' → ∀ (j : Nat) (z0 : V), [V.ref u, .ref y, .ref z][j]? = some z0 → DStr C z0 (.ref x) H' (rowB3 ru r j) := by
        intro H' s' j z0 hz
        rcases j with _ | _ | _ | j
        · rw [← Option.some.inj hz]; exact ⟨u, x, a1, a1, _, b1, rfl, rfl, B13.hu.same s', B13.hx.same s', hru.symm⟩
        · rw [← Option.some.inj hz]; exact ⟨y, x, a2, a1, b2, b1, rfl, rfl, B13.hy.same s', B13.hx.same s', hr9'.symm⟩
        · rw [← Option.some.inj hz]; exact ⟨z, x, a1, a1, b1, b1, rfl, rfl, B13.hz.same s', B13.hx.same s', self1.symm⟩
        · exact absurd hz (by simp)
      have hru2 : (decide ((a1 : Int) = a1) && decide ((b1 : Int) = (a1 : Int) + 1)) = ru := by
        rw [← hru, show decide ((b1 : Int) = (a1 : Int) + 1) = decide ((a1 : Int) + 1 = b1) from decide_eq_decide.mpr ⟨Eq.symm, Eq.symm⟩]
      obtain ⟨j0, hj3, hit, hno⟩ := rowB3_first ru r
      -- in, index
      refine ⟨fun σ H14 => ∃ w10, σ = [some (.ref a), some (.ref tp), some (.int (0 + (i : Int))), some (.ref pp), some (.ref pq), some (.ref x), some (.ref y), some (.ref z), some (.ref u), some (.bl r), w10, some (.ref pr), v12] ∧ Same H13 H14, ?_, ?_⟩
      · refine ⟨_, rfl, _, rfl, pr, _, rowB3 ru r, j0, rfl, hpr, hd H13 same_refl, hj3, hit, hno, fun H14 s14 => ⟨_, rfl, ?_⟩⟩
        refine ⟨_, rfl, .inl ⟨rfl, _, SqL.of (s14 _ _ hpr)⟩, _, rfl, pr, _, _, rowB3 ru r, j0, rfl, rfl, s14 _ _ hpr, hd H14 s14, hj3, by omega, hit, hno, fun H15 s15 => ?_⟩
        have s15' := s14.trans s15
        have ep15 := s15' _ _ hpr
        have B15 := B13.same s15'
        obtain ⟨dx5, ex5⟩ := id B15.hx
        refine ⟨_, rfl, pr, rfl, ⟨_, SqL.of ep15⟩, fun D nD => ?_⟩
        refine lc_list (K := K) (a := pr) (xs := [.ref u, .ref y, .ref z]) (fun m H' => Same H15 H' ∧ H' D = some (.lst (([ru, r, true].take m).map V.bl))) ⟨same_upd nD, upd_same⟩ (fun m H' _ z => SqL.of (z.1 _ _ ep15)) ?_ ?_
        · rintro m z0 H' hz ⟨s', eD⟩
          have hv : ∃ (q0 : Addr) (c0 d0 : Int) (b0 : Bool), z0 = .ref q0 ∧ StrAt C H' q0 c0 d0 ∧ (decide ((a1 : Int) = c0) && decide ((b1 : Int) = d0)) = b0 ∧ ([ru, r, true].take m).length ≤ 3 ∧ ([ru, r, true].take m).map V.bl ++ [.bl b0] = ([ru, r, true].take (m + 1)).map V.bl := by
            rcases m with _ | _ | _ | m
            · exact ⟨u, a1, (a1 : Int) + 1, ru, (Option.some.inj hz).symm, B15.hu.same s', hru2, by show 0 ≤ 3; decide, rfl⟩
            · exact ⟨y, a2, b2, r, (Option.some.inj hz).symm, B15.hy.same s', hr9, by show 1 ≤ 3; decide, rfl⟩
            · exact ⟨z, a1, b1, true, (Option.some.inj hz).symm, B15.hz.same s', self1, by show 2 ≤ 3; decide, rfl⟩
            · exact absurd hz (by simp)
          obtain ⟨q0, c0, d0, b0, rfl, hq0, hb0, hl0, happ⟩ := hv
          refine ⟨rfl, ?_⟩
          refine ⟨_, rfl, _, rfl, x, dx5, _, _, rfl, s' _ _ ex5, isStr TB hq0, TB.nf, x, .ref q0, a1, b1, rfl, B15.hx.same s', .inl ⟨q0, c0, d0, rfl, hq0, ?_⟩⟩
          rw [hb0]
          refine ⟨_, eD, ?_, fun v o ev => ?_, ?_⟩
          · rw [List.length_map]
            exact Nat.lt_of_le_of_lt hl0 (by decide)
          · rw [upd_ne (ne_of_none ev nD)]
            exact s' v o ev
          · rw [upd_same, happ]
        · rintro H' ⟨s', eD⟩
          have eD2 : H' D = some (.lst ([ru, r, true].map V.bl)) := eD
          have at3 : ∀ m, m < 3 → ([ru, r, true].map V.bl)[m]? = some (.bl (rowB3 ru r m)) := by
            intro m hm
            rcases m with _ | _ | _ | m
            · rfl
            · rfl
            · rfl
            · omega
          refine ⟨.inl ⟨rfl, _, SqL.of eD2⟩, D, _, .bl true, j0, .bl true, rfl, rfl, SqL.of eD2, rfl, rfl, ?_, rfl, ?_, rfl, _, rfl, iteNS rfl ⟨_, rfl, s15'.trans s'⟩⟩
          · rw [at3 j0 hj3, hit]
          · intro m z' hm hz'
            rw [at3 m (by omega), hno m hm] at hz'
            cases hz'
            rfl
      rintro σ H14 ⟨w10, rfl, s14⟩
      have hpr14 := s14 _ _ hpr
      -- count
      refine ⟨fun σ H15 => σ = [some (.ref a), some (.ref tp), some (.int (0 + (i : Int))), some (.ref pp), some (.ref pq), some (.ref x), some (.ref y), some (.ref z), some (.ref u), some (.bl r), w10, some (.ref pr), v12] ∧ Same H14 H15, ?_, ?_⟩
      · refine ⟨_, rfl, .inl ⟨rfl, _, SqL.of hpr14⟩, _, rfl, pr, _, _, rowB3 ru r, rfl, rfl, hpr14, hd H14 s14, fun H15 s15 => ?_⟩
        have ep15 := s15 _ _ (s14 _ _ B13.hp)
        refine ⟨_, rfl, _, rfl, _, rfl, pp, _, 0, _, rfl, rfl, SqT.of ep15, atI_nat (j := 0) rfl, _, rfl, pp, _, 0, _, rfl, rfl, SqT.of ep15, atI_nat (j := 0) rfl, _, _, rfl, rfl, by show 2 ≤ sizeLine; decide, fun t ht => ?_⟩
        refine ⟨.tuple [.int a1, .int b1], .tuple [.int a1, .int ((a1 : Int) + 1)], dp_ii (upd_at ht ep15), dp_ii upd_same, rfl, rfl, ?_⟩
        rw [ii_eqv2, hru2]
        refine ⟨by show 3 ≤ sizeLine; decide, fun l hl => ?_⟩
        refine ⟨.inl ⟨rfl, _, SqL.of upd_same⟩, l, [true, r, ru], true, rfl, rfl, upd_same, rfl, _, rfl, iteNS (congrArg V.int ?_) ⟨rfl, (s15.trans (same_upd ht)).trans (same_upd hl)⟩⟩
        cases ru <;> cases r <;> rfl
      rintro σ H15 ⟨rfl, s15⟩
      have B15 := (B13.same s14).same s15
      have T15 := (T13.same s14).same s15
      have nx : x ≠ tp := by
        intro e
        obtain ⟨dx0, e1⟩ := B15.hx
        obtain ⟨_, _, _, e2, _⟩ := T15.ex
        rw [e, e2] at e1
        cases e1
      -- less
      refine ⟨fun σ H16 => ∃ less : Int, σ = [some (.ref a), some (.ref tp), some (.int (0 + (i : Int))), some (.ref pp), some (.ref pq), some (.ref x), some (.ref y), some (.ref z), some (.ref u), some (.bl r), w10, some (.ref pr), some (.int less)] ∧ H16 pp = some (.tup [.int (a1 : Int), .int (b1 : Int)]) ∧ StrAt C H16 x a1 b1 ∧ Tape H16 tp c (60 * i + 12), ?_, ?_⟩
      · refine ⟨_, rfl, pp, _, 0, _, rfl, rfl, SqT.of B15.hp, atI_nat (j := 0) rfl, _, _, rfl, rfl, _, rfl, tp, c, 5, 60 * i + 11, rfl, by decide, by decide, by omega, T15, fun d H16 d0 d1 T16 k16 => ⟨_, _, rfl, rfl, _, _, rfl, ?_⟩⟩
        obtain ⟨dx0, e1⟩ := B15.hx
        exact ⟨_, rfl, k16 _ _ npp B15.hp, ⟨dx0, k16 _ _ nx e1⟩, T16⟩
      rintro σ H16 ⟨less, rfl, ep16, hx16, T16⟩
      -- refused
      refine ⟨fun σ H17 => σ = [some (.ref a), some (.ref tp), some (.int (0 + (i : Int))), some (.ref pp), some (.ref pq), some (.ref x), some (.ref y), some (.ref z), some (.ref u), some (.bl r), w10, some (.ref pr), some (.int less)] ∧ Same H16 H17, ?_, ?_⟩
      · refine ⟨_, rfl, _, rfl, pp, _, 0, _, rfl, rfl, SqT.of ep16, atI_nat (j := 0) rfl, _, _, rfl, rfl, _, rfl, ite2 (fun hc => ?_) (fun _ => ⟨rfl, same_refl⟩)⟩
        refine ⟨_, rfl, pp, _, 0, _, rfl, rfl, SqT.of ep16, atI_nat (j := 0) rfl, _, rfl, a1, less, rfl, of_decide_eq_true hc, fun p H17 s17 e17 => ?_⟩
        refine ⟨_, rfl, pp, _, 0, _, rfl, rfl, SqT.of (s17 _ _ ep16), atI_nat (j := 0) rfl, _, rfl, by show 2 ≤ sizeLine; decide, fun t ht => ?_⟩
        refine ⟨.tuple [.int a1, .int less], .tuple [.int a1, .int less], dp_ii (upd_at ht e17), dp_ii upd_same, rfl, rfl, _, rfl, ite2 (fun z => ?_) (fun _ => ?_)⟩
        · rw [ii_eqv2, decide_eq_true rfl, decide_eq_true rfl] at z
          exact absurd z (by decide)
        · exact ⟨rfl, s17.trans (same_upd ht)⟩
      rintro σ H17 ⟨rfl, s17⟩
      -- it stays as it is
      refine ⟨_, rfl, _, rfl, pp, _, 0, _, rfl, rfl, SqT.of (s17 _ _ ep16), atI_nat (j := 0) rfl, _, rfl, pp, _, 1, _, rfl, rfl, SqT.of (s17 _ _ ep16), atI_nat (j := 1) rfl, x, a1, b1, rfl, hx16.same s17, by omega, by omega, fun H18 s18 => ⟨_, rfl, ?_⟩⟩
      exact ⟨_, _, _, _, _, _, _, _, _, _, _, rfl, ((T16.same s17).same s18).mono (by omega)⟩
    · rintro σ H2 _
      exact q H2
end
theorem oex_of {K : PySem.W.Frag} {B newId initId : String} {nm q : Str} {C N : Addr} {bs bm : List Value} {sn : List Str} {sub : List Value} {ab : Bool} {col : Option Bool} {dd : Option Addr} {m0 m1 m2 m3 m5 : Option Value}
    (FB : PySem.ExcBaseFacts B newId initId bm) (SF : PySem.StoreFacts B bm "object.__setattr__" "object") (xL : K.lookup C = some (excClassObj nm q C N bs bm true sn sub ab col dd m0 m1 m2 m3 m5 newId)) (ht : PySem.W.excTail bm bm = true)
    (hd : PySem.W.hasDictIn K C = true) (sa : PySem.W.findIn K (.ref C) "__setattr__" = some (some (.builtin "object.__setattr__"))) (exC : PySem.W.subIn K (.ref C) (.type "BaseException") = some true) (tyC : PySem.W.typeIn K (.ref C) = some (.type "type")) (kC : PySem.W.keepIn K (.ref C) = true) : OexB K C := by
  refine ⟨⟨B, newId, initId, bm, FB, SF, ?_, ?_⟩, hd, sa, exC, tyC, kC⟩
  · unfold PySem.W.excInitIn
    rw [xL]
    simp [excClassObj, ht]
  · unfold PySem.W.excOver PySem.W.clsIn
    rw [xL]
    simp [excClassObj, ht]
theorem kit_up {K : PySem.W.Frag} {C : Addr} {T : String} (m : PySem.W.kitMeta T = true) (s : PySem.W.subIn K (.ref C) (.type T) = some true) : PySem.W.kitOne K (.ref C) (.type T) = some true := by
  show (if (Value.ref C == Value.type T) = true then some true else if PySem.W.kitMeta T = true then PySem.W.subIn K (.ref C) (.type T) else none) = some true
  rw [if_neg (by intro z; cases z), if_pos m]
  exact s
theorem kit_cls2 {K : PySem.W.Frag} {C D : Addr} {b : Bool} (ic : PySem.W.isClsIn K D = true) (ty : PySem.W.typeIn K (.ref D) = some (.type "type")) (s : PySem.W.subIn K (.ref C) (.ref D) = some b) : PySem.W.kitCls K (.ref C) (.ref D) = some b := by
  have ic' : (PySem.W.clsIn K D).isSome = true := ic
  have e : ((PySem.W.clsIn K D).isSome && PySem.W.typeIn K (.ref D) == some (.type "type")) = true := by rw [ic', ty]; rfl
  show (if ((PySem.W.clsIn K D).isSome && PySem.W.typeIn K (.ref D) == some (.type "type")) = true then PySem.W.subIn K (.ref C) (.ref D) else none) = some b
  rw [if_pos e]
  exact s
theorem kit_other {K : PySem.W.Frag} {C D : Addr} (self : PySem.W.subIn K (.ref C) (.ref C) = some true) (ic : PySem.W.isClsIn K D = true) (ty : PySem.W.typeIn K (.ref D) = some (.type "type")) (s : PySem.W.subIn K (.ref C) (.ref D) = some false) : PySem.W.kitOne K (.ref C) (.ref D) = some false := by
  have ne : ¬ (Value.ref C == Value.ref D) = true := by
    intro z
    have e := eq_of_beq z
    injection e with e
    subst e
    rw [self] at s
    cases s
  show (if (Value.ref C == Value.ref D) = true then some true else PySem.W.kitCls K (.ref C) (.ref D)) = some false
  rw [if_neg ne]
  exact kit_cls2 ic ty s
theorem exm_hit {K : PySem.W.Frag} {C : Addr} (ex : PySem.W.subIn K (.ref C) (.type "BaseException") = some true) (ic : PySem.W.isClsIn K C = true) (ty : PySem.W.typeIn K (.ref C) = some (.type "type")) (s : PySem.W.subIn K (.ref C) (.ref C) = some true) : PySem.W.exmOne K (.ref C) (.ref C) = some true := by
  show (if (PySem.W.subIn K (.ref C) (.type "BaseException") == some true) = true then PySem.W.kitCls K (.ref C) (.ref C) else none) = some true
  rw [if_pos (by rw [ex]; rfl)]
  exact kit_cls2 ic ty s
theorem any_no {K : PySem.W.Frag} {t c : Value} {cs : List Value} (h : PySem.W.kitOne K t c = some false) (r : PySem.W.kitAny K t cs = some false) : PySem.W.kitAny K t (c :: cs) = some false := kitAny_cons h (fun _ => r) (fun z => nomatch z)
theorem kit_no {K : PySem.W.Frag} {C : Addr} {T : String} (ic : PySem.W.isClsIn K C = true) (ty : PySem.W.typeIn K (.ref C) = some (.type "type")) (ts : PySem.W.subIn K (.type T) (.ref C) = some false) : PySem.W.kitOne K (.type T) (.ref C) = some false := by
  have ic' : (PySem.W.clsIn K C).isSome = true := ic
  have e : ((PySem.W.clsIn K C).isSome && PySem.W.typeIn K (.ref C) == some (.type "type")) = true := by rw [ic', ty]; rfl
  show (if (Value.type T == Value.ref C) = true then some true else if ((PySem.W.clsIn K C).isSome && PySem.W.typeIn K (.ref C) == some (.type "type")) = true then PySem.W.subIn K (.type T) (.ref C) else none) = some false
  rw [if_neg (by intro z; cases z), if_pos e]
  exact ts
theorem all_mk {l : PySem.W.OpenLaw} {w : World} {K : PySem.W.Frag} {h : Heap} {mg : Str → Option Value} {fa fshow_time f_law_tape f_law_draw f_law_pick f_law_two f_law_time f_law_is_whole f_law_refused f_law_is f_law_pair f_law_near flaw fStretch___init__ fStretch___eq__ fStretch___len__ fStretch___str__ fStretch___repr__ fNoStretch___init__ CStretch CNoStretch CNoTime CNoBridge COverload CNoWaits TStretch___init__ : Addr} (X : K.In h) (G : h.Ns mainGlobals mg) (hfa : mg "law" = some (.ref fa))
    {odshow_time anshow_time od_law_tape an_law_tape od_law_draw an_law_draw od_law_pick an_law_pick od_law_two an_law_two od_law_time an_law_time od_law_is_whole an_law_is_whole od_law_refused an_law_refused od_law_is an_law_is od_law_pair an_law_pair od_law_near an_law_near odlaw anlaw odStretch___init__ anStretch___init__ odStretch___eq__ anStretch___eq__ odStretch___len__ anStretch___len__ odStretch___str__ anStretch___str__ odStretch___repr__ anStretch___repr__ odNoStretch___init__ anNoStretch___init__ odTStretch___init__ : Option Addr} {slshow_time sl_law_tape sl_law_draw sl_law_pick sl_law_two sl_law_time sl_law_is_whole sl_law_refused sl_law_is sl_law_pair sl_law_near sllaw slStretch___init__ slStretch___eq__ slStretch___len__ slStretch___str__ slStretch___repr__ slNoStretch___init__ slTStretch___init__ : Array (Option Value)} {ocshow_time kVshow_time dcshow_time pmshow_time cdshow_time ctshow_time oc_law_tape kV_law_tape dc_law_tape pm_law_tape cd_law_tape ct_law_tape oc_law_draw kV_law_draw dc_law_draw pm_law_draw cd_law_draw ct_law_draw oc_law_pick kV_law_pick dc_law_pick pm_law_pick cd_law_pick ct_law_pick oc_law_two kV_law_two dc_law_two pm_law_two cd_law_two ct_law_two oc_law_time kV_law_time dc_law_time pm_law_time cd_law_time ct_law_time oc_law_is_whole kV_law_is_whole dc_law_is_whole pm_law_is_whole cd_law_is_whole ct_law_is_whole oc_law_refused kV_law_refused dc_law_refused pm_law_refused cd_law_refused ct_law_refused oc_law_is kV_law_is dc_law_is pm_law_is cd_law_is ct_law_is oc_law_pair kV_law_pair dc_law_pair pm_law_pair cd_law_pair ct_law_pair oc_law_near kV_law_near dc_law_near pm_law_near cd_law_near ct_law_near oclaw kVlaw dclaw pmlaw cdlaw ctlaw ocStretch___init__ kVStretch___init__ dcStretch___init__ pmStretch___init__ cdStretch___init__ ctStretch___init__ ocStretch___eq__ kVStretch___eq__ dcStretch___eq__ pmStretch___eq__ cdStretch___eq__ ctStretch___eq__ ocStretch___len__ kVStretch___len__ dcStretch___len__ pmStretch___len__ cdStretch___len__ ctStretch___len__ ocStretch___str__ kVStretch___str__ dcStretch___str__ pmStretch___str__ cdStretch___str__ ctStretch___str__ ocStretch___repr__ kVStretch___repr__ dcStretch___repr__ pmStretch___repr__ cdStretch___repr__ ctStretch___repr__ ocNoStretch___init__ kVNoStretch___init__ dcNoStretch___init__ pmNoStretch___init__ cdNoStretch___init__ ctNoStretch___init__ ocTStretch___init__ : Value} {nTStretch___init__ : Nat} {nmNoStretch qNoStretch : Str} {NNoStretch : Addr} {bsNoStretch : List Value} {snNoStretch : List Str} {subNoStretch : List Value} {abNoStretch : Bool} {colNoStretch : Option Bool} {ddNoStretch : Option Addr} {p0NoStretch p1NoStretch p2NoStretch p3NoStretch p5NoStretch : Option Value} {tDAY tHOUR : Tok}
    (aNoTime : PySem.W.nsIn K mainGlobals "NoTime" = some (some (.ref CNoTime))) (tyNoTime : PySem.W.typeIn K (.ref CNoTime) = some (.type "type")) (icNoTime : PySem.W.isClsIn K CNoTime = true)
    (aNoBridge : PySem.W.nsIn K mainGlobals "NoBridge" = some (some (.ref CNoBridge))) (tyNoBridge : PySem.W.typeIn K (.ref CNoBridge) = some (.type "type")) (icNoBridge : PySem.W.isClsIn K CNoBridge = true)
    (aOverload : PySem.W.nsIn K mainGlobals "Overload" = some (some (.ref COverload))) (tyOverload : PySem.W.typeIn K (.ref COverload) = some (.type "type")) (icOverload : PySem.W.isClsIn K COverload = true)
    (aNoWaits : PySem.W.nsIn K mainGlobals "NoWaits" = some (some (.ref CNoWaits))) (tyNoWaits : PySem.W.typeIn K (.ref CNoWaits) = some (.type "type")) (icNoWaits : PySem.W.isClsIn K CNoWaits = true)
    (aNoStretch : PySem.W.nsIn K mainGlobals "NoStretch" = some (some (.ref CNoStretch))) (xlNoStretch : K.lookup CNoStretch = some (excClassObj nmNoStretch qNoStretch CNoStretch NNoStretch bsNoStretch [.type "ArithmeticError", .type "Exception", .type "BaseException", .type "object"] true snNoStretch subNoStretch abNoStretch colNoStretch ddNoStretch p0NoStretch p1NoStretch p2NoStretch p3NoStretch p5NoStretch "ArithmeticError.__new__"))
    (hdNoStretch : PySem.W.hasDictIn K CNoStretch = true) (saNoStretch : PySem.W.findIn K (.ref CNoStretch) "__setattr__" = some (some (.builtin "object.__setattr__"))) (exNoStretch : PySem.W.subIn K (.ref CNoStretch) (.type "BaseException") = some true) (tyNoStretch : PySem.W.typeIn K (.ref CNoStretch) = some (.type "type")) (kcNoStretch : PySem.W.keepIn K (.ref CNoStretch) = true) (icNoStretch : PySem.W.isClsIn K CNoStretch = true) (seNoStretch : PySem.W.subIn K (.ref CNoStretch) (.ref CNoStretch) = some true) (upNoStretch : PySem.W.subIn K (.ref CNoStretch) (.type "ArithmeticError") = some true)
    (gaNoStretch : PySem.W.findIn K (.ref CNoStretch) "__getattribute__" = some (some (.builtin "BaseException.__getattribute__"))) (ggNoStretch : PySem.W.findIn K (.ref CNoStretch) "__getattr__" = some none) (haNoStretch : PySem.W.findIn K (.ref CNoStretch) "__class__" = some (some (.builtin "object.__class__"))) (hnNoStretch : PySem.W.specialIn K (.builtin "object.__class__") "__get__" = some (some (.builtin "getset_descriptor.__get__"))) (htNoStretch : PySem.W.takesIn K (.builtin "object.__class__") = some true) (hmNoStretch : PySem.W.mroIn K CNoStretch (.type "object") = some true)
    (nNoStretch_first : PySem.W.findIn K (.ref CNoStretch) "first" = some none)
    (nNoStretch_behind : PySem.W.findIn K (.ref CNoStretch) "behind" = some none)
    (noNoStretch_NoTime : PySem.W.subIn K (.ref CNoStretch) (.ref CNoTime) = some false)
    (noNoStretch_NoBridge : PySem.W.subIn K (.ref CNoStretch) (.ref CNoBridge) = some false)
    (noNoStretch_Overload : PySem.W.subIn K (.ref CNoStretch) (.ref COverload) = some false)
    (noNoStretch_NoWaits : PySem.W.subIn K (.ref CNoStretch) (.ref CNoWaits) = some false)
    (aStretch : PySem.W.nsIn K mainGlobals "Stretch" = some (some (.ref CStretch))) (pgStretch : PySem.W.plainGet K CStretch Str.empty = true) (hdStretch : PySem.W.hasDictIn K CStretch = true) (poStretch : PySem.W.plainOver K CStretch = true) (saStretch : PySem.W.findIn K (.ref CStretch) "__setattr__" = some (some (.builtin "object.__setattr__"))) (mkStretch : PySem.W.makesIn K CStretch = true) (kcStretch : PySem.W.keepIn K (.ref CStretch) = true)
    (haStretch : PySem.W.findIn K (.ref CStretch) "__class__" = some (some (.builtin "object.__class__"))) (hnStretch : PySem.W.specialIn K (.builtin "object.__class__") "__get__" = some (some (.builtin "getset_descriptor.__get__"))) (htStretch : PySem.W.takesIn K (.builtin "object.__class__") = some true) (hmStretch : PySem.W.mroIn K CStretch (.type "object") = some true) (nfStretch : PySem.W.notFirst K CStretch (.ref CStretch) = true)
    (nStretch_first : PySem.W.findIn K (.ref CStretch) "first" = some none)
    (nStretch_behind : PySem.W.findIn K (.ref CStretch) "behind" = some none)
    (neStretch : PySem.W.findIn K (.ref CStretch) "__ne__" = some (some (.builtin "object.__ne__"))) (icStretch : PySem.W.isClsIn K CStretch = true) (tyStretch : PySem.W.typeIn K (.ref CStretch) = some (.type "type"))
    (subStretch_NoneType : PySem.W.subIn K (.ref CStretch) (.type "NoneType") = some false) (kitStretch_NoneType : PySem.W.subIn K (.type "NoneType") (.ref CStretch) = some false) (ntStretch_NoneType : PySem.W.notFirst K CStretch (.type "NoneType") = true)
    (subStretch_int : PySem.W.subIn K (.ref CStretch) (.type "int") = some false) (kitStretch_int : PySem.W.subIn K (.type "int") (.ref CStretch) = some false) (ntStretch_int : PySem.W.notFirst K CStretch (.type "int") = true)
    (subStretch_str : PySem.W.subIn K (.ref CStretch) (.type "str") = some false) (kitStretch_str : PySem.W.subIn K (.type "str") (.ref CStretch) = some false) (ntStretch_str : PySem.W.notFirst K CStretch (.type "str") = true)
    (subStretch_list : PySem.W.subIn K (.ref CStretch) (.type "list") = some false) (kitStretch_list : PySem.W.subIn K (.type "list") (.ref CStretch) = some false) (ntStretch_list : PySem.W.notFirst K CStretch (.type "list") = true)
    (subStretch_tuple : PySem.W.subIn K (.ref CStretch) (.type "tuple") = some false) (kitStretch_tuple : PySem.W.subIn K (.type "tuple") (.ref CStretch) = some false) (ntStretch_tuple : PySem.W.notFirst K CStretch (.type "tuple") = true)
    (subStretch_dict : PySem.W.subIn K (.ref CStretch) (.type "dict") = some false) (kitStretch_dict : PySem.W.subIn K (.type "dict") (.ref CStretch) = some false) (ntStretch_dict : PySem.W.notFirst K CStretch (.type "dict") = true)
    (blStretch : PySem.W.findIn K (.ref CStretch) "__bool__" = some none)
    (aStretch___init__ : PySem.W.findIn K (.ref CStretch) "__init__" = some (some (.ref fStretch___init__))) (iStretch___init__ : PySem.W.isFn K (.ref fStretch___init__) = true) (lStretch___init__ : K.lookup fStretch___init__ = some ⟨ocStretch___init__, odStretch___init__, .func (PySem.W.fnOf "__init__" "Stretch.__init__" (defArgs sSInit) (defBody sSInit) (defScope sSInit) (.ref TStretch___init__) kVStretch___init__ dcStretch___init__ pmStretch___init__ anStretch___init__ cdStretch___init__ ctStretch___init__), slStretch___init__⟩) (cStretch___init__ : PySem.W.codeIn K cdStretch___init__ "Stretch.__init__" = true) (kStretch___init__ : PySem.W.keepIn K (.ref fStretch___init__) = true)
    (dStretch___init__ : K.lookup TStretch___init__ = some ⟨ocTStretch___init__, odTStretch___init__, .seq #[.none] nTStretch___init__, slTStretch___init__⟩)
    (aStretch___eq__ : PySem.W.findIn K (.ref CStretch) "__eq__" = some (some (.ref fStretch___eq__))) (iStretch___eq__ : PySem.W.isFn K (.ref fStretch___eq__) = true) (lStretch___eq__ : K.lookup fStretch___eq__ = some ⟨ocStretch___eq__, odStretch___eq__, .func (PySem.W.fnOf "__eq__" "Stretch.__eq__" (defArgs sSEq) (defBody sSEq) (defScope sSEq) .none kVStretch___eq__ dcStretch___eq__ pmStretch___eq__ anStretch___eq__ cdStretch___eq__ ctStretch___eq__), slStretch___eq__⟩) (cStretch___eq__ : PySem.W.codeIn K cdStretch___eq__ "Stretch.__eq__" = true) (kStretch___eq__ : PySem.W.keepIn K (.ref fStretch___eq__) = true)
    (aStretch___len__ : PySem.W.findIn K (.ref CStretch) "__len__" = some (some (.ref fStretch___len__))) (iStretch___len__ : PySem.W.isFn K (.ref fStretch___len__) = true) (lStretch___len__ : K.lookup fStretch___len__ = some ⟨ocStretch___len__, odStretch___len__, .func (PySem.W.fnOf "__len__" "Stretch.__len__" (defArgs sSLen) (defBody sSLen) (defScope sSLen) .none kVStretch___len__ dcStretch___len__ pmStretch___len__ anStretch___len__ cdStretch___len__ ctStretch___len__), slStretch___len__⟩) (cStretch___len__ : PySem.W.codeIn K cdStretch___len__ "Stretch.__len__" = true) (kStretch___len__ : PySem.W.keepIn K (.ref fStretch___len__) = true)
    (aStretch___str__ : PySem.W.findIn K (.ref CStretch) "__str__" = some (some (.ref fStretch___str__))) (iStretch___str__ : PySem.W.isFn K (.ref fStretch___str__) = true) (lStretch___str__ : K.lookup fStretch___str__ = some ⟨ocStretch___str__, odStretch___str__, .func (PySem.W.fnOf "__str__" "Stretch.__str__" (defArgs sSStr) (defBody sSStr) (defScope sSStr) .none kVStretch___str__ dcStretch___str__ pmStretch___str__ anStretch___str__ cdStretch___str__ ctStretch___str__), slStretch___str__⟩) (cStretch___str__ : PySem.W.codeIn K cdStretch___str__ "Stretch.__str__" = true) (kStretch___str__ : PySem.W.keepIn K (.ref fStretch___str__) = true)
    (aStretch___repr__ : PySem.W.findIn K (.ref CStretch) "__repr__" = some (some (.ref fStretch___repr__))) (iStretch___repr__ : PySem.W.isFn K (.ref fStretch___repr__) = true) (lStretch___repr__ : K.lookup fStretch___repr__ = some ⟨ocStretch___repr__, odStretch___repr__, .func (PySem.W.fnOf "__repr__" "Stretch.__repr__" (defArgs sSRepr) (defBody sSRepr) (defScope sSRepr) .none kVStretch___repr__ dcStretch___repr__ pmStretch___repr__ anStretch___repr__ cdStretch___repr__ ctStretch___repr__), slStretch___repr__⟩) (cStretch___repr__ : PySem.W.codeIn K cdStretch___repr__ "Stretch.__repr__" = true) (kStretch___repr__ : PySem.W.keepIn K (.ref fStretch___repr__) = true)
    (aNoStretch___init__ : PySem.W.findIn K (.ref CNoStretch) "__init__" = some (some (.ref fNoStretch___init__))) (iNoStretch___init__ : PySem.W.isFn K (.ref fNoStretch___init__) = true) (lNoStretch___init__ : K.lookup fNoStretch___init__ = some ⟨ocNoStretch___init__, odNoStretch___init__, .func (PySem.W.fnOf "__init__" "NoStretch.__init__" (defArgs sNInit) (defBody sNInit) (defScope sNInit) .none kVNoStretch___init__ dcNoStretch___init__ pmNoStretch___init__ anNoStretch___init__ cdNoStretch___init__ ctNoStretch___init__), slNoStretch___init__⟩) (cNoStretch___init__ : PySem.W.codeIn K cdNoStretch___init__ "NoStretch.__init__" = true) (kNoStretch___init__ : PySem.W.keepIn K (.ref fNoStretch___init__) = true)
    (ashow_time : PySem.W.nsIn K mainGlobals "show_time" = some (some (.ref fshow_time))) (lshow_time : K.lookup fshow_time = some ⟨ocshow_time, odshow_time, .func (PySem.W.fnOf "show_time" "show_time" (defArgs sShow) (defBody sShow) (defScope sShow) .none kVshow_time dcshow_time pmshow_time anshow_time cdshow_time ctshow_time), slshow_time⟩) (cshow_time : PySem.W.codeIn K cdshow_time "show_time" = true) (kshow_time : PySem.W.keepIn K (.ref fshow_time) = true)
    (a_law_tape : PySem.W.nsIn K mainGlobals "_law_tape" = some (some (.ref f_law_tape))) (l_law_tape : K.lookup f_law_tape = some ⟨oc_law_tape, od_law_tape, .func (PySem.W.fnOf "_law_tape" "_law_tape" (defArgs sTape) (defBody sTape) (defScope sTape) .none kV_law_tape dc_law_tape pm_law_tape an_law_tape cd_law_tape ct_law_tape), sl_law_tape⟩) (c_law_tape : PySem.W.codeIn K cd_law_tape "_law_tape" = true) (k_law_tape : PySem.W.keepIn K (.ref f_law_tape) = true)
    (a_law_draw : PySem.W.nsIn K mainGlobals "_law_draw" = some (some (.ref f_law_draw))) (l_law_draw : K.lookup f_law_draw = some ⟨oc_law_draw, od_law_draw, .func (PySem.W.fnOf "_law_draw" "_law_draw" (defArgs sDraw) (defBody sDraw) (defScope sDraw) .none kV_law_draw dc_law_draw pm_law_draw an_law_draw cd_law_draw ct_law_draw), sl_law_draw⟩) (c_law_draw : PySem.W.codeIn K cd_law_draw "_law_draw" = true) (k_law_draw : PySem.W.keepIn K (.ref f_law_draw) = true)
    (a_law_pick : PySem.W.nsIn K mainGlobals "_law_pick" = some (some (.ref f_law_pick))) (l_law_pick : K.lookup f_law_pick = some ⟨oc_law_pick, od_law_pick, .func (PySem.W.fnOf "_law_pick" "_law_pick" (defArgs sPick) (defBody sPick) (defScope sPick) .none kV_law_pick dc_law_pick pm_law_pick an_law_pick cd_law_pick ct_law_pick), sl_law_pick⟩) (c_law_pick : PySem.W.codeIn K cd_law_pick "_law_pick" = true) (k_law_pick : PySem.W.keepIn K (.ref f_law_pick) = true)
    (a_law_two : PySem.W.nsIn K mainGlobals "_law_two" = some (some (.ref f_law_two))) (l_law_two : K.lookup f_law_two = some ⟨oc_law_two, od_law_two, .func (PySem.W.fnOf "_law_two" "_law_two" (defArgs sTwo) (defBody sTwo) (defScope sTwo) .none kV_law_two dc_law_two pm_law_two an_law_two cd_law_two ct_law_two), sl_law_two⟩) (c_law_two : PySem.W.codeIn K cd_law_two "_law_two" = true) (k_law_two : PySem.W.keepIn K (.ref f_law_two) = true)
    (a_law_time : PySem.W.nsIn K mainGlobals "_law_time" = some (some (.ref f_law_time))) (l_law_time : K.lookup f_law_time = some ⟨oc_law_time, od_law_time, .func (PySem.W.fnOf "_law_time" "_law_time" (defArgs sTime) (defBody sTime) (defScope sTime) .none kV_law_time dc_law_time pm_law_time an_law_time cd_law_time ct_law_time), sl_law_time⟩) (c_law_time : PySem.W.codeIn K cd_law_time "_law_time" = true) (k_law_time : PySem.W.keepIn K (.ref f_law_time) = true)
    (a_law_is_whole : PySem.W.nsIn K mainGlobals "_law_is_whole" = some (some (.ref f_law_is_whole))) (l_law_is_whole : K.lookup f_law_is_whole = some ⟨oc_law_is_whole, od_law_is_whole, .func (PySem.W.fnOf "_law_is_whole" "_law_is_whole" (defArgs sWhole) (defBody sWhole) (defScope sWhole) .none kV_law_is_whole dc_law_is_whole pm_law_is_whole an_law_is_whole cd_law_is_whole ct_law_is_whole), sl_law_is_whole⟩) (c_law_is_whole : PySem.W.codeIn K cd_law_is_whole "_law_is_whole" = true) (k_law_is_whole : PySem.W.keepIn K (.ref f_law_is_whole) = true)
    (a_law_refused : PySem.W.nsIn K mainGlobals "_law_refused" = some (some (.ref f_law_refused))) (l_law_refused : K.lookup f_law_refused = some ⟨oc_law_refused, od_law_refused, .func (PySem.W.fnOf "_law_refused" "_law_refused" (defArgs sRef) (defBody sRef) (defScope sRef) .none kV_law_refused dc_law_refused pm_law_refused an_law_refused cd_law_refused ct_law_refused), sl_law_refused⟩) (c_law_refused : PySem.W.codeIn K cd_law_refused "_law_refused" = true) (k_law_refused : PySem.W.keepIn K (.ref f_law_refused) = true)
    (a_law_is : PySem.W.nsIn K mainGlobals "_law_is" = some (some (.ref f_law_is))) (l_law_is : K.lookup f_law_is = some ⟨oc_law_is, od_law_is, .func (PySem.W.fnOf "_law_is" "_law_is" (defArgs sLIs) (defBody sLIs) (defScope sLIs) .none kV_law_is dc_law_is pm_law_is an_law_is cd_law_is ct_law_is), sl_law_is⟩) (c_law_is : PySem.W.codeIn K cd_law_is "_law_is" = true) (k_law_is : PySem.W.keepIn K (.ref f_law_is) = true)
    (a_law_pair : PySem.W.nsIn K mainGlobals "_law_pair" = some (some (.ref f_law_pair))) (l_law_pair : K.lookup f_law_pair = some ⟨oc_law_pair, od_law_pair, .func (PySem.W.fnOf "_law_pair" "_law_pair" (defArgs sLPair) (defBody sLPair) (defScope sLPair) .none kV_law_pair dc_law_pair pm_law_pair an_law_pair cd_law_pair ct_law_pair), sl_law_pair⟩) (c_law_pair : PySem.W.codeIn K cd_law_pair "_law_pair" = true) (k_law_pair : PySem.W.keepIn K (.ref f_law_pair) = true)
    (a_law_near : PySem.W.nsIn K mainGlobals "_law_near" = some (some (.ref f_law_near))) (l_law_near : K.lookup f_law_near = some ⟨oc_law_near, od_law_near, .func (PySem.W.fnOf "_law_near" "_law_near" (defArgs sLNear) (defBody sLNear) (defScope sLNear) .none kV_law_near dc_law_near pm_law_near an_law_near cd_law_near ct_law_near), sl_law_near⟩) (c_law_near : PySem.W.codeIn K cd_law_near "_law_near" = true) (k_law_near : PySem.W.keepIn K (.ref f_law_near) = true)
    (alaw : PySem.W.nsIn K mainGlobals "law" = some (some (.ref flaw))) (llaw : K.lookup flaw = some ⟨oclaw, odlaw, .func (PySem.W.fnOf "law" "law" (defArgs sLaw) (defBody sLaw) (defScope sLaw) .none kVlaw dclaw pmlaw anlaw cdlaw ctlaw), sllaw⟩) (claw : PySem.W.codeIn K cdlaw "law" = true) (klaw : PySem.W.keepIn K (.ref flaw) = true)
    (aDAY : PySem.W.nsIn K mainGlobals "DAY" = some (some (.int 1440 tDAY)))
    (aHOUR : PySem.W.nsIn K mainGlobals "HOUR" = some (some (.int 60 tHOUR)))
    (zlen : PySem.W.nsIn K mainGlobals "len" = some none)
    (zisinstance : PySem.W.nsIn K mainGlobals "isinstance" = some none)
    (zmax : PySem.W.nsIn K mainGlobals "max" = some none)
    (zmin : PySem.W.nsIn K mainGlobals "min" = some none)
    (zrange : PySem.W.nsIn K mainGlobals "range" = some none)
    (zstr : PySem.W.nsIn K mainGlobals "str" = some none)
    (zrepr : PySem.W.nsIn K mainGlobals "repr" = some none)
    (zint : PySem.W.nsIn K mainGlobals "int" = some none)
    (zbool : PySem.W.nsIn K mainGlobals "bool" = some none)
    (zlist : PySem.W.nsIn K mainGlobals "list" = some none)
    (zdivmod : PySem.W.nsIn K mainGlobals "divmod" = some none)
    (zArithmeticError : PySem.W.nsIn K mainGlobals "ArithmeticError" = some none)
    : ∃ fd : FuncData, (∀ (s : Shared) (v : Value), BindsTo s fd ⟨[v], []⟩ [("_law_script", v)]) ∧ ∀ base : Heap, K.In base → base.Ns mainGlobals mg → FnOk l.prog w K mg base CX0 8 fa fd ["_law_script"] (spLaw K) := by
  have e := hfa.symm.trans (PySem.W.mg_of X G alaw)
  cases e
  have Fshow_time := fun_mk (st := sShow) lshow_time cshow_time kshow_time
  have gshow_time := PySem.W.mg_of X G ashow_time
  have bshow_time := Fshow_time.binds (ps := ["minute"]) fun _ _ _ _ _ _ us hl => match us, hl with | [_], _ => rfl
  have F_law_tape := fun_mk (st := sTape) l_law_tape c_law_tape k_law_tape
  have g_law_tape := PySem.W.mg_of X G a_law_tape
  have b_law_tape := F_law_tape.binds (ps := ["_law_script"]) fun _ _ _ _ _ _ us hl => match us, hl with | [_], _ => rfl
  have F_law_draw := fun_mk (st := sDraw) l_law_draw c_law_draw k_law_draw
  have g_law_draw := PySem.W.mg_of X G a_law_draw
  have b_law_draw := F_law_draw.binds (ps := ["_law_tape_here", "_law_many"]) fun _ _ _ _ _ _ us hl => match us, hl with | [_, _], _ => rfl
  have F_law_pick := fun_mk (st := sPick) l_law_pick c_law_pick k_law_pick
  have g_law_pick := PySem.W.mg_of X G a_law_pick
  have b_law_pick := F_law_pick.binds (ps := ["_law_tape_here", "_law_some"]) fun _ _ _ _ _ _ us hl => match us, hl with | [_, _], _ => rfl
  have F_law_two := fun_mk (st := sTwo) l_law_two c_law_two k_law_two
  have g_law_two := PySem.W.mg_of X G a_law_two
  have b_law_two := F_law_two.binds (ps := ["_law_number"]) fun _ _ _ _ _ _ us hl => match us, hl with | [_], _ => rfl
  have F_law_time := fun_mk (st := sTime) l_law_time c_law_time k_law_time
  have g_law_time := PySem.W.mg_of X G a_law_time
  have b_law_time := F_law_time.binds (ps := ["_law_minute"]) fun _ _ _ _ _ _ us hl => match us, hl with | [_], _ => rfl
  have F_law_is_whole := fun_mk (st := sWhole) l_law_is_whole c_law_is_whole k_law_is_whole
  have g_law_is_whole := PySem.W.mg_of X G a_law_is_whole
  have b_law_is_whole := F_law_is_whole.binds (ps := ["_law_thing"]) fun _ _ _ _ _ _ us hl => match us, hl with | [_], _ => rfl
  have F_law_refused := fun_mk (st := sRef) l_law_refused c_law_refused k_law_refused
  have g_law_refused := PySem.W.mg_of X G a_law_refused
  have b_law_refused := F_law_refused.binds (ps := ["_law_start", "_law_upto"]) fun _ _ _ _ _ _ us hl => match us, hl with | [_, _], _ => rfl
  have F_law_is := fun_mk (st := sLIs) l_law_is c_law_is k_law_is
  have g_law_is := PySem.W.mg_of X G a_law_is
  have b_law_is := F_law_is.binds (ps := ["_law_one", "_law_start", "_law_upto"]) fun _ _ _ _ _ _ us hl => match us, hl with | [_, _, _], _ => rfl
  have F_law_pair := fun_mk (st := sLPair) l_law_pair c_law_pair k_law_pair
  have g_law_pair := PySem.W.mg_of X G a_law_pair
  have b_law_pair := F_law_pair.binds (ps := ["_law_tape_here"]) fun _ _ _ _ _ _ us hl => match us, hl with | [_], _ => rfl
  have F_law_near := fun_mk (st := sLNear) l_law_near c_law_near k_law_near
  have g_law_near := PySem.W.mg_of X G a_law_near
  have b_law_near := F_law_near.binds (ps := ["_law_tape_here", "_law_pair_here"]) fun _ _ _ _ _ _ us hl => match us, hl with | [_, _], _ => rfl
  have Flaw := fun_mk (st := sLaw) llaw claw klaw
  have glaw := PySem.W.mg_of X G alaw
  have blaw := Flaw.binds (ps := ["_law_script"]) fun _ _ _ _ _ _ us hl => match us, hl with | [_], _ => rfl
  have gCNoTime := PySem.W.mg_of X G aNoTime
  have gCNoBridge := PySem.W.mg_of X G aNoBridge
  have gCOverload := PySem.W.mg_of X G aOverload
  have gCNoWaits := PySem.W.mg_of X G aNoWaits
  have oxNoStretch := oex_of PySem.F.excBase_ArithmeticError PySem.F.store_ArithmeticError xlNoStretch (by decide +kernel) hdNoStretch saNoStretch exNoStretch tyNoStretch kcNoStretch
  have gCStretch := PySem.W.mg_of X G aStretch
  have FStretch___init__ : FunS K fStretch___init__ _ := ⟨⟨_, _, _, _, _, _, _, _, _, _, rfl, lStretch___init__, cStretch___init__, .inr ⟨by simp, TStretch___init__, _, [.none], _, rfl, dStretch___init__, rfl, .cons rfl (.nil)⟩, .inl rfl⟩, kStretch___init__⟩
  have FStretch___eq__ := fun_mk (st := sSEq) lStretch___eq__ cStretch___eq__ kStretch___eq__
  have bStretch___eq__ := FStretch___eq__.binds (ps := ["self", "other"]) fun _ _ _ _ _ _ us hl => match us, hl with | [_, _], _ => rfl
  have FStretch___len__ := fun_mk (st := sSLen) lStretch___len__ cStretch___len__ kStretch___len__
  have bStretch___len__ := FStretch___len__.binds (ps := ["self"]) fun _ _ _ _ _ _ us hl => match us, hl with | [_], _ => rfl
  have FStretch___str__ := fun_mk (st := sSStr) lStretch___str__ cStretch___str__ kStretch___str__
  have bStretch___str__ := FStretch___str__.binds (ps := ["self"]) fun _ _ _ _ _ _ us hl => match us, hl with | [_], _ => rfl
  have FStretch___repr__ := fun_mk (st := sSRepr) lStretch___repr__ cStretch___repr__ kStretch___repr__
  have bStretch___repr__ := FStretch___repr__.binds (ps := ["self"]) fun _ _ _ _ _ _ us hl => match us, hl with | [_], _ => rfl
  have gCNoStretch := PySem.W.mg_of X G aNoStretch
  have FNoStretch___init__ := fun_mk (st := sNInit) lNoStretch___init__ cNoStretch___init__ kNoStretch___init__
  have bNoStretch___init__ := FNoStretch___init__.binds (ps := ["self", "first", "behind"]) fun _ _ _ _ _ _ us hl => match us, hl with | [_, _, _], _ => rfl
  have mDAY := PySem.W.mg_of X G aDAY
  have mHOUR := PySem.W.mg_of X G aHOUR
  have mlen := PySem.W.mg_none_of X G zlen
  have misinstance := PySem.W.mg_none_of X G zisinstance
  have mmax := PySem.W.mg_none_of X G zmax
  have mmin := PySem.W.mg_none_of X G zmin
  have mrange := PySem.W.mg_none_of X G zrange
  have mstr := PySem.W.mg_none_of X G zstr
  have mrepr := PySem.W.mg_none_of X G zrepr
  have mint := PySem.W.mg_none_of X G zint
  have mbool := PySem.W.mg_none_of X G zbool
  have mlist := PySem.W.mg_none_of X G zlist
  have mdivmod := PySem.W.mg_none_of X G zdivmod
  have mArithmeticError := PySem.W.mg_none_of X G zArithmeticError
  exact ⟨_, fun s v => .of_eq rfl, fun base _ _ => ok_law Flaw ⟨mlen⟩ ⟨mlen, mbool, mstr, mrepr⟩ ⟨mstr, mint, mbool, misinstance⟩ ⟨mdivmod, ⟨_, mDAY⟩, ⟨_, mHOUR⟩⟩ ⟨mmax⟩ ⟨mlen, mmax, mmin, mrange, mstr, mrepr, mlist⟩
    ⟨⟨pgStretch, hdStretch, poStretch, saStretch⟩, nStretch_first, nStretch_behind, gCStretch, haStretch, hnStretch, htStretch, hmStretch, nfStretch, neStretch, blStretch, ⟨subStretch_NoneType, subStretch_int, subStretch_str, subStretch_list, subStretch_tuple, subStretch_dict⟩, misinstance, mlen, mrange⟩
    ⟨gCNoStretch, gCNoTime, gCNoBridge, gCOverload, gCNoWaits, oxNoStretch, ⟨gaNoStretch, ggNoStretch, exNoStretch, hdNoStretch⟩, ⟨gaNoStretch, ggNoStretch, exNoStretch, hdNoStretch, haNoStretch, hnNoStretch, htNoStretch, hmNoStretch⟩, nNoStretch_first, nNoStretch_behind, exm_hit exNoStretch icNoStretch tyNoStretch seNoStretch, kit_up (by decide +kernel) upNoStretch,
      any_no (kit_other seNoStretch icNoTime tyNoTime noNoStretch_NoTime) (any_no (kit_other seNoStretch icNoBridge tyNoBridge noNoStretch_NoBridge) (any_no (kit_other seNoStretch icOverload tyOverload noNoStretch_Overload) (any_no (kit_other seNoStretch icNoWaits tyNoWaits noNoStretch_NoWaits) kitAny_nil))), misinstance, mArithmeticError⟩
    ⟨⟨kit_no icStretch tyStretch kitStretch_NoneType, ntStretch_NoneType⟩, ⟨kit_no icStretch tyStretch kitStretch_int, ntStretch_int⟩, ⟨kit_no icStretch tyStretch kitStretch_str, ntStretch_str⟩, ⟨kit_no icStretch tyStretch kitStretch_list, ntStretch_list⟩, ⟨kit_no icStretch tyStretch kitStretch_tuple, ntStretch_tuple⟩, ⟨kit_no icStretch tyStretch kitStretch_dict, ntStretch_dict⟩⟩
    ⟨mkStretch, aStretch___init__, iStretch___init__, kcStretch⟩ FStretch___init__ aNoStretch___init__ (beq_iff_eq.mp iNoStretch___init__) FNoStretch___init__ bNoStretch___init__
    ⟨aStretch___eq__, iStretch___eq__, kStretch___eq__⟩ FStretch___eq__ bStretch___eq__ ⟨aStretch___len__, iStretch___len__, kStretch___len__⟩ FStretch___len__ bStretch___len__
    ⟨aStretch___str__, iStretch___str__, kStretch___str__⟩ FStretch___str__ bStretch___str__ ⟨aStretch___repr__, iStretch___repr__, kStretch___repr__⟩ FStretch___repr__ bStretch___repr__
    F_law_tape g_law_tape b_law_tape F_law_draw g_law_draw b_law_draw F_law_pick g_law_pick b_law_pick F_law_two g_law_two b_law_two F_law_time g_law_time b_law_time F_law_is_whole g_law_is_whole b_law_is_whole
    F_law_refused g_law_refused b_law_refused F_law_is g_law_is b_law_is F_law_pair g_law_pair b_law_pair F_law_near g_law_near b_law_near Fshow_time gshow_time bshow_time⟩
end Bb
open PySem PySem.W PyProof.Rows
set_option maxHeartbeats 0 in
theorem PySem.Challenge.cw_boatbridge_k03_stretches_as_objects_holds : PySem.Challenge.rw_boatbridge_k03_stretches_as_objects.Holds := by
  w_on; o_law; k_head; (case hw => w_witness2)
  k_fill
  refine L2.walk_of (l := PySem.Challenge.rw_boatbridge_k03_stretches_as_objects) (n := 63) (k := 8) (x := "_law_script") (CX := fun _ => L2.CX0) (sp := fun w => Bb.spLaw _) rfl (by decide) rfl ⟨rfl, by decide, by decide⟩ (fun w h Y => PySem.W.kIn_of Y) ?F (fun _ _ a ns hl _ hS => ⟨a, ns, rfl, hS, hl, fun _ => rfl⟩) (fun _ _ _ _ _ h => h)
  case F =>
    intro w mg fa h KX G hmg
    refine' Bb.all_mk KX G hmg ?aNoTime ?tyNoTime ?icNoTime ?aNoBridge ?tyNoBridge ?icNoBridge ?aOverload ?tyOverload ?icOverload ?aNoWaits ?tyNoWaits ?icNoWaits ?aNoStretch ?xlNoStretch ?hdNoStretch ?saNoStretch ?exNoStretch ?tyNoStretch ?kcNoStretch ?icNoStretch ?seNoStretch ?upNoStretch ?gaNoStretch ?ggNoStretch ?haNoStretch ?hnNoStretch ?htNoStretch ?hmNoStretch ?nNoStretch_first ?nNoStretch_behind ?noNoStretch_NoTime ?noNoStretch_NoBridge ?noNoStretch_Overload ?noNoStretch_NoWaits ?aStretch ?pgStretch ?hdStretch ?poStretch ?saStretch ?mkStretch ?kcStretch ?haStretch ?hnStretch ?htStretch ?hmStretch ?nfStretch ?nStretch_first ?nStretch_behind ?neStretch ?icStretch ?tyStretch ?subStretch_NoneType ?kitStretch_NoneType ?ntStretch_NoneType ?subStretch_int ?kitStretch_int ?ntStretch_int ?subStretch_str ?kitStretch_str ?ntStretch_str ?subStretch_list ?kitStretch_list ?ntStretch_list ?subStretch_tuple ?kitStretch_tuple ?ntStretch_tuple ?subStretch_dict ?kitStretch_dict ?ntStretch_dict ?blStretch ?aStretch___init__ ?iStretch___init__ ?lStretch___init__ ?cStretch___init__ ?kStretch___init__ ?dStretch___init__ ?aStretch___eq__ ?iStretch___eq__ ?lStretch___eq__ ?cStretch___eq__ ?kStretch___eq__ ?aStretch___len__ ?iStretch___len__ ?lStretch___len__ ?cStretch___len__ ?kStretch___len__ ?aStretch___str__ ?iStretch___str__ ?lStretch___str__ ?cStretch___str__ ?kStretch___str__ ?aStretch___repr__ ?iStretch___repr__ ?lStretch___repr__ ?cStretch___repr__ ?kStretch___repr__ ?aNoStretch___init__ ?iNoStretch___init__ ?lNoStretch___init__ ?cNoStretch___init__ ?kNoStretch___init__ ?ashow_time ?lshow_time ?cshow_time ?kshow_time ?a_law_tape ?l_law_tape ?c_law_tape ?k_law_tape ?a_law_draw ?l_law_draw ?c_law_draw ?k_law_draw ?a_law_pick ?l_law_pick ?c_law_pick ?k_law_pick ?a_law_two ?l_law_two ?c_law_two ?k_law_two ?a_law_time ?l_law_time ?c_law_time ?k_law_time ?a_law_is_whole ?l_law_is_whole ?c_law_is_whole ?k_law_is_whole ?a_law_refused ?l_law_refused ?c_law_refused ?k_law_refused ?a_law_is ?l_law_is ?c_law_is ?k_law_is ?a_law_pair ?l_law_pair ?c_law_pair ?k_law_pair ?a_law_near ?l_law_near ?c_law_near ?k_law_near ?alaw ?llaw ?claw ?klaw ?aDAY ?aHOUR ?zlen ?zisinstance ?zmax ?zmin ?zrange ?zstr ?zrepr ?zint ?zbool ?zlist ?zdivmod ?zArithmeticError
    (case aNoTime => k_is)
    (case tyNoTime => k_is)
    (case icNoTime => k_is)
    (case aNoBridge => k_is)
    (case tyNoBridge => k_is)
    (case icNoBridge => k_is)
    (case aOverload => k_is)
    (case tyOverload => k_is)
    (case icOverload => k_is)
    (case aNoWaits => k_is)
    (case tyNoWaits => k_is)
    (case icNoWaits => k_is)
    (case aNoStretch => k_is)
    (case xlNoStretch => k_is)
    (case hdNoStretch => k_is)
    (case saNoStretch => k_is)
    (case exNoStretch => k_is)
    (case tyNoStretch => k_is)
    (case kcNoStretch => k_is)
    (case icNoStretch => k_is)
    (case seNoStretch => k_is)
    (case upNoStretch => k_is)
    (case gaNoStretch => k_is)
    (case ggNoStretch => k_is)
    (case haNoStretch => k_is)
    (case hnNoStretch => k_is)
    (case htNoStretch => k_is)
    (case hmNoStretch => k_is)
    (case nNoStretch_first => k_is)
    (case nNoStretch_behind => k_is)
    (case noNoStretch_NoTime => k_is)
    (case noNoStretch_NoBridge => k_is)
    (case noNoStretch_Overload => k_is)
    (case noNoStretch_NoWaits => k_is)
    (case aStretch => k_is)
    (case pgStretch => k_is)
    (case hdStretch => k_is)
    (case poStretch => k_is)
    (case saStretch => k_is)
    (case mkStretch => k_is)
    (case kcStretch => k_is)
    (case haStretch => k_is)
    (case hnStretch => k_is)
    (case htStretch => k_is)
    (case hmStretch => k_is)
    (case nfStretch => k_is)
    (case nStretch_first => k_is)
    (case nStretch_behind => k_is)
    (case neStretch => k_is)
    (case icStretch => k_is)
    (case tyStretch => k_is)
    (case subStretch_NoneType => k_is)
    (case kitStretch_NoneType => k_is)
    (case ntStretch_NoneType => k_is)
    (case subStretch_int => k_is)
    (case kitStretch_int => k_is)
    (case ntStretch_int => k_is)
    (case subStretch_str => k_is)
    (case kitStretch_str => k_is)
    (case ntStretch_str => k_is)
    (case subStretch_list => k_is)
    (case kitStretch_list => k_is)
    (case ntStretch_list => k_is)
    (case subStretch_tuple => k_is)
    (case kitStretch_tuple => k_is)
    (case ntStretch_tuple => k_is)
    (case subStretch_dict => k_is)
    (case kitStretch_dict => k_is)
    (case ntStretch_dict => k_is)
    (case blStretch => k_is)
    (case aStretch___init__ => k_is)
    (case iStretch___init__ => k_is)
    (case lStretch___init__ => k_is)
    (case cStretch___init__ => k_is)
    (case kStretch___init__ => k_is)
    (case dStretch___init__ => k_is)
    (case aStretch___eq__ => k_is)
    (case iStretch___eq__ => k_is)
    (case lStretch___eq__ => k_is)
    (case cStretch___eq__ => k_is)
    (case kStretch___eq__ => k_is)
    (case aStretch___len__ => k_is)
    (case iStretch___len__ => k_is)
    (case lStretch___len__ => k_is)
    (case cStretch___len__ => k_is)
    (case kStretch___len__ => k_is)
    (case aStretch___str__ => k_is)
    (case iStretch___str__ => k_is)
    (case lStretch___str__ => k_is)
    (case cStretch___str__ => k_is)
    (case kStretch___str__ => k_is)
    (case aStretch___repr__ => k_is)
    (case iStretch___repr__ => k_is)
    (case lStretch___repr__ => k_is)
    (case cStretch___repr__ => k_is)
    (case kStretch___repr__ => k_is)
    (case aNoStretch___init__ => k_is)
    (case iNoStretch___init__ => k_is)
    (case lNoStretch___init__ => k_is)
    (case cNoStretch___init__ => k_is)
    (case kNoStretch___init__ => k_is)
    (case ashow_time => k_is)
    (case lshow_time => k_is)
    (case cshow_time => k_is)
    (case kshow_time => k_is)
    (case a_law_tape => k_is)
    (case l_law_tape => k_is)
    (case c_law_tape => k_is)
    (case k_law_tape => k_is)
    (case a_law_draw => k_is)
    (case l_law_draw => k_is)
    (case c_law_draw => k_is)
    (case k_law_draw => k_is)
    (case a_law_pick => k_is)
    (case l_law_pick => k_is)
    (case c_law_pick => k_is)
    (case k_law_pick => k_is)
    (case a_law_two => k_is)
    (case l_law_two => k_is)
    (case c_law_two => k_is)
    (case k_law_two => k_is)
    (case a_law_time => k_is)
    (case l_law_time => k_is)
    (case c_law_time => k_is)
    (case k_law_time => k_is)
    (case a_law_is_whole => k_is)
    (case l_law_is_whole => k_is)
    (case c_law_is_whole => k_is)
    (case k_law_is_whole => k_is)
    (case a_law_refused => k_is)
    (case l_law_refused => k_is)
    (case c_law_refused => k_is)
    (case k_law_refused => k_is)
    (case a_law_is => k_is)
    (case l_law_is => k_is)
    (case c_law_is => k_is)
    (case k_law_is => k_is)
    (case a_law_pair => k_is)
    (case l_law_pair => k_is)
    (case c_law_pair => k_is)
    (case k_law_pair => k_is)
    (case a_law_near => k_is)
    (case l_law_near => k_is)
    (case c_law_near => k_is)
    (case k_law_near => k_is)
    (case alaw => k_is)
    (case llaw => k_is)
    (case claw => k_is)
    (case klaw => k_is)
    (case aDAY => k_is)
    (case aHOUR => k_is)
    (case zlen => k_is)
    (case zisinstance => k_is)
    (case zmax => k_is)
    (case zmin => k_is)
    (case zrange => k_is)
    (case zstr => k_is)
    (case zrepr => k_is)
    (case zint => k_is)
    (case zbool => k_is)
    (case zlist => k_is)
    (case zdivmod => k_is)
    (case zArithmeticError => k_is)
