import PyProof.Rows.All
import Wide.All
import OpenK.AllK
import Wide.FinOn
import PyProof.FString3
import PyProof.InstNe
import HandS.ForMost
import HandS.FStr
import HandS.StrMore
import HandS.IsInst
import HandS.Codes
import HandS.TryOnly
import HandS.SlotsOwn
import HandS.Defaults
import HandS.MakeKwOnly
import HandS.OwnEq
import KE.KCallOwn
import KE.KFmtOwn
import HandS.Style
import PySem.Challenge.RW_boatbridge_k08_boats_as_objects
set_option Elab.async false
set_option linter.all false
set_option maxRecDepth 100000
namespace Bb
open PySem PySem.Spec PyProof.Rows L2 PySem.W
open C8 (pss_cut)
open TL (tl ext_tl partition_app partition_none)
def topS (i : Nat) : Stmt := PySem.Challenge.pw_boatbridge_k08_boats_as_objects.main.body.getD i (.Pass ⟨0, 0, 0, 0⟩)
/-! ### objects of an own class: their text, ==, !=, whatever stands at the right -/
section
variable {X : Cx} {CX : CXT} {C g : Addr} {n : Nat} {fd : FuncData} {ps : List Str} {sp : Sp} {E : XK}
/-- the callee runs, at whatever place below -/
theorem run_fnA {A : Around} {pins : List (Addr × Obj)} {σ : L2.St} {H : Hp} {s : Shared} {Q : VK} {us : List Value} {vs : List V} (F : FnOk X.prog X.w X.K X.mg X.base CX n g fd ps sp) (hr : Room n A) (e0 : A.frames = X.A.frames) (hb : L2.Binds X.K fd ps [])
    (hx : Passes CX X E) (I : L2.Inv X pins σ H s) (r : Vals vs us) (h : sp vs H Q E) : wpAny (model X.prog X.w) A (call (.ref g) us) (EP X pins σ Q) X.xe s := by
  have hl : (us ++ []).length = ps.length := by rw [List.append_nil, ← r.length]; exact F.len _ _ _ _ h
  have b := hb s us I.kIn hl
  rw [List.append_nil] at b
  have e := I.env0
  have e1 : Env0 X.prog X.w X.K X.mg X.base A X.stack s H := ⟨e0.trans e.frames, e.mod, e.bs, e.bsz, e.funs, e.frf, e.hok, e.bare⟩
  refine wpAny_call (codeAny_mono (F.run A X.stack s H ⟨us, []⟩ us vs Q E hr e1 b r h) fun r s' hq => ?_)
  cases r with
  | error e => exact hx pins σ H s e s' I hq
  | ok fl =>
    cases fl with
    | ret u => exact I.after hq
    | next => exact False.elim hq
    | brk => exact False.elim hq
    | cont => exact False.elim hq
theorem inst_of {pins : List (Addr × Obj)} {σ : L2.St} {H : Hp} {s : Shared} {a dx : Addr} {fs : List (Str × V)} (I : L2.Inv X pins σ H s) (h : H a = some (.ins C dx fs)) : ∃ od, PySem.W.InstAt s.heap a (instObj C dx) C (some od) := by
  obtain ⟨_, O1, _⟩ := ins_get I.hok h
  obtain ⟨od, J, _⟩ := O1.look
  exact ⟨od, J⟩
/-- one text comes back -/
def QStr (Q : VK) : VK := fun z H' => ∃ y : Str, z = .str y ∧ Q z H'
theorem strback {pins : List (Addr × Obj)} {σ : L2.St} {Q : VK} {v : Value} {s' : Shared} (h : EP X pins σ (QStr Q) v s') : StrBack (EP X pins σ Q) v s' := by
  obtain ⟨z, H', I', rz, y, rfl, q⟩ := h
  obtain ⟨t, rfl⟩ := (show ∃ t, v = Value.str y t from rz)
  exact ⟨.str y, H', I', ⟨t, rfl⟩, q⟩
def rOwn1 (C : Addr) (sp : Sp) (E : XK) (W : VK → VK) : List V → Hp → VK → Prop := fun xs H Q => ∃ a dx fs, xs = [V.ref a] ∧ H a = some (.ins C dx fs) ∧ sp [.ref a] H (W Q) E
/-- str(o), by o's own __str__ -/
theorem call_strOwn (hs : PySem.W.findIn X.K (.ref C) "__str__" = some (some (.ref g))) (hf : PySem.W.isFn X.K (.ref g) = true) (F : FnOk X.prog X.w X.K X.mg X.base CX n g fd ps sp) (hb : L2.Binds X.K fd ps [])
    (hr : Room (n + 2) X.A) (hx : Passes CX X E) : CallR X (.type "str") (rOwn1 C sp E QStr) := by
  intro pins s σ H vs us Q I r h
  obtain ⟨a, dx, fs, rfl, ha, q⟩ := h
  obtain ⟨u, rfl, ru⟩ := Vals.one r
  cases (show u = Value.ref a from ru)
  obtain ⟨od, J⟩ := inst_of I ha
  have hr2 : Room n X.A.in1.in1 := hr.in1.in1
  refine PySem.W.kso_call hr2.units0 I.kIn J hs hf ?_
  exact wpAny_mono (run_fnA (A := X.A.in1.in1) (us := [.ref a]) (vs := [.ref a]) F hr2 rfl hb hx I (.cons rfl .nil) q) (fun v s' z => strback z) fun _ _ x => x
/-- repr(o), by o's own __repr__ -/
theorem call_reprOwn (hs : PySem.W.findIn X.K (.ref C) "__repr__" = some (some (.ref g))) (hf : PySem.W.isFn X.K (.ref g) = true) (F : FnOk X.prog X.w X.K X.mg X.base CX n g fd ps sp) (hb : L2.Binds X.K fd ps [])
    (hr : Room (n + 1) X.A) (hx : Passes CX X E) : CallR X (.builtin "repr") (rOwn1 C sp E QStr) := by
  intro pins s σ H vs us Q I r h
  obtain ⟨a, dx, fs, rfl, ha, q⟩ := h
  obtain ⟨u, rfl, ru⟩ := Vals.one r
  cases (show u = Value.ref a from ru)
  obtain ⟨od, J⟩ := inst_of I ha
  have hr2 : Room n X.A.in1 := hr.in1
  obtain ⟨m, hF⟩ := I.fr
  refine PySem.W.repr_K hr2.units0 hF I.ok.mod.kin J hs hf ?_
  exact wpAny_mono (run_fnA (A := X.A.in1) (us := [.ref a]) (vs := [.ref a]) F hr2 rfl hb hx I (.cons rfl .nil) q) (fun v s' z => strback z) fun _ _ x => x
/-- o == y, by o's own __eq__, whatever y is -/
def rOwnY (K : PySem.W.Frag) (C : Addr) (sp : Sp) (E : XK) (W : VK → VK) : R2 := fun x y H Q => ∃ a dx fs t, x = .ref a ∧ H a = some (.ins C dx fs) ∧ TyX K H y t ∧ PySem.W.notFirst K C t = true ∧ sp [x, y] H (W Q) E
theorem op_eqY (hs : PySem.W.findIn X.K (.ref C) "__eq__" = some (some (.ref g))) (hf : PySem.W.isFn X.K (.ref g) = true) (F : FnOk X.prog X.w X.K X.mg X.base CX n g fd ps sp) (hb : L2.Binds X.K fd ps [])
    (hr : Room n X.A) (hx : Passes CX X E) : OpR X (compareOp .Eq) (rOwnY X.K C sp E id) := by
  intro pins s σ H x y v u Q I rx ry h
  obtain ⟨a, dx, fs, t, rfl, ha, ty, hn, q⟩ := h
  cases (show v = Value.ref a from rx)
  obtain ⟨od, J⟩ := inst_of I ha
  obtain ⟨P, Z, p, _⟩ := kit_of I ry ty
  obtain ⟨m, hF⟩ := I.fr
  show wpAny _ _ (richCompare .Eq _ _) _ _ _
  refine PySem.W.cmp_K (op := .Eq) (tb := t) hr.units0 hF I.ok.mod.kin J (Z.ty _ _ I.kIn p) hn hs hf ?_
  refine wpAny_mono (run_fnA (A := X.A) (us := [.ref a, u]) (vs := [.ref a, y]) F hr rfl hb hx I (.cons rfl (.cons ry .nil)) q) (fun w s' z => ?_) fun _ _ x => x
  obtain ⟨z', H', I', rz, qz⟩ := z
  exact SlX.cmpback rz ⟨z', H', I', rz, qz⟩
end
section
variable {prog : Program} {w : World} {A : Around} {E : Value → Shared → Prop} {s : Shared} {K : PySem.W.Frag} {x C f : Addr} {ox : Obj} {od : Option Obj} {b tb : Value}
open PySem.Builtin in
/-- a special method that is a built-in's, where it may be left unbound -/
theorem ifBoundB {name : Str} {id : String} {args : List Value} {Q : Option Value → Shared → Prop} (X : K.In s.heap) (I : PySem.W.InstAt s.heap x ox C od) (hs : PySem.W.findIn K (.ref C) name = some (some (.builtin id)))
    (hb : ∀ self, bindSpecial (.builtin id) self = pure (.builtin id, [self])) (h : wpAny (model prog w) A (call (.builtin id) (.ref x :: args)) (fun v => Q (some v)) E s) : wpAny (model prog w) A (callSpecialIfBound? (.ref x) name args) Q E s := by
  simp only [callSpecialIfBound?, bindSpecialIfBound?]
  refine wpAny_holding (wpAny_bind (wpAny_bind (wpAny_bind (I.type.here ((looks_findIn X hs).here ?_)))))
  refine wpAny_bind (wpAny_askSetting (wpAny_ite ?_))
  have fin : wpAny (model prog w) A (call (.builtin id) ([.ref x] ++ args) >>= fun v => pure (some v)) Q E s := wpAny_bind (wpAny_mono h (fun v s' h' => wpAny_pure h') fun _ _ h' => h')
  split
  · exact wpAny_bind ((Looks.of_pure (hb _)).here (wpAny_pure (by exact fin)))
  · exact wpAny_tryCatch (wpAny_bind ((Looks.of_pure (hb _)).here (wpAny_pure (by exact fin))))
open PySem.Builtin in
theorem objNe {Q : Value → Shared → Prop} (hu : A.in1.units < cLine) (X : K.In s.heap) (I : PySem.W.InstAt s.heap x ox C od) (hm : PySem.W.mroIn K C (.type "object") = some true) (hs : PySem.W.findIn K (.ref C) "__eq__" = some (some (.ref f))) (hf : PySem.W.isFn K (.ref f) = true)
    (h : wpAny (model prog w) A.in1 (call (.ref f) [.ref x, b]) (fun v s' => ∃ k, v = .bool k ∧ Q (.bool (!k)) s') E s) : wpAny (model prog w) A (call (.builtin "object.__ne__") [.ref x, b]) Q E s := by
  refine wpAny_call (codeAny_call_builtin (by decide +kernel) PySem.F.cmpEntry_ne (check_slot (i := "object.__ne__") (owner := "object") (n := "__ne__") (by decide +kernel) (by decide +kernel) (I.type.andThen (looks_mroIn X hm)) (PySem.F.cmpArgs_ne _ _) ?_))
  unfold Builtin.«object.__ne__»
  refine wpAny_bind (m := slotArgs "__ne__" 1 _) (wpAny_pure ?_)
  refine wpAny_bind (m := cRoomFor _ _) (wpAny_cRoomFor hu ?_)
  refine wpAny_bind (m := callSpecialIfBound? (.ref x) (Str.ofString "__eq__") _) (ifBound_K X I hs hf (wpAny_mono h (fun r s' hq => ?_) fun _ _ y => y))
  obtain ⟨k, rfl, hq⟩ := hq
  exact wpAny_bind (wpAny_truthy_bool (wpAny_pure hq))
/-- o != y, where the class says == alone -/
theorem ne_K {Q : Value → Shared → Prop} (hu : A.in1.units < cLine) (hu0 : A.units < cLine) (X : K.In s.heap) (I : PySem.W.InstAt s.heap x ox C od) (hb : Looks (model prog w) s.heap (typeOf b) tb) (hn : PySem.W.notFirst K C tb = true)
    (hm : PySem.W.mroIn K C (.type "object") = some true) (hne : PySem.W.findIn K (.ref C) "__ne__" = some (some (.builtin "object.__ne__"))) (hs : PySem.W.findIn K (.ref C) "__eq__" = some (some (.ref f))) (hf : PySem.W.isFn K (.ref f) = true)
    (h : wpAny (model prog w) A.in1 (call (.ref f) [.ref x, b]) (fun v s' => ∃ k, v = .bool k ∧ Q (.bool (!k)) s') E s) : wpAny (model prog w) A (richCompare .NotEq (.ref x) b) Q E s := by
  have one : wpAny (model prog w) A (tryCompare (.ref x) "__ne__" b) (fun r s' => ∃ v, r = some v ∧ Q v s') E s := by
    unfold tryCompare
    refine wpAny_bind (ifBoundB X I hne (by intro self; rfl) (objNe hu X I hm hs hf (wpAny_mono h (fun v s' hv => ?_) fun _ _ e => e)))
    obtain ⟨k, rfl, q⟩ := hv
    exact ⟨k, rfl, wpAny_pure ⟨_, rfl, q⟩⟩
  unfold richCompare
  simp only [oneThing_ref]
  refine wpAny_holding (wpAny_bind (wpAny_cRoomFor hu0 ?_))
  refine wpAny_bind (I.type.here (wpAny_bind (hb.here ?_)))
  split
  · rename_i q
    have e : PySem.W.subIn K tb (.ref C) = some false := by
      rcases Bool.or_eq_true_iff.mp hn with e | e
      · rw [beq_iff_eq.mp e] at q; simp at q
      · exact beq_iff_eq.mp e
    refine wpAny_bind ((looks_subIn X e).here ?_)
    simp only [Bool.false_eq_true, if_false]
    refine wpAny_bind (wpAny_mono one (fun r s' z => ?_) fun _ _ e => e)
    obtain ⟨v, rfl, hq⟩ := z
    exact wpAny_pure hq
  · refine wpAny_bind (wpAny_pure ?_)
    simp only [Bool.false_eq_true, if_false]
    refine wpAny_bind (wpAny_mono one (fun r s' z => ?_) fun _ _ e => e)
    obtain ⟨v, rfl, hq⟩ := z
    exact wpAny_pure hq
end
section
variable {X : Cx} {CX : CXT} {C g : Addr} {n : Nat} {fd : FuncData} {ps : List Str} {sp : Sp} {E : XK}
def QNot (Q : VK) : VK := fun z H' => ∃ k : Bool, z = .bl k ∧ Q (.bl (!k)) H'
theorem op_neY (hs : PySem.W.findIn X.K (.ref C) "__eq__" = some (some (.ref g))) (hf : PySem.W.isFn X.K (.ref g) = true) (hm : PySem.W.mroIn X.K C (.type "object") = some true) (hne : PySem.W.findIn X.K (.ref C) "__ne__" = some (some (.builtin "object.__ne__")))
    (F : FnOk X.prog X.w X.K X.mg X.base CX n g fd ps sp) (hb : L2.Binds X.K fd ps []) (hr : Room (n + 1) X.A) (hx : Passes CX X E) : OpR X (compareOp .NotEq) (rOwnY X.K C sp E QNot) := by
  intro pins s σ H x y v u Q I rx ry h
  obtain ⟨a, dx, fs, t, rfl, ha, ty, hn, q⟩ := h
  cases (show v = Value.ref a from rx)
  obtain ⟨od, J⟩ := inst_of I ha
  obtain ⟨P, Z, p, _⟩ := kit_of I ry ty
  show wpAny _ _ (richCompare .NotEq _ _) _ _ _
  have hr2 : Room n X.A.in1 := hr.in1
  refine ne_K (tb := t) hr2.units0 hr.units0 I.kIn J (Z.ty _ _ I.kIn p) hn hm hne hs hf ?_
  refine wpAny_mono (run_fnA (A := X.A.in1) (us := [.ref a, u]) (vs := [.ref a, y]) F hr2 rfl hb hx I (.cons rfl (.cons ry .nil)) q) (fun w s' z => ?_) fun _ _ x => x
  obtain ⟨z', H', I', rz, k, rfl, qz⟩ := z
  cases (show w = Value.bool k from rz)
  exact ⟨k, rfl, .bl (!k), H', I', rfl, qz⟩
end
/-! ### == with the object at the right: the left one's kind declines, the object's own is asked -/
section
variable {prog : Program} {w : World} {A : Around} {E : Value → Shared → Prop} {s : Shared} {K : PySem.W.Frag} {x C f : Addr} {dx : Addr} {od : Option Obj}
open PySem.Builtin
theorem int_decl (b : Int) (u : Tok) : Meets (Builtin.«int.__eq__» ⟨[.int b u, .ref x], []⟩) (fun _ R s => s.heap.get? x = some (instObj C dx) ∧ R (.ok (.ret .notImplemented)) s) :=
  .of_wp fun prog w A R s h => by obtain ⟨hp, g, d, tk, os⟩ := s; obtain ⟨hl, h⟩ := h; wp_walk using AutoSeq1.wpAny_loadPart' hl, wpAny_load hl; exact ⟨_, rfl, h⟩
theorem str_decl (b : Str) (u : Tok) : Meets (Builtin.«str.__eq__» ⟨[.str b u, .ref x], []⟩) (fun _ R s => s.heap.get? x = some (instObj C dx) ∧ R (.ok (.ret .notImplemented)) s) :=
  .of_wp fun prog w A R s h => by obtain ⟨hp, g, d, tk, os⟩ := s; obtain ⟨hl, h⟩ := h; wp_walk using AutoSeq1.wpAny_loadPart' hl, wpAny_load hl; exact ⟨_, rfl, h⟩
theorem none_decl : Meets (Builtin.«NoneType.__eq__» ⟨[.none, .ref x], []⟩) (fun _ R s => s.heap.get? x = some (instObj C dx) ∧ R (.ok (.ret .notImplemented)) s) :=
  .of_wp fun prog w A R s h => by obtain ⟨hp, g, d, tk, os⟩ := s; obtain ⟨hl, h⟩ := h; wp_walk; exact ⟨_, rfl, h⟩
theorem list_decl {l : Addr} {Q : Fin → Shared → Prop} (hi : Looks (model prog w) s.heap (isInstance (.ref x) (.type "list")) false) (h : Q (.done (.ret .notImplemented)) s) :
    wpAny (model prog w) A (Builtin.«list.__eq__» ⟨[.ref l, .ref x], []⟩) Q E s := by
  refine wpAny_bind (m := slotArgs "__eq__" 1 _) (wpAny_pure ?_)
  refine wpAny_bind (hi.here ?_)
  exact wpAny_pure h
theorem tuple_decl {l : Addr} {Q : Fin → Shared → Prop} (hi : Looks (model prog w) s.heap (isInstance (.ref x) (.type "tuple")) false) (h : Q (.done (.ret .notImplemented)) s) :
    wpAny (model prog w) A (Builtin.«tuple.__eq__» ⟨[.ref l, .ref x], []⟩) Q E s := by
  refine wpAny_bind (m := slotArgs "__eq__" 1 _) (wpAny_pure ?_)
  refine wpAny_bind (hi.here ?_)
  exact wpAny_pure h
/-- the left one declines -/
def Declines (prog : Program) (w : World) (A : Around) (E : Value → Shared → Prop) (a b : Value) (s : Shared) : Prop :=
  ∀ Q : Option Value → Shared → Prop, Q none s → wpAny (model prog w) A (tryCompare a "__eq__" b) Q E s
theorem decl_of {T id : String} {B : Builtin} {a b : Value} (hT : s.TypeIs a T) (slot : Slot T (cmpInfo .Eq).2.1 id) (entry : entryFor table id = some B) (args : argsOk id ⟨[a, b], []⟩)
    (h : ∀ Q : Fin → Shared → Prop, Q (.done (.ret .notImplemented)) s → wpAny (model prog w) A.in1 (B ⟨[a, b], []⟩) Q E s) : Declines prog w A E a b s := fun Q q =>
  wpAny_tryCompare_declines hT slot (GQ.call_here slot hT entry args (h _ ⟨rfl, q⟩))
theorem decl_ofM {T id : String} {B : Builtin} {a b : Value} {P : Shared → Prop} (hT : s.TypeIs a T) (slot : Slot T (cmpInfo .Eq).2.1 id) (entry : entryFor table id = some B) (args : argsOk id ⟨[a, b], []⟩)
    (m : Meets (B ⟨[a, b], []⟩) (fun _ R s => P s ∧ R (.ok (.ret .notImplemented)) s)) (hP : P s) : Declines prog w A E a b s := fun Q q =>
  wpAny_tryCompare_declines hT slot (GQ.call_here slot hT entry args (m prog w A (wants (fun v s' => v = .notImplemented ∧ Q none s') E) s ⟨hP, rfl, q⟩))
theorem refl_K {a ta : Value} {T : String} {Q : Value → Shared → Prop} (hu : A.units < cLine) (X : K.In s.heap) (I : PySem.W.InstAt s.heap x (instObj C dx) C od) (hT : s.TypeIs a T) (hsub : PySem.W.subIn K (.ref C) (.type T) = some false)
    (d : Declines prog w A E a (.ref x) s) (hs : PySem.W.findIn K (.ref C) "__eq__" = some (some (.ref f))) (hf : PySem.W.isFn K (.ref f) = true)
    (h : wpAny (model prog w) A (call (.ref f) [.ref x, a]) (PySem.W.CmpBack Q) E s) : wpAny (model prog w) A (richCompare .Eq a (.ref x)) Q E s := by
  have one : wpAny (model prog w) A (tryCompare (.ref x) "__eq__" a) (fun r s' => ∃ v, r = some v ∧ Q v s') E s := by
    unfold tryCompare
    refine wpAny_bind (ifBound_K X I hs hf (wpAny_mono h (fun v s' hv => ?_) fun _ _ e => e))
    cases v <;> first | exact hv.elim | exact wpAny_pure ⟨_, rfl, hv⟩
  simp only [richCompare, cmpInfo, hT.oneThing_none]
  try with_reducible refine wpAny_holding ?_
  refine wpAny_bind (wpAny_cRoomFor hu ?_)
  refine wpAny_bind (wpAny_typeOf hT (wpAny_bind (I.type.here ?_)))
  rw [show (Value.type T != Value.ref C) = true from rfl]
  simp only [if_true]
  refine wpAny_bind ((looks_subIn X hsub).here ?_)
  simp only [Bool.false_eq_true, if_false, Bool.not_false, if_true]
  refine wpAny_bind (m := tryCompare a _ _) (d _ ?_)
  refine wpAny_bind (m := tryCompare (.ref x) _ _) (wpAny_mono one (fun r s' z => ?_) fun _ _ e => e)
  obtain ⟨v, rfl, hq⟩ := z
  exact wpAny_pure hq
end
section
variable {prog : Program} {w : World} {A : Around} {E : Value → Shared → Prop} {s : Shared} {x : Addr}
open PySem.Builtin
theorem dict_decl {l : Addr} {Q : Fin → Shared → Prop} (hi : Looks (model prog w) s.heap (isInstance (.ref x) (.type "dict")) false) (h : Q (.done (.ret .notImplemented)) s) :
    wpAny (model prog w) A (Builtin.«dict.__eq__» ⟨[.ref l, .ref x], []⟩) Q E s := by
  refine wpAny_bind (m := Dict.dictSlotArgs "__eq__" _) (wpAny_pure ?_)
  refine wpAny_bind (hi.here ?_)
  exact wpAny_bind (wpAny_rule (wpAny_pure h))
end
section
variable {X : Cx} {CX : CXT} {C g : Addr} {n : Nat} {fd : FuncData} {ps : List Str} {sp : Sp} {E : XK}
/-- what may stand at the left of such an object -/
inductive LeftOk (H : Hp) : V → Prop where
  | non : LeftOk H .non
  | int (i : Int) : LeftOk H (.int i)
  | str (z : Str) : LeftOk H (.str z)
  | lst {p : Addr} {xs : List V} (h : H p = some (.lst xs)) : LeftOk H (.ref p)
  | tup {p : Addr} {xs : List V} (h : H p = some (.tup xs)) : LeftOk H (.ref p)
  | dK {p : Addr} {kvs : List (Key × V)} (h : H p = some (.dK kvs)) : LeftOk H (.ref p)
/-- the class is under none of Python's -/
structure NotSub (K : PySem.W.Frag) (C : Addr) : Prop where
  non : PySem.W.subIn K (.ref C) (.type "NoneType") = some false
  int : PySem.W.subIn K (.ref C) (.type "int") = some false
  str : PySem.W.subIn K (.ref C) (.type "str") = some false
  lst : PySem.W.subIn K (.ref C) (.type "list") = some false
  tup : PySem.W.subIn K (.ref C) (.type "tuple") = some false
  dct : PySem.W.subIn K (.ref C) (.type "dict") = some false
def rOwnR (C : Addr) (sp : Sp) (E : XK) : R2 := fun x y H Q => ∃ a dx fs, y = .ref a ∧ H a = some (.ins C dx fs) ∧ LeftOk H x ∧ sp [y, x] H Q E
theorem op_eqR (hs : PySem.W.findIn X.K (.ref C) "__eq__" = some (some (.ref g))) (hf : PySem.W.isFn X.K (.ref g) = true) (N : NotSub X.K C) (G : FnOk X.prog X.w X.K X.mg X.base CX n g fd ps sp) (hb : L2.Binds X.K fd ps [])
    (hr : Room n X.A) (hx : Passes CX X E) : OpR X (compareOp .Eq) (rOwnR C sp E) := by
  intro pins s σ H x y v u Q I rx ry h
  obtain ⟨a, dx, fs, rfl, ha, lo, q⟩ := h
  cases (show u = Value.ref a from ry)
  obtain ⟨od, J⟩ := inst_of I ha
  have hx0 : s.heap.get? a = some (instObj C dx) := J.at_
  show wpAny _ _ (richCompare .Eq _ _) _ _ _
  have fin : wpAny (model X.prog X.w) X.A (call (.ref g) [.ref a, v]) (PySem.W.CmpBack (EP X pins σ Q)) X.xe s :=
    wpAny_mono (run_fnA (A := X.A) (us := [.ref a, v]) (vs := [.ref a, x]) G hr rfl hb hx I (.cons rfl (.cons rx .nil)) q) (fun w s' z => by obtain ⟨z', H', I', rz, qz⟩ := z; exact SlX.cmpback rz ⟨z', H', I', rz, qz⟩) fun _ _ x => x
  have isI : ∀ T : String, PySem.W.subIn X.K (.ref C) (.type T) = some false → Looks (model X.prog X.w) s.heap (isInstance (.ref a) (.type T)) false := fun T e => J.type.andThen (looks_subIn I.kIn e)
  cases lo with
  | non =>
    cases (show v = Value.none from rx)
    exact refl_K (T := "NoneType") (ta := .none) hr.units0 I.kIn J rfl N.non (decl_ofM rfl F.slot_NoneType_eq F.entry_NoneType_eq (F.args_NoneType_eq_2 _ _) none_decl hx0) hs hf fin
  | int i =>
    obtain ⟨t, rfl⟩ := (show ∃ t, v = Value.int i t from rx)
    exact refl_K (T := "int") (ta := .none) hr.units0 I.kIn J (typeIs_int _ _ _) N.int (decl_ofM (typeIs_int _ _ _) F.slot_int_eq F.entry_int_eq (F.args_int_eq_2 _ _) (int_decl _ _) hx0) hs hf fin
  | str z =>
    obtain ⟨t, rfl⟩ := (show ∃ t, v = Value.str z t from rx)
    exact refl_K (T := "str") (ta := .none) hr.units0 I.kIn J (typeIs_str _ _ _) N.str (decl_ofM (typeIs_str _ _ _) F.slot_str_eq F.entry_str_eq (F.args_str_eq_2 _ _) (str_decl _ _) hx0) hs hf fin
  | @lst p xs h =>
    cases (show v = Value.ref p from rx)
    obtain ⟨_, its, k, _, hp⟩ := (show ObjOk X.prog X.w H s.heap p (.lst xs) from I.hok p _ h)
    have hT : s.TypeIs (.ref p) "list" := ⟨_, hp, rfl⟩
    exact refl_K (T := "list") (ta := .none) hr.units0 I.kIn J hT N.lst (decl_of hT F.slot_list_eq F.entry_list_eq (F.args_list_eq_2 _ _) fun Q' q' => list_decl (isI _ N.lst) q') hs hf fin
  | @tup p xs h =>
    cases (show v = Value.ref p from rx)
    obtain ⟨_, its, _, o, h1, h2, _⟩ := (show ObjOk X.prog X.w H s.heap p (.tup xs) from I.hok p _ h)
    have hT : s.TypeIs (.ref p) "tuple" := ⟨_, h1, h2⟩
    exact refl_K (T := "tuple") (ta := .none) hr.units0 I.kIn J hT N.tup (decl_of hT F.slot_tuple_eq F.entry_tuple_eq (F.args_tuple_eq_2 _ _) fun Q' q' => tuple_decl (isI _ N.tup) q') hs hf fin
  | @dK p kvs h =>
    cases (show v = Value.ref p from rx)
    obtain ⟨_, _, vs, _, o, es, ep, h1, h2, _⟩ := (show ObjOk X.prog X.w H s.heap p (.dK kvs) from I.hok p _ h)
    have hT : s.TypeIs (.ref p) "dict" := ⟨_, h1, h2.1⟩
    exact refl_K (T := "dict") (ta := .none) hr.units0 I.kIn J hT N.dct (decl_of hT F.slot_dict_eq F.entry_dict_eq (F.args_dict_eq_2 _ _) fun Q' q' => dict_decl (isI _ N.dct) q') hs hf fin
end
/-! ### in, count, index over a list, each == by the object's own -/
section
open SeqAt AutoSeq1 MeetsSeq MeetsSeq2 MeetsSeq3 SeqRoads2
open PySem.Builtin
variable {prog : Program} {w : World} {A : Around} {R : Result → Shared → Prop}
/-- at each turn the list is read anew, the turn's == gives bs i -/
def LoopB (prog : Program) (w : World) (A : Around) (E : Value → Shared → Prop) (l : Addr) (x : Value) (N : Nat) (bs : Nat → Bool) (I : Nat → Shared → Prop) : Prop :=
  ∀ i s, I i s → ∃ (items : Array Value) (n : Nat), s.heap.get? l = some { cls := .type "list", data := .seq items n } ∧ items.size = N ∧
    ∀ (h1 : i < items.size), wpAny (model prog w) A.in1 (eqBool items[i] x) (fun r s' => r = bs i ∧ I (i + 1) s') E s
def cntB (bs : Nat → Bool) : Nat → Nat → Int
  | 0, _ => 0
  | k + 1, i => (if bs i then 1 else 0) + cntB bs k (i + 1)
theorem count_loopG (l : Addr) (x : Value) (N : Nat) (bs : Nat → Bool) (I : Nat → Shared → Prop) (hl : LoopB prog w A (fun e s' => R (.error e) s') l x N bs I) (k : Nat) :
    ∀ (i : Nat) (found : Int), N - i = k → i ≤ N → ∀ s, I i s → (∀ s, I N s → R (.ok (.ret (.int (found + cntB bs k i) s.toks))) { s with toks := s.toks + 1 }) →
      wpAny (model prog w) A.in1 (Builtin.«list.count.loop» ⟨[.ref l, x, rawInt i, rawInt found], []⟩) (GQ.FinOf prog w A R) (fun e s' => R (.error e) s') s := by
  induction k with
  | zero =>
    intro i found hk hi s h fin
    obtain ⟨items, n, hl1, hs1, _⟩ := hl _ _ h
    have hi' : i = N := by omega
    have hR := fin s (hi' ▸ h)
    obtain ⟨hp, g, d, tk, os⟩ := s
    wp_walk using wpAny_loadPart' hl1
    have hi1 : items[((i : Nat) : Int).toNat]? = none := by simp; omega
    rw [hi1]
    wp_walk
    have e0 : found + cntB bs 0 i = found := by show found + 0 = found; omega
    rw [e0] at hR
    exact hR
  | succ k ih =>
    intro i found hk hi s h fin
    obtain ⟨items, n, hl1, hs1, turn⟩ := hl _ _ h
    have hlt : i < items.size := by omega
    have ht := turn hlt
    obtain ⟨hp, g, d, tk, os⟩ := s
    wp_walk using wpAny_loadPart' hl1
    have hi1 : items[((i : Nat) : Int).toNat]? = some items[i] := by simp [hlt]
    have hc : ((i : Int) + 1) = ((i + 1 : Nat) : Int) := by omega
    rw [hi1]
    refine wpAny_bind (wpAny_mono ht (fun r s2 h2 => ?_) fun _ _ x => x)
    obtain ⟨hr, h2⟩ := h2
    subst hr
    have e1 : (if bs i = true then found + 1 else found) + cntB bs k (i + 1) = found + cntB bs (k + 1) i := by
      show _ = found + ((if bs i then 1 else 0) + cntB bs k (i + 1))
      cases bs i <;> simp <;> omega
    have hrec := ih (i + 1) (if bs i = true then found + 1 else found) (by omega) (by omega) s2 h2 (fun s q => by rw [e1]; exact fin s q)
    obtain ⟨hp2, g2, d2, tk2, os2⟩ := s2
    wp_walk
    rw [hc]
    refine ⟨plainId_quiet plain_count_loop _, codeAny_builtin entry_count_loop (by
      rw [Around.under_plainId plain_count_loop _]

      exact hrec)⟩
end
section
open SeqAt AutoSeq1 MeetsSeq MeetsSeq2 MeetsSeq3 SeqRoads2
open PySem.Builtin
variable {prog : Program} {w : World} {A : Around} {R : Result → Shared → Prop}
theorem list_countG (l : Addr) (x : Value) (N : Nat) (bs : Nat → Bool) (I : Nat → Shared → Prop) (hl : LoopB prog w A (fun e s' => R (.error e) s') l x N bs I) {s : Shared} (h : I 0 s)
    (fin : ∀ s, I N s → R (.ok (.ret (.int (cntB bs N 0) s.toks))) { s with toks := s.toks + 1 }) :
    wpAny (model prog w) A.in1 (Builtin.«list.count» ⟨[.ref l, x], []⟩) (GQ.FinOf prog w A R) (fun e s' => R (.error e) s') s := by
  obtain ⟨items, n, hl1, hs1, _⟩ := hl _ _ h
  have hrec := count_loopG (A := A) (R := R) l x N bs I hl N 0 0 rfl (Nat.zero_le _) s h (fun s q => by rw [Int.zero_add]; exact fin s q)
  obtain ⟨hp, g, d, tk, os⟩ := s
  wp_walk using wpAny_loadPart' hl1
  exact ⟨plainId_quiet plain_count_loop _, codeAny_builtin entry_count_loop (by
    rw [Around.under_plainId plain_count_loop _]
    exact hrec)⟩
theorem index_loopG (l : Addr) (x : Value) (N : Nat) (bs : Nat → Bool) (I : Nat → Shared → Prop) (hl : LoopB prog w A (fun e s' => R (.error e) s') l x N bs I) (upto : Int) (j : Nat) (hj : j < N) (hupto : (j : Int) < upto) (hit : bs j = true)
    (fin : ∀ s, I (j + 1) s → R (.ok (.ret (.int j s.toks))) { s with toks := s.toks + 1 }) (k : Nat) :
    ∀ i : Nat, j - i = k → i ≤ j → (∀ m, i ≤ m → m < j → bs m = false) → ∀ s, I i s →
      wpAny (model prog w) A.in1 (Builtin.«list.index.loop» ⟨[.ref l, x, rawInt i, rawInt upto], []⟩) (GQ.FinOf prog w A R) (fun e s' => R (.error e) s') s := by
  induction k with
  | zero =>
    intro i hk hij hno s h
    have hij' : i = j := by omega
    subst hij'
    obtain ⟨items, n, hl1, hs1, turn⟩ := hl _ _ h
    have hlt : i < items.size := by omega
    have ht := turn hlt
    obtain ⟨hp, g, d, tk, os⟩ := s
    wp_walk using wpAny_loadPart' hl1
    have hi : (if (i : Int) < upto then items[((i : Nat) : Int).toNat]? else none) = some items[i] := by simp [hupto, hlt]
    rw [hi]
    refine wpAny_bind (wpAny_mono ht (fun r s2 h2 => ?_) fun _ _ x => x)
    obtain ⟨hr, h2⟩ := h2
    subst hr
    rw [hit]
    have hR := fin s2 h2
    obtain ⟨hp2, g2, d2, tk2, os2⟩ := s2
    wp_walk
    exact hR
  | succ k ih =>
    intro i hk hij hno s h
    obtain ⟨items, n, hl1, hs1, turn⟩ := hl _ _ h
    have hlt : i < items.size := by omega
    have hst : (i : Int) < upto := by omega
    have ht := turn hlt
    obtain ⟨hp, g, d, tk, os⟩ := s
    wp_walk using wpAny_loadPart' hl1
    have hi : (if (i : Int) < upto then items[((i : Nat) : Int).toNat]? else none) = some items[i] := by simp [hst, hlt]
    have hc : ((i : Int) + 1) = ((i + 1 : Nat) : Int) := by omega
    rw [hi]
    refine wpAny_bind (wpAny_mono ht (fun r s2 h2 => ?_) fun _ _ x => x)
    obtain ⟨hr, h2⟩ := h2
    subst hr
    rw [hno i (Nat.le_refl _) (by omega)]
    have hrec := ih (i + 1) (by omega) (by omega) (fun m h1 h2 => hno m (by omega) h2) s2 h2
    obtain ⟨hp2, g2, d2, tk2, os2⟩ := s2
    wp_walk
    rw [hc]
    exact ⟨plainId_quiet plain_index_loop _, codeAny_builtin entry_index_loop (by
      rw [Around.under_plainId plain_index_loop _]
      exact hrec)⟩
theorem list_indexG (l : Addr) (x : Value) (N : Nat) (bs : Nat → Bool) (I : Nat → Shared → Prop) (hl : LoopB prog w A (fun e s' => R (.error e) s') l x N bs I) (j : Nat) (hj : j < N) (hsmall : (j : Int) < 2 ^ 63 - 1) (hit : bs j = true) (hno : ∀ m, m < j → bs m = false)
    (fin : ∀ s, I (j + 1) s → R (.ok (.ret (.int j s.toks))) { s with toks := s.toks + 1 }) {s : Shared} (h : I 0 s) :
    wpAny (model prog w) A.in1 (Builtin.«list.index» ⟨[.ref l, x], []⟩) (GQ.FinOf prog w A R) (fun e s' => R (.error e) s') s := by
  obtain ⟨items, n, hl1, hs1, _⟩ := hl _ _ h
  have hrec := index_loopG (A := A) (R := R) l x N bs I hl (2 ^ 63 - 1) j hj hsmall hit fin j 0 (by omega) (Nat.zero_le _) (fun m _ h2 => hno m h2) s h
  obtain ⟨hp, g, d, tk, os⟩ := s
  wp_walk using wpAny_loadPart' hl1
  have a1 : ((fun i : Int => if i < 0 then max 0 (i + (items.size : Int)) else i) ((none : Option Int).getD 0)) = ((0 : Nat) : Int) := by simp
  have a2 : ((fun i : Int => if i < 0 then max 0 (i + (items.size : Int)) else i) ((none : Option Int).getD (2 ^ 63 - 1))) = 2 ^ 63 - 1 := by simp
  rw [a1, a2]
  exact ⟨plainId_quiet plain_index_loop _, codeAny_builtin entry_index_loop (by
    rw [Around.under_plainId plain_index_loop _]
    exact hrec)⟩
theorem contains_loopG (l : Addr) (x : Value) (N : Nat) (bs : Nat → Bool) (I : Nat → Shared → Prop) (hl : LoopB prog w A (fun e s' => R (.error e) s') l x N bs I) (j : Nat) (hj : j < N) (hit : bs j = true)
    (fin : ∀ s, I (j + 1) s → R (.ok (.ret (.bool true))) s) (k : Nat) :
    ∀ i : Nat, j - i = k → i ≤ j → (∀ m, i ≤ m → m < j → bs m = false) → ∀ s, I i s →
      wpAny (model prog w) A.in1 (Builtin.«list.__contains__.loop» ⟨[.ref l, x, rawInt i], []⟩) (GQ.FinOf prog w A R) (fun e s' => R (.error e) s') s := by
  induction k with
  | zero =>
    intro i hk hij hno s h
    have hij' : i = j := by omega
    subst hij'
    obtain ⟨items, n, hl1, hs1, turn⟩ := hl _ _ h
    have hlt : i < items.size := by omega
    have ht := turn hlt
    obtain ⟨hp, g, d, tk, os⟩ := s
    wp_walk using wpAny_loadPart' hl1
    have hi : items[((i : Nat) : Int).toNat]? = some items[i] := by simp [hlt]
    rw [hi]
    refine wpAny_bind (wpAny_mono ht (fun r s2 h2 => ?_) fun _ _ x => x)
    obtain ⟨hr, h2⟩ := h2
    subst hr
    rw [hit]
    have hR := fin s2 h2
    obtain ⟨hp2, g2, d2, tk2, os2⟩ := s2
    wp_walk
    exact hR
  | succ k ih =>
    intro i hk hij hno s h
    obtain ⟨items, n, hl1, hs1, turn⟩ := hl _ _ h
    have hlt : i < items.size := by omega
    have ht := turn hlt
    obtain ⟨hp, g, d, tk, os⟩ := s
    wp_walk using wpAny_loadPart' hl1
    have hi : items[((i : Nat) : Int).toNat]? = some items[i] := by simp [hlt]
    have hc : ((i : Int) + 1) = ((i + 1 : Nat) : Int) := by omega
    rw [hi]
    refine wpAny_bind (wpAny_mono ht (fun r s2 h2 => ?_) fun _ _ x => x)
    obtain ⟨hr, h2⟩ := h2
    subst hr
    rw [hno i (Nat.le_refl _) (by omega)]
    have hrec := ih (i + 1) (by omega) (by omega) (fun m h1 h2 => hno m (by omega) h2) s2 h2
    obtain ⟨hp2, g2, d2, tk2, os2⟩ := s2
    wp_walk
    rw [hc]
    exact ⟨plainId_quiet plain_contains_loop _, codeAny_builtin entry_contains_loop (by
      rw [Around.under_plainId plain_contains_loop _]
      exact hrec)⟩
theorem list_containsG (l : Addr) (x : Value) (N : Nat) (bs : Nat → Bool) (I : Nat → Shared → Prop) (hl : LoopB prog w A (fun e s' => R (.error e) s') l x N bs I) (j : Nat) (hj : j < N) (hit : bs j = true) (hno : ∀ m, m < j → bs m = false)
    (fin : ∀ s, I (j + 1) s → R (.ok (.ret (.bool true))) s) {s : Shared} (h : I 0 s) :
    wpAny (model prog w) A.in1 (Builtin.«list.__contains__» ⟨[.ref l, x], []⟩) (GQ.FinOf prog w A R) (fun e s' => R (.error e) s') s := by
  obtain ⟨items, n, hl1, hs1, _⟩ := hl _ _ h
  have hrec := contains_loopG (A := A) (R := R) l x N bs I hl j hj hit fin j 0 (by omega) (Nat.zero_le _) (fun m _ h2 => hno m h2) s h
  obtain ⟨hp, g, d, tk, os⟩ := s
  wp_walk using wpAny_loadPart' hl1
  exact ⟨plainId_quiet plain_contains_loop _, codeAny_builtin entry_contains_loop (by
    rw [Around.under_plainId plain_contains_loop _]
    exact hrec)⟩
end
section
open SeqAt
variable {X : Cx} {CX : CXT} {C g : Addr} {n : Nat} {fd : FuncData} {ps : List Str} {sp : Sp} {E : XK}
/-- what an own == tells: (x, y) are known, the answer is b, only new objects come -/
def EqB (X : Cx) (n : Nat) (D : V → V → Hp → Bool → Prop) : Prop :=
  ∀ (A : Around) (pins : List (Addr × Obj)) (s : Shared) (σ : L2.St) (H : Hp) (x y : V) (u v : Value) (b : Bool), L2.Sub X n A → L2.Inv X pins σ H s → RelV x u → RelV y v → D x y H b →
    wpAny (model X.prog X.w) A (eqBool u v) (fun r s' => r = b ∧ ∃ H', L2.Inv X pins σ H' s' ∧ Same H H') X.xe s
/-- the promise of such an __eq__ -/
def spEqB (D : V → V → Hp → Bool → Prop) : Sp := fun vs H Q _ => ∃ (x y : V) (b : Bool), vs = [x, y] ∧ D x y H b ∧ ∀ H', Same H H' → Q (.bl b) H'
/-- both are objects of the class; of one and itself the answer is True -/
structure DOk (C : Addr) (D : V → V → Hp → Bool → Prop) : Prop where
  ins : ∀ x y H b, D x y H b → ∃ a dx fs a' dx' fs', x = .ref a ∧ H a = some (.ins C dx fs) ∧ y = .ref a' ∧ H a' = some (.ins C dx' fs')
  self : ∀ x H b, D x x H b → b = true
  mono : ∀ x y H H' b, Same H H' → D x y H b → D x y H' b
theorem eqB_ins {D : V → V → Hp → Bool → Prop} (O : DOk C D) (hs : PySem.W.findIn X.K (.ref C) "__eq__" = some (some (.ref g))) (hf : PySem.W.isFn X.K (.ref g) = true) (hn : PySem.W.notFirst X.K C (.ref C) = true)
    (F : FnOk X.prog X.w X.K X.mg X.base CX n g fd ps (spEqB D)) (hb : L2.Binds X.K fd ps []) (hx : Passes CX X E0) : EqB X n D := by
  intro A pins s σ H x y u v b sb I rx ry d
  obtain ⟨a, dx, fs, a', dx', fs', rfl, ha, rfl, ha'⟩ := O.ins x y H b d
  cases (show u = Value.ref a from rx)
  cases (show v = Value.ref a' from ry)
  by_cases e : a = a'
  · subst e
    have e2 := O.self _ _ _ d
    subst e2
    unfold eqBool
    refine wpAny_holding ?_
    simp only [beq_self_eq_true, if_true]
    refine wpAny_bind (wpAny_rule (wpAny_pure ?_))
    exact ⟨rfl, H, I, fun _ _ e => e⟩
  · obtain ⟨od, J⟩ := inst_of I ha
    obtain ⟨od', J'⟩ := inst_of I ha'
    obtain ⟨m, hF⟩ := I.fr
    refine GQ.eqBool_refG e (PySem.W.cmp_K (op := .Eq) (tb := .ref C) sb.room.units0 hF I.ok.mod.kin J J'.type hn hs hf ?_)
    refine wpAny_mono (run_fnA (A := A) (us := [.ref a, .ref a']) (vs := [.ref a, .ref a']) (Q := fun z H' => z = .bl b ∧ Same H H') F sb.room sb.fr hb hx I (.cons rfl (.cons rfl .nil)) ⟨_, _, b, rfl, d, fun H' k => ⟨rfl, k⟩⟩) (fun w s' z => ?_) fun _ _ x => x
    obtain ⟨z', H', I', rz, rfl, k⟩ := z
    cases (show w = Value.bool b from rz)
    exact ⟨b, rfl, rfl, H', I', k⟩
theorem loopB_of {D : V → V → Hp → Bool → Prop} (O : DOk C D) (e : EqB X n D) {A : Around} (sb : L2.Sub X (n + 1) A) {pins : List (Addr × Obj)} {σ : L2.St} {H : Hp} {l : Addr} {xs : List V} {x : V} {u : Value} {bs : Nat → Bool} (hl : H l = some (.lst xs)) (ru : RelV x u)
    (hd : ∀ i y, xs[i]? = some y → D y x H (bs i)) : LoopB X.prog X.w A X.xe l u xs.length bs (fun _ s' => ∃ H', L2.Inv X pins σ H' s' ∧ Same H H') := by
  rintro i s ⟨H', I, k⟩
  obtain ⟨_, its, m, r, hp⟩ := (show ObjOk X.prog X.w H' s.heap l (.lst xs) from I.hok l _ (k _ _ hl))
  refine ⟨its.toArray, m, hp, by simpa using r.length.symm, fun h1 => ?_⟩
  have h1' : i < its.length := by simpa using h1
  have hix : i < xs.length := by rw [r.length]; exact h1'
  obtain ⟨v, hv, rv⟩ := r.get (List.getElem?_eq_getElem hix)
  have ev : its.toArray[i] = v := by
    rw [List.getElem?_eq_getElem h1'] at hv
    simpa using hv
  rw [ev]
  refine wpAny_mono (e A.in1 pins s σ H' _ _ _ _ (bs i) sb.in1 I rv ru (O.mono _ _ _ _ _ k (hd i _ (List.getElem?_eq_getElem hix)))) (fun r s' z => ?_) fun _ _ x => x
  obtain ⟨hr, H2, I2, k2⟩ := z
  exact ⟨hr, H2, I2, k.trans k2⟩
theorem sub_here (hr : Room n X.A) : L2.Sub X n X.A := ⟨hr, rfl⟩
def rCntB (D : V → V → Hp → Bool → Prop) : V → List V → Hp → VK → Prop := fun x xs H Q => ∃ (l : Addr) (ys : List V) (y : V) (bs : Nat → Bool), x = .ref l ∧ xs = [y] ∧ H l = some (.lst ys) ∧ (∀ i z, ys[i]? = some z → D z y H (bs i)) ∧ ∀ H', Same H H' → Q (.int (cntB bs ys.length 0)) H'
theorem mt_countB {D : V → V → Hp → Bool → Prop} (O : DOk C D) (e : EqB X n D) (hr : Room (n + 1) X.A) : MtR X "list.count" (rCntB D) := by
  intro pins s σ H x xs v us Q I rx rxs h
  obtain ⟨l, ys, y, bs, rfl, rfl, hl, hd, q⟩ := h
  cases (show v = Value.ref l from rx)
  obtain ⟨u, rfl, ru⟩ := rxs.one
  obtain ⟨_, its, m, _, hp⟩ := (show ObjOk X.prog X.w H s.heap l (.lst ys) from I.hok l _ hl)
  refine GQ.call_here F.slot_list_count ⟨_, hp, rfl⟩ F.entry_list_count (F.args_list_count_2 _ _) ?_
  refine list_countG l u ys.length bs (fun _ s' => ∃ H', L2.Inv X pins σ H' s' ∧ Same H H') (loopB_of O e (sub_here hr) (pins := pins) (σ := σ) hl ru hd) ⟨H, I, fun _ _ e => e⟩ fun s' z => ?_
  obtain ⟨H', I', k⟩ := z
  exact ⟨.int _, H', I'.tok _, ⟨_, rfl⟩, q H' k⟩
def rIdxB (D : V → V → Hp → Bool → Prop) : V → List V → Hp → VK → Prop := fun x xs H Q => ∃ (l : Addr) (ys : List V) (y : V) (bs : Nat → Bool) (j : Nat), x = .ref l ∧ xs = [y] ∧ H l = some (.lst ys) ∧ (∀ i z, ys[i]? = some z → D z y H (bs i)) ∧ j < ys.length ∧ j < 1000000 ∧ bs j = true ∧ (∀ m, m < j → bs m = false) ∧ ∀ H', Same H H' → Q (.int (j : Nat)) H'
theorem mt_indexB {D : V → V → Hp → Bool → Prop} (O : DOk C D) (e : EqB X n D) (hr : Room (n + 1) X.A) : MtR X "list.index" (rIdxB D) := by
  intro pins s σ H x xs v us Q I rx rxs h
  obtain ⟨l, ys, y, bs, j, rfl, rfl, hl, hd, hj, hj2, hit, hno, q⟩ := h
  cases (show v = Value.ref l from rx)
  obtain ⟨u, rfl, ru⟩ := rxs.one
  obtain ⟨_, its, m, _, hp⟩ := (show ObjOk X.prog X.w H s.heap l (.lst ys) from I.hok l _ hl)
  refine GQ.call_here F.slot_list_index ⟨_, hp, rfl⟩ F.entry_list_index (F.args_list_index_2 _ _) ?_
  refine list_indexG l u ys.length bs (fun _ s' => ∃ H', L2.Inv X pins σ H' s' ∧ Same H H') (loopB_of O e (sub_here hr) (pins := pins) (σ := σ) hl ru hd) j hj (by omega) hit hno (fun s' z => ?_) ⟨H, I, fun _ _ e => e⟩
  obtain ⟨H', I', k⟩ := z
  exact ⟨.int _, H', I'.tok _, ⟨_, rfl⟩, q H' k⟩
def rInB (D : V → V → Hp → Bool → Prop) : R2 := fun y x H Q => ∃ (l : Addr) (ys : List V) (bs : Nat → Bool) (j : Nat), x = .ref l ∧ H l = some (.lst ys) ∧ (∀ i z, ys[i]? = some z → D z y H (bs i)) ∧ j < ys.length ∧ bs j = true ∧ (∀ m, m < j → bs m = false) ∧ ∀ H', Same H H' → Q (.bl true) H'
/-- y in xs, where it is -/
theorem op_inB {D : V → V → Hp → Bool → Prop} (O : DOk C D) (e : EqB X n D) (hr : Room (n + 1) X.A) : OpR X (compareOp .In) (rInB D) := by
  intro pins s σ H y x u v Q I ru rx h
  obtain ⟨l, ys, bs, j, rfl, hl, hd, hj, hit, hno, q⟩ := h
  cases (show v = Value.ref l from rx)
  obtain ⟨_, its, m, _, hp⟩ := (show ObjOk X.prog X.w H s.heap l (.lst ys) from I.hok l _ hl)
  show wpAny _ X.A (do return Value.bool (← PySem.contains (.ref l) u)) _ _ s
  have hT : s.TypeIs (.ref l) "list" := ⟨_, hp, rfl⟩
  refine wpAny_bind (wpAny_contains_slot hT F.slot_list_contains (wpAny_mono (GQ.call_here (Q := fun v s' => v = .bool true ∧ ∃ H', L2.Inv X pins σ H' s' ∧ Same H H') (E := X.xe) F.slot_list_contains hT F.entry_list_contains (F.args_list_contains_2 _ _)
    (list_containsG l u ys.length bs (fun _ s' => ∃ H', L2.Inv X pins σ H' s' ∧ Same H H') (loopB_of O e (sub_here hr) (pins := pins) (σ := σ) hl ru hd) j hj hit hno (fun s' z => ⟨rfl, z⟩) ⟨H, I, fun _ _ e => e⟩)) (fun v s' hv => ?_) fun _ _ e => e))
  obtain ⟨rfl, H', I', k⟩ := hv
  exact wpAny_truthy_bool (wpAny_pure ⟨.bl true, H', I', rfl, q H' k⟩)
end
abbrev sTape : Stmt := topS 3
abbrev NTape : List Str := ["_law_script"]
theorem scTape : FnScope NTape ["_law_script"] (defScope sTape) := ⟨rfl, rfl, rfl, by decide +kernel, rfl, by decide +kernel, by decide +kernel⟩
abbrev sDraw : Stmt := topS 4
abbrev NDraw : List Str := ["_law_tape_here", "_law_many", "_law_digit", "_law_turn", "_law_cell", "_law_primes", "_law_prime", "_law_mixed"]
theorem scDraw : FnScope NDraw ["_law_tape_here", "_law_many"] (defScope sDraw) := ⟨rfl, rfl, rfl, by decide +kernel, rfl, by decide +kernel, by decide +kernel⟩
abbrev sPick : Stmt := topS 5
abbrev NPick : List Str := ["_law_tape_here", "_law_some"]
theorem scPick : FnScope NPick ["_law_tape_here", "_law_some"] (defScope sPick) := ⟨rfl, rfl, rfl, by decide +kernel, rfl, by decide +kernel, by decide +kernel⟩

/-- the tape at T: the cells' list, the draws done (at most n), the rest of a great cell -/
structure Tape (H : Hp) (T c : Addr) (n : Nat) : Prop where
  ex : ∃ (t r : Int) (ns : List Int), H T = some (.lst [.ref c, .int t, .int r]) ∧ H c = some (.lst (ns.map V.int)) ∧ c ≠ T ∧ 0 ≤ t ∧ t ≤ n ∧ ns.length ≤ 63
/-- all but the tape stands as it stood -/
def Keep (T : Addr) (H H' : Hp) : Prop := ∀ a o, a ≠ T → H a = some o → H' a = some o
theorem Keep.refl {T : Addr} {H : Hp} : Keep T H H := fun _ _ _ e => e
theorem Keep.trans {T : Addr} {H H1 H2 : Hp} (a : Keep T H H1) (b : Keep T H1 H2) : Keep T H H2 := fun x o n e => b x o n (a x o n e)
theorem Keep.updT {T : Addr} {H H1 : Hp} {o : HO} (a : Keep T H H1) : Keep T H (upd H1 T o) := fun x o n e => by
  rw [upd_ne n]; exact a x o n e
theorem Keep.new {T : Addr} {H H1 : Hp} {p : Addr} {o : HO} (a : Keep T H H1) (h : H1 p = none) : Keep T H (upd H1 p o) := fun x o n e => by
  have z := a x o n e
  rw [upd_ne (ne_of_none z h)]; exact z
theorem Tape.mono {H : Hp} {T c : Addr} {n m : Nat} (h : Tape H T c n) (l : n ≤ m) : Tape H T c m := by
  obtain ⟨t, r, ns, h1, h2, h3, h4, h5, h6⟩ := h.ex
  exact ⟨t, r, ns, h1, h2, h3, h4, by omega, h6⟩
theorem Tape.upd {H : Hp} {T c : Addr} {n : Nat} {p : Addr} {o : HO} (h : Tape H T c n) (n1 : p ≠ T) (n2 : p ≠ c) : Tape (upd H p o) T c n := by
  obtain ⟨t, r, ns, h1, h2, h3, h4, h5, h6⟩ := h.ex
  exact ⟨t, r, ns, by rw [upd_ne n1.symm]; exact h1, by rw [upd_ne n2.symm]; exact h2, h3, h4, h5, h6⟩
theorem Tape.new {H : Hp} {T c : Addr} {n : Nat} {p : Addr} {o : HO} (h : Tape H T c n) (hp : H p = none) : Tape (L2.upd H p o) T c n := by
  obtain ⟨t, r, ns, h1, h2, h3, h4, h5, h6⟩ := h.ex
  exact ⟨t, r, ns, by rw [upd_ne (ne_of_none h1 hp)]; exact h1, by rw [upd_ne (ne_of_none h2 hp)]; exact h2, h3, h4, h5, h6⟩
theorem Tape.nec {H : Hp} {T c : Addr} {n : Nat} {p : Addr} (h : Tape H T c n) (hp : H p = none) : p ≠ c := by
  obtain ⟨t, r, ns, _, h2, _⟩ := h.ex
  exact (ne_of_none h2 hp).symm
theorem Tape.ne {H : Hp} {T c : Addr} {n : Nat} {p : Addr} (h : Tape H T c n) (hp : H p = none) : p ≠ T := by
  obtain ⟨t, r, ns, h1, _⟩ := h.ex
  exact (ne_of_none h1 hp).symm
theorem upd_at {H : Hp} {p a : Addr} {o z : HO} (hp : H p = none) (h : H a = some z) : (upd H p o) a = some z := by
  rw [upd_ne (ne_of_none h hp)]; exact h
def spTape (K : PySem.W.Frag) : Sp := fun vs H Q _ => ∃ (a : Addr) (ns : List Int), vs = [.ref a] ∧ SqL K H a (ns.map V.int) ∧ ns.length ≤ 63 ∧
  ∀ T c H', H T = none → H c = none → Same H H' → Tape H' T c 0 → Q (.ref T) H'
def spDraw : Sp := fun vs H Q _ => ∃ (T c : Addr) (b : Int) (n : Nat), vs = [.ref T, .int b] ∧ 0 < b ∧ b < 1073741824 ∧ n < 1000000 ∧ Tape H T c n ∧
  ∀ d H', 0 ≤ d → d < b → Tape H' T c (n + 1) → Keep T H H' → Q (.int d) H'
/-- an item of a list, any one -/
def spPick : Sp := fun vs H Q _ => ∃ (T c p : Addr) (xs : List V) (n : Nat), vs = [.ref T, .ref p] ∧ H p = some (.lst xs) ∧ p ≠ T ∧ 0 < xs.length ∧ xs.length < 1000000 ∧ n < 1000000 ∧ Tape H T c n ∧
  ∀ (j : Nat) (x : V) H', xs[j]? = some x → Tape H' T c (n + 1) → Keep T H H' → Q x H'
theorem dp_ints {K : PySem.W.Frag} {H : Hp} : ∀ ns : List Int, DpAll K H (ns.map V.int) (ns.map PyData.int)
  | [] => .nil
  | _ :: r => .cons (.int _) (dp_ints r)
theorem cut63 {ns : List Int} (h : ns.length ≤ 63) : cutV (ns.map V.int) none (some 63) = ns.map V.int := by
  unfold cutV
  rw [HT.sIx_none, show HT.sIx (ns.map V.int).length (ns.map V.int).length (some 63) = min 63 (ns.map V.int).length from HT.sIx_nat _ _ 63, List.length_map, Nat.min_eq_right h]
  show ((ns.map V.int).take (ns.length - 0)) = _
  rw [Nat.sub_zero]
  exact List.take_of_length_le (by rw [List.length_map]; exact Nat.le_refl _)
theorem fmod_in {a b : Int} (h : 0 < b) : 0 ≤ a.fmod b ∧ a.fmod b < b := by
  rw [Int.fmod_eq_emod_of_nonneg a (Int.le_of_lt h)]; exact ⟨Int.emod_nonneg a (by omega), Int.emod_lt_of_pos a h⟩
theorem prime_at (t : Int) : ∃ (j : Nat) (p : Int), t.fmod 5 = (j : Int) ∧ ([.int 2147483647, .int 2147483629, .int 2147483587, .int 2147483579, .int 2147483563] : List V)[j]? = some (.int p) ∧ 0 < p ∧ p < 2147483648 := by
  obtain ⟨h1, h2⟩ := fmod_in (a := t) (b := 5) (by decide)
  generalize t.fmod 5 = z at h1 h2
  have : z = 0 ∨ z = 1 ∨ z = 2 ∨ z = 3 ∨ z = 4 := by omega
  rcases this with rfl | rfl | rfl | rfl | rfl
  · exact ⟨0, _, rfl, rfl, by decide, by decide⟩
  · exact ⟨1, _, rfl, rfl, by decide, by decide⟩
  · exact ⟨2, _, rfl, rfl, by decide, by decide⟩
  · exact ⟨3, _, rfl, rfl, by decide, by decide⟩
  · exact ⟨4, _, rfl, rfl, by decide, by decide⟩
/-- what the law's helpers ask of the module's names -/
structure Txt0 (mg : Str → Option Value) : Prop where
  mlen : mg "len" = none
section
variable {P : Program} {w : World} {K : PySem.W.Frag} {mg : Str → Option Value} {base : Heap}
theorem ok_draw {f : Addr} {fd : FuncData} {k : Nat} (F : Fun K "_law_draw" "_law_draw" sDraw f fd) (T : Txt0 mg) : FnOk P w K mg base CX0 (k + 1) f fd ["_law_tape_here", "_law_many"] spDraw := by
  refine F.ok scDraw (fun vs H Q E h => ?_) (fun cdv A outer s H vs Q E hr h => ?_)
  · obtain ⟨T, c, b, n, rfl, _⟩ := h
    rfl
  · obtain ⟨a, c, b, n, rfl, hb0, hb1, hn, hT, q⟩ := h
    obtain ⟨t, r, ns, h1, h2, h3, h4, h5, h6⟩ := hT.ex
    refine ⟨_,
      (pss_cons (ps_if (pt_cmpR op_gt (pe_ix ix_list (pv 0) pe_int (fun _ _ => rfl)) pe_int (nomark _))
      (pss_cons (ps_set (i := 2) scDraw.nd rfl (.inl rfl) (pe_op op_modN (pe_ix ix_list (pv 0) pe_int (fun _ _ => rfl)) (pv 1)))
      (pss_cons (ps_asg (pe_op op_fdivN (pe_ix ix_list (pv 0) pe_int (fun _ _ => rfl)) (pv 1)) (pg_sub (pv 0) pe_int set_list))
      (pss_one (ps_ret (pv 2)))))
      pss_nil)
      (pss_cons (ps_set (i := 3) scDraw.nd rfl (.inl rfl) (pe_ix ix_list (pv 0) pe_int (fun _ _ => rfl)))
      (pss_cut (ps_asg (pe_op op_add (pv 3) pe_int) (pg_sub (pv 0) pe_int set_list))
      (pss_cons (ps_set (i := 4) scDraw.nd rfl (.inl rfl) pe_int)
      (pss_cut (ps_if (pt_cmpR (op_neD hr.units) (pe_ix ix_list (pv 0) pe_int (fun _ _ => rfl)) (pe_lst pa_nil) (nomark _))
      (pss_one (ps_set (i := 4) scDraw.nd rfl (.inl rfl) (pe_ix ix_list (pe_ix ix_list (pv 0) pe_int (fun _ _ => rfl)) (pe_op op_modN (pv 3) (pe_callB call_len_seq (by rfl) T.mlen PySem.boot_len (pa_cons (pe_ix ix_list (pv 0) pe_int (fun _ _ => rfl)) pa_nil))) (fun _ _ => rfl))))
      pss_nil)
      (pss_cut (ps_if (PW.pt (pw_and (pt_cmpR op_ge (pv 4) (pe_op op_pow pe_int pe_int) (nomark _)) (pw_and1 (pt_cmpR op_lt (pv 3) (pe_callB call_len_seq (by rfl) T.mlen PySem.boot_len (pa_cons (pe_ix ix_list (pv 0) pe_int (fun _ _ => rfl)) pa_nil)) (nomark _)))))
      (pss_cons (ps_asg (pe_op op_fdivN (pe_op op_sub (pv 4) (pe_op op_pow pe_int pe_int)) (pv 1)) (pg_sub (pv 0) pe_int set_list))
      (pss_one (ps_ret (pe_op op_modN (pe_op op_sub (pv 4) (pe_op op_pow pe_int pe_int)) (pv 1)))))
      pss_nil)
      (pss_cons (ps_set (i := 5) scDraw.nd rfl (.inl rfl) (pe_lst (pa_cons pe_int (pa_cons pe_int (pa_cons pe_int (pa_cons pe_int (pa_cons pe_int pa_nil)))))))
      (pss_cons (ps_set (i := 6) scDraw.nd rfl (.inl rfl) (pe_ix ix_list (pv 5) (pe_op op_modN (pv 3) pe_int) (fun _ _ => rfl)))
      (pss_cut (ps_set (i := 7) scDraw.nd rfl (.inl rfl) (pe_op op_modN (pe_op op_add (pe_op op_add (pe_op op_add (pe_op op_mul (pe_op op_modN (pv 4) (pv 6)) pe_int) (pe_op op_mul (pe_op op_mul pe_int (pv 3)) (pv 3))) (pe_op op_mul pe_int (pv 3))) pe_int) (pv 6)))
      (pss_cut (ps_set (i := 7) scDraw.nd rfl (.inl rfl) (pe_op op_modN (pe_op op_mul (pv 7) (pe_op op_add (pv 7) pe_int)) (pe_ix ix_list (pv 5) (pe_op op_modN (pe_op op_add (pv 3) pe_int) pe_int) (fun _ _ => rfl))))
      (pss_one (ps_ret (pe_op op_modN (pe_op op_fdivN (pe_op op_modN (pe_op op_mul (pv 7) (pv 7)) pe_int) pe_int) (pv 1))))))))))))))
      , ?_⟩
    -- if tape[2] > 0
    refine ⟨_, rfl, a, _, 2, _, rfl, rfl, SqL.of h1, atI_nat (j := 2) rfl, _, _, rfl, rfl, _, rfl, ite2 (fun _ => ?_) (fun _ => ?_)⟩
    · obtain ⟨e1, e2⟩ := fmod_in (a := r) hb0
      refine ⟨_, rfl, a, _, 2, _, rfl, rfl, SqL.of h1, atI_nat (j := 2) rfl, _, rfl, _, _, rfl, rfl, by omega, ?_⟩
      refine ⟨_, rfl, a, _, 2, _, rfl, rfl, SqL.of h1, atI_nat (j := 2) rfl, _, rfl, _, _, rfl, rfl, ⟨by omega, by omega⟩, ?_⟩
      refine ⟨_, rfl, a, _, 2, 2, rfl, rfl, h1, rfl, ?_⟩
      refine ⟨_, rfl, q _ _ e1 e2 ⟨t, _, ns, upd_same, ?_, h3, h4, by omega, h6⟩ Keep.refl.updT⟩
      rw [upd_ne h3]; exact h2
    · refine ⟨_, rfl, a, _, 1, _, rfl, rfl, SqL.of h1, atI_nat (j := 1) rfl, ?_⟩
      refine ⟨fun σ H2 => σ = [some (.ref a), some (.int b), none, some (.int t), none, none, none, none] ∧ H2 a = some (.lst [.ref c, .int (t + 1), .int r]) ∧ H2 c = some (.lst (ns.map V.int)) ∧ Keep a H H2, ?_, ?_⟩
      · refine ⟨_, rfl, _, _, rfl, rfl, _, rfl, a, _, 1, 1, rfl, rfl, h1, rfl, rfl, upd_same, ?_, Keep.refl.updT⟩
        rw [upd_ne h3]; exact h2
      rintro σ H1 ⟨rfl, g1, g2, k0⟩
      -- if tape[0] != []: the two ways meet at a cell, any one
      refine ⟨fun σ H2 => ∃ cell : Int, σ = [some (.ref a), some (.int b), none, some (.int t), some (.int cell), none, none, none] ∧ H2 a = some (.lst [.ref c, .int (t + 1), .int r]) ∧ H2 c = some (.lst (ns.map V.int)) ∧ Keep a H H2, ?_, ?_⟩
      · refine ⟨_, rfl, a, _, 0, _, rfl, rfl, SqL.of g1, atI_nat (j := 0) rfl, Nat.zero_le _, fun l hl => ?_⟩
        have u1 := upd_at (o := .lst []) hl g1
        have u2 := upd_at (o := .lst []) hl g2
        refine ⟨_, .list [], .lst (SqL.of u2) (dp_ints _), .lst (SqL.of upd_same) .nil, ke_shaped_ints ns, ke_shaped_ints [], _, rfl, ?_⟩
        cases hns : ns with
        | nil => exact iteF ⟨0, rfl, u1, by rw [← hns]; exact u2, k0.new hl⟩
        | cons z zs =>
          refine iteT ?_
          rw [← hns]
          have hpos : 0 < (ns.length : Int) := by rw [hns]; simp
          refine ⟨_, rfl, a, _, 0, _, rfl, rfl, SqL.of u1, atI_nat (j := 0) rfl, _, rfl, _, rfl, a, _, 0, _, rfl, rfl, SqL.of u1, atI_nat (j := 0) rfl, c, _, rfl, .inl (SqL.of u2), _, _, rfl, rfl, ?_, ?_⟩
          · rw [List.length_map]; omega
          · obtain ⟨e1, e2⟩ := fmod_in (a := t) hpos
            obtain ⟨j, hj⟩ := Int.eq_ofNat_of_zero_le e1
            have hj2 : j < ns.length := by omega
            refine ⟨c, _, (j : Int), .int ns[j], rfl, ?_, SqL.of u2, atI_nat ?_, _, rfl, u1, u2, k0.new hl⟩
            · exact congrArg V.int (by rw [List.length_map]; exact hj)
            · rw [List.getElem?_map, List.getElem?_eq_getElem hj2]; rfl
      · rintro σ H2 ⟨cell, rfl, u1, u2, k2⟩
        -- if cell >= 10 ** 18 and turn < len(tape[0])
        have tp : ∀ (r' : Int) (H3 : Hp), H3 a = some (.lst [.ref c, .int (t + 1), .int r']) → H3 c = some (.lst (ns.map V.int)) → Tape H3 a c (n + 1) := fun r' H3 x1 x2 => ⟨t + 1, r', ns, x1, x2, h3, by omega, by omega, h6⟩
        refine ⟨fun σ H3 => σ = [some (.ref a), some (.int b), none, some (.int t), some (.int cell), none, none, none] ∧ H3 = H2, ?_, ?_⟩
        · refine ⟨_, rfl, _, _, rfl, rfl, ⟨by decide, by decide, by decide⟩, _, _, rfl, rfl, _, rfl, ite2 (fun _ => ?_) (fun _ => iteF ⟨rfl, rfl⟩)⟩
          refine ⟨_, rfl, _, rfl, a, _, 0, _, rfl, rfl, SqL.of u1, atI_nat (j := 0) rfl, c, _, rfl, .inl (SqL.of u2), _, _, rfl, rfl, _, rfl, ite2 (fun _ => ?_) (fun _ => ⟨rfl, rfl⟩)⟩
          refine ⟨_, rfl, _, _, rfl, rfl, ⟨by decide, by decide, by decide⟩, _, _, rfl, rfl, _, rfl, _, _, rfl, rfl, ⟨by omega, by omega⟩, _, rfl, a, _, 2, 2, rfl, rfl, u1, rfl, ?_⟩
          refine ⟨_, rfl, _, _, rfl, rfl, ⟨by decide, by decide, by decide⟩, _, _, rfl, rfl, _, rfl, _, _, rfl, rfl, by omega, ?_⟩
          exact q _ _ (fmod_in hb0).1 (fmod_in hb0).2 (tp _ _ upd_same (by rw [upd_ne h3]; exact u2)) k2.updT
        · rintro σ H3 ⟨rfl, rfl⟩
          -- the five primes, the mixing
          refine ⟨by show 5 ≤ sizeLine; decide, fun l hl => ?_⟩
          have w1 := upd_at (o := .lst [.int 2147483647, .int 2147483629, .int 2147483587, .int 2147483579, .int 2147483563]) hl u1
          have w2 := upd_at (o := .lst [.int 2147483647, .int 2147483629, .int 2147483587, .int 2147483579, .int 2147483563]) hl u2
          have w3 := upd_same (H := H3) (a := l) (o := .lst [.int 2147483647, .int 2147483629, .int 2147483587, .int 2147483579, .int 2147483563])
          obtain ⟨j1, p1, ej1, ep1, hp1, hq1⟩ := prime_at t
          obtain ⟨j2, p2, ej2, ep2, hp2, hq2⟩ := prime_at (t + 2)
          refine ⟨_, rfl, _, rfl, _, _, rfl, rfl, (by show (5 : Int) ≠ 0; decide), l, _, (j1 : Int), _, rfl, congrArg V.int ej1, SqL.of w3, atI_nat ep1, ?_⟩
          have late : ∀ {A B : Prop}, A → A := fun h => h
          refine ⟨fun σ H4 => ∃ m1 : Int, 0 ≤ m1 ∧ m1 < p1 ∧ σ = [some (.ref a), some (.int b), none, some (.int t), some (.int cell), some (.ref l), some (.int p1), some (.int m1)] ∧ H4 = upd H3 l (.lst [.int 2147483647, .int 2147483629, .int 2147483587, .int 2147483579, .int 2147483563]), ?_, ?_⟩
          · refine ⟨_, rfl, _, rfl, _, _, rfl, rfl, by omega, _, _, rfl, rfl, .inr ⟨by decide, by decide⟩, _, rfl, _, _, rfl, rfl, .inl ⟨by decide, by decide⟩, _, rfl, _, _, rfl, rfl, .inr ⟨by omega, by omega⟩, _, _, rfl, rfl, _, rfl, _, _, rfl, rfl, .inl ⟨by decide, by decide⟩, _, _, rfl, rfl, _, _, rfl, rfl, _, rfl, _, _, rfl, rfl, by omega, ?_⟩
            exact ⟨_, (fmod_in hp1).1, (fmod_in hp1).2, rfl, rfl⟩
          rintro σ H4 ⟨m1, m10, m11, rfl, rfl⟩
          refine ⟨fun σ H4 => ∃ m2 : Int, 0 ≤ m2 ∧ m2 < p2 ∧ σ = [some (.ref a), some (.int b), none, some (.int t), some (.int cell), some (.ref l), some (.int p1), some (.int m2)] ∧ H4 = upd H3 l (.lst [.int 2147483647, .int 2147483629, .int 2147483587, .int 2147483579, .int 2147483563]), ?_, ?_⟩
          · refine ⟨_, rfl, _, rfl, _, _, rfl, rfl, _, _, rfl, rfl, .inl ⟨by omega, by omega⟩, _, rfl, _, rfl, _, _, rfl, rfl, _, _, rfl, rfl, (by show (5 : Int) ≠ 0; decide), l, _, (j2 : Int), _, rfl, congrArg V.int ej2, SqL.of w3, atI_nat ep2, _, _, rfl, rfl, by omega, ?_⟩
            exact ⟨_, (fmod_in hp2).1, (fmod_in hp2).2, rfl, rfl⟩
          rintro σ H4 ⟨m2, m20, m21, rfl, rfl⟩
          refine ⟨_, rfl, _, rfl, _, _, rfl, rfl, .inl ⟨by omega, by omega⟩, _, _, rfl, rfl, (by show (2147483549 : Int) ≠ 0; decide), _, _, rfl, rfl, ⟨by decide, by decide⟩, _, rfl, _, _, rfl, rfl, by omega, ?_⟩
          exact q _ _ (fmod_in hb0).1 (fmod_in hb0).2 (tp _ _ w1 w2) (k2.new hl)
/-- an item of a list by a draw -/
theorem ok_pick {f fD : Addr} {fd fdD : FuncData} {k : Nat} (F : Fun K "_law_pick" "_law_pick" sPick f fd) (T : Txt0 mg) (F_law_draw : Fun K "_law_draw" "_law_draw" sDraw fD fdD) (g_law_draw : mg "_law_draw" = some (.ref fD)) (b_law_draw : Binds K fdD ["_law_tape_here", "_law_many"] []) :
    FnOk P w K mg base CX0 (k + 2) f fd ["_law_tape_here", "_law_some"] spPick := by
  have G_law_draw : FnOk P w K mg base CX0 (k + 1) fD fdD ["_law_tape_here", "_law_many"] spDraw := ok_draw F_law_draw T
  refine F.ok scPick (fun vs H Q E h => ?_) (fun cdv A outer s H vs Q E hr h => ?_)
  · obtain ⟨T, c, p, xs, n, rfl, _⟩ := h
    rfl
  · obtain ⟨a, c, p, xs, n, rfl, hS, hpa, hx0, hx1, hn, hT, q⟩ := h
    have hr_law_draw := hr
    refine ⟨_,
      (pss_one (ps_ret (pe_ix ix_list (pv 1) (pe_call G_law_draw hr_law_draw (by rfl) g_law_draw F_law_draw.kp b_law_draw .nil pass0 (pa_cons (pv 0) (pa_cons (pe_callB call_len_seq (by rfl) T.mlen PySem.boot_len (pa_cons (pv 1) pa_nil)) pa_nil))) (fun _ _ => rfl))))
      , ?_⟩
    refine ⟨_, rfl, _, rfl, _, rfl, p, xs, rfl, .inl (SqL.of hS), a, c, xs.length, n, rfl, by omega, by omega, hn, hT, fun d H' d0 d1 T' k' => ?_⟩
    obtain ⟨j, rfl⟩ := Int.eq_ofNat_of_zero_le d0
    have hj : j < xs.length := by omega
    exact ⟨p, xs, (j : Int), xs[j], rfl, rfl, SqL.of (k' p _ hpa hS), atI_nat (List.getElem?_eq_getElem hj), q j _ _ (List.getElem?_eq_getElem hj) T' k'⟩
/-- the tape's making: the cells in a list of their own -/
theorem ok_tape {f : Addr} {fd : FuncData} {k : Nat} (F : Fun K "_law_tape" "_law_tape" sTape f fd) (T : Txt0 mg) : FnOk P w K mg base CX0 (k + 1) f fd ["_law_script"] (spTape K) := by
  refine F.ok scTape (fun vs H Q E h => ?_) (fun cdv A outer s H vs Q E hr h => ?_)
  · obtain ⟨a, ns, rfl, _⟩ := h
    rfl
  · obtain ⟨a, ns, rfl, hS, hlen, q⟩ := h
    refine ⟨_,
      (pss_one (ps_ret (pe_lst (pa_cons (pe_slice sl_list (pv 0) po_none (po_some pe_int)) (pa_cons pe_int (pa_cons pe_int pa_nil))))))
      , ?_⟩
    refine ⟨_, rfl, _, rfl, a, _, rfl, hS, fun p hp => ?_⟩
    refine ⟨by show 3 ≤ sizeLine; decide, fun l hl => ?_⟩
    have nlp : p ≠ l := fun e => by rw [e, upd_same] at hl; cases hl
    have hl0 : H l = none := by rw [upd_ne nlp.symm] at hl; exact hl
    refine q l p _ hl0 hp (fun b o e => upd_at hl (upd_at hp e)) ⟨0, 0, ns, upd_same, ?_, nlp, by omega, by omega, hlen⟩
    rw [upd_ne nlp, upd_same, cut63 hlen]
end
/-! ### heaps that grow -/
theorem Tape.same {H H' : Hp} {T c : Addr} {n : Nat} (h : Tape H T c n) (s : Same H H') : Tape H' T c n := by
  obtain ⟨t, r, ns, h1, h2, h3, h4, h5, h6⟩ := h.ex
  exact ⟨t, r, ns, s _ _ h1, s _ _ h2, h3, h4, h5, h6⟩
theorem Keep.same {T : Addr} {H H1 H2 : Hp} (a : Keep T H H1) (b : Same H1 H2) : Keep T H H2 := fun x o n e => b x o (a x o n e)
theorem same_upd {H : Hp} {p : Addr} {o : HO} (h : H p = none) : Same H (upd H p o) := fun b x e => by
  rw [upd_ne (ne_of_none e h)]; exact e
theorem same_refl {H : Hp} : Same H H := fun _ _ e => e
theorem small_line {n : Nat} (h : n ≤ 100) : n ≤ sizeLine := Nat.le_trans h (by decide)
abbrev sBInit : Stmt := inClass (topS 1) 0
abbrev NBInit : List Str := ["self", "name", "bears"]
theorem scBInit : FnScope NBInit ["self", "name", "bears"] (defScope sBInit) := ⟨rfl, rfl, rfl, by decide +kernel, rfl, by decide +kernel, by decide +kernel⟩
abbrev sBEq : Stmt := inClass (topS 1) 1
abbrev NBEq : List Str := ["self", "other"]
theorem scBEq : FnScope NBEq ["self", "other"] (defScope sBEq) := ⟨rfl, rfl, rfl, by decide +kernel, rfl, by decide +kernel, by decide +kernel⟩
abbrev sBStr : Stmt := inClass (topS 1) 2
abbrev NBStr : List Str := ["self"]
theorem scBStr : FnScope NBStr ["self"] (defScope sBStr) := ⟨rfl, rfl, rfl, by decide +kernel, rfl, by decide +kernel, by decide +kernel⟩
abbrev sBRepr : Stmt := inClass (topS 1) 3
abbrev NBRepr : List Str := ["self"]
theorem scBRepr : FnScope NBRepr ["self"] (defScope sBRepr) := ⟨rfl, rfl, rfl, by decide +kernel, rfl, by decide +kernel, by decide +kernel⟩
/-! ### a Boat -/
theorem nb : ¬ (("name" : Str) = "bears") := by decide +kernel
def boatF (n : Str) (b : Int) : List (Str × V) := putF "bears" (.int b) (putF "name" (.str n) [])
theorem boatF_name (n : Str) (b : Int) : (boatF n b).lookup ("name" : Str) = some (.str n) := by
  unfold boatF
  rw [lookup_putF, if_neg nb, lookup_putF, if_pos rfl]
theorem boatF_bears (n : Str) (b : Int) : (boatF n b).lookup ("bears" : Str) = some (.int b) := by
  unfold boatF
  rw [lookup_putF, if_pos rfl]
def BoatAt (C : Addr) (H : Hp) (p : Addr) (n : Str) (b : Int) : Prop := ∃ dx, H p = some (.ins C dx (boatF n b))
theorem BoatAt.same {C : Addr} {H H' : Hp} {p : Addr} {n : Str} {b : Int} (h : BoatAt C H p n b) (s : Same H H') : BoatAt C H' p n b := by
  obtain ⟨dx, e⟩ := h; exact ⟨dx, s _ _ e⟩
structure BCl (K : PySem.W.Frag) (mg : Str → Option Value) (C : Addr) : Prop where
  cl : Cls K C
  nN : NoAttr K C "name"
  nB : NoAttr K C "bears"
  gC : mg "Boat" = some (.ref C)
  ha : PySem.W.findIn K (.ref C) "__class__" = some (some (.builtin "object.__class__"))
  hn : PySem.W.specialIn K (.builtin "object.__class__") "__get__" = some (some (.builtin "getset_descriptor.__get__"))
  htk : PySem.W.takesIn K (.builtin "object.__class__") = some true
  hm : PySem.W.mroIn K C (.type "object") = some true
  nf : PySem.W.notFirst K C (.ref C) = true
  ne : PySem.W.findIn K (.ref C) "__ne__" = some (some (.builtin "object.__ne__"))
  sub : NotSub K C
  misinstance : mg "isinstance" = none
theorem isBoat {K : PySem.W.Frag} {mg : Str → Option Value} {C : Addr} (T : BCl K mg C) {H : Hp} {p : Addr} {n : Str} {b : Int} (h : BoatAt C H p n b) : TyX K H (.ref p) (.ref C) := by
  obtain ⟨dx, e⟩ := h
  exact .base (.ins e T.cl T.ha T.hn T.htk T.hm)
theorem kitC {K : PySem.W.Frag} {C : Addr} : PySem.W.kitOne K (.ref C) (.ref C) = some true := if_pos (beq_self_eq_true _)
def spBInit (C : Addr) : Sp := fun vs H Q _ => ∃ (p dx : Addr) (n : Str) (b : Int), vs = [.ref p, .str n, .int b] ∧ H p = some (.ins C dx []) ∧ ∀ H', BoatAt C H' p n b → (∀ x o, x ≠ p → H x = some o → H' x = some o) → Q .non H'
/-- == : another Boat, or anything that is none -/
def spBEq (K : PySem.W.Frag) (C : Addr) : Sp := fun vs H Q _ => ∃ (p : Addr) (y : V) (n : Str) (b : Int), vs = [.ref p, y] ∧ BoatAt C H p n b ∧
  ((∃ q m c, y = .ref q ∧ BoatAt C H q m c ∧ Q (.bl (decide (n = m) && decide (b = c))) H) ∨ (∃ t, TyX K H y t ∧ PySem.W.kitOne K t (.ref C) = some false ∧ Q (.bl false) H))
def boatS (n : Str) (b : Int) : Str := ((Str.empty ++ n) ++ ":") ++ Str.ofString (toString b)
def boatR (n : Str) (b : Int) : Str := ((((Str.empty ++ "Boat(") ++ reprText n) ++ ", ") ++ Str.ofString (toString b)) ++ ")"
def Low (z : Str) : Prop := z.length ≤ 40 ∧ ∀ c ∈ tl z, 97 ≤ c ∧ c ≤ 122
def spBStr (C : Addr) : Sp := fun vs H Q _ => ∃ (p : Addr) (n : Str) (b : Int), vs = [.ref p] ∧ BoatAt C H p n b ∧ n.length ≤ 40 ∧ 0 ≤ b ∧ b < 10000000 ∧ Q (.str (boatS n b)) H
def spBRepr (C : Addr) : Sp := fun vs H Q _ => ∃ (p : Addr) (n : Str) (b : Int), vs = [.ref p] ∧ BoatAt C H p n b ∧ Low n ∧ 0 ≤ b ∧ b < 10000000 ∧ Q (.str (boatR n b)) H
theorem log_small {i : Int} (h : i.natAbs < 2 ^ 64) : i.natAbs.log2 < 1920 := by
  by_cases z : i.natAbs = 0
  · rw [z]; decide
  · have := (Nat.log2_lt z).mpr (Nat.lt_of_lt_of_le h (Nat.pow_le_pow_right (by decide) (by decide : 64 ≤ 1920)))
    exact this
theorem num_len {b : Int} (h0 : 0 ≤ b) (h1 : b < 10000000) : (Str.ofString (toString b)).length ≤ 7 := toString_length_le h0 (by decide) h1
theorem repr_len {n : Str} (h : Low n) : (reprText n).length ≤ 402 := by
  have := PySem.StrLaws.reprText_len n (fun c hc => by have := h.2 c hc; omega)
  have := h.1
  omega
theorem line1000 {n : Nat} (h : n ≤ 1000) : n ≤ sizeLine := Nat.le_trans h (by decide)
section
variable {P : Program} {w : World} {K : PySem.W.Frag} {mg : Str → Option Value} {base : Heap} {C : Addr}
theorem ok_binit {f : Addr} {fd : FuncData} {k : Nat} (F : Fun K "__init__" "Boat.__init__" sBInit f fd) (T : BCl K mg C) : FnOk P w K mg base CX0 (k + 1) f fd ["self", "name", "bears"] (spBInit C) := by
  refine F.ok scBInit (fun vs H Q E h => ?_) (fun cdv A outer s H vs Q E hr h => ?_)
  · obtain ⟨p, dx, a, b, rfl, _⟩ := h
    rfl
  · obtain ⟨p, dx, n, b, rfl, hp, q⟩ := h
    refine ⟨_,
      (pss_cons (ps_fld (pv 0) (pv 1) rfl)
      (pss_one (ps_fld (pv 0) (pv 2) rfl)))
      , ?_⟩
    refine ⟨_, rfl, _, rfl, p, C, dx, _, rfl, hp, T.cl, T.nN, (by show 0 < 1000; decide), ?_⟩
    refine ⟨_, rfl, _, rfl, p, C, dx, _, rfl, upd_same, T.cl, T.nB, (by show 1 < 1000; decide), ?_⟩
    exact q _ ⟨dx, upd_same⟩ fun x o n e => by rw [upd_ne n, upd_ne n]; exact e
theorem ok_beq {f : Addr} {fd : FuncData} {k : Nat} (F : Fun K "__eq__" "Boat.__eq__" sBEq f fd) (T : BCl K mg C) : FnOk P w K mg base CX0 (k + 1) f fd ["self", "other"] (spBEq K C) := by
  refine F.ok scBEq (fun vs H Q E h => ?_) (fun cdv A outer s H vs Q E hr h => ?_)
  · obtain ⟨p, y, n, b, rfl, _⟩ := h
    rfl
  · obtain ⟨p, y, n, b, rfl, hp, q⟩ := h
    have gC := T.gC
    refine ⟨_,
      (pss_one (ps_ret (pe_and (pe_callB call_isi (by rfl) T.misinstance (by decide +kernel) (pa_cons (pv 1) (pa_cons (pe_glob (v := .ref C) (by rfl) gC rfl) pa_nil))) (pe_and (pe_cmpR op_eq (pe_fld (pv 0) rfl) (pe_fld (pv 1) rfl) (nomark _)) (pe_one (pe_cmpR op_eq (pe_fld (pv 0) rfl) (pe_fld (pv 1) rfl) (nomark _)))))))
      , ?_⟩
    obtain ⟨dx, ep⟩ := id hp
    rcases q with ⟨r, m, c, rfl, hr', q⟩ | ⟨t, ty, hk, q⟩
    · obtain ⟨dy, er⟩ := id hr'
      refine ⟨_, rfl, _, _, _, _, true, rfl, .own C, isBoat T hr', kitC, true, rfl, ?_⟩
      refine ⟨_, rfl, p, C, dx, _, _, rfl, ep, T.cl, T.nN, boatF_name n b, _, rfl, r, C, dy, _, _, rfl, er, T.cl, T.nN, boatF_name m c, rfl, _, rfl, ?_⟩
      refine ite2 (fun c1 => ?_) (fun c1 => ?_)
      · have e1 : n = m := V.str.inj (of_decide_eq_true c1)
        refine ⟨_, rfl, p, C, dx, _, _, rfl, ep, T.cl, T.nB, boatF_bears n b, _, rfl, r, C, dy, _, _, rfl, er, T.cl, T.nB, boatF_bears m c, rfl, ?_⟩
        have z : (decide (n = m) && decide (b = c)) = decide (V.int b = V.int c) := by
          rw [decide_eq_true e1, Bool.true_and]
          exact decide_eq_decide.mpr ⟨fun e => congrArg V.int e, fun e => V.int.inj e⟩
        rw [z] at q
        exact q
      · have e1 : ¬ n = m := fun e => c1 (decide_eq_true (congrArg V.str e))
        rw [decide_eq_false e1, Bool.false_and] at q
        exact q
    · exact ⟨_, rfl, _, _, _, _, false, rfl, .own C, ty, hk, false, rfl, q⟩
theorem ok_bstr {f : Addr} {fd : FuncData} {k : Nat} (F : Fun K "__str__" "Boat.__str__" sBStr f fd) (T : BCl K mg C) : FnOk P w K mg base CX0 (k + 1) f fd ["self"] (spBStr C) := by
  refine F.ok scBStr (fun vs H Q E h => ?_) (fun cdv A outer s H vs Q E hr h => ?_)
  · obtain ⟨p, n, b, rfl, _⟩ := h
    rfl
  · obtain ⟨p, n, b, rfl, hp, hl, hb0, hb1, q⟩ := h
    refine ⟨_,
      (pss_one (ps_ret (pe_joined (.cons (pe_fmt (pe_fld (pv 0) rfl)) (.cons pe_str (.cons (pe_fmt (pe_fld (pv 0) rfl)) .nil))))))
      , ?_⟩
    obtain ⟨dx, ep⟩ := id hp
    have nl := num_len hb0 hb1
    refine ⟨_, rfl, p, C, dx, _, _, rfl, ep, T.cl, T.nN, boatF_name n b, .inl ⟨n, rfl, line1000 (by omega), _, rfl, line1000 (by rw [Str.length_append]; show 0 + n.length ≤ 1000; omega), _, rfl, line1000 (by rw [Str.length_append, Str.length_append]; show 0 + n.length + 1 ≤ 1000; omega), ?_⟩⟩
    exact ⟨_, rfl, p, C, dx, _, _, rfl, ep, T.cl, T.nB, boatF_bears n b, .inr ⟨b, rfl, log_small (by omega), _, rfl, line1000 (by rw [Str.length_append, Str.length_append, Str.length_append]; show 0 + n.length + 1 + _ ≤ 1000; omega), q⟩⟩
theorem ok_brepr {f : Addr} {fd : FuncData} {k : Nat} (F : Fun K "__repr__" "Boat.__repr__" sBRepr f fd) (T : BCl K mg C) : FnOk P w K mg base CX0 (k + 1) f fd ["self"] (spBRepr C) := by
  refine F.ok scBRepr (fun vs H Q E h => ?_) (fun cdv A outer s H vs Q E hr h => ?_)
  · obtain ⟨p, n, b, rfl, _⟩ := h
    rfl
  · obtain ⟨p, n, b, rfl, hp, hl, hb0, hb1, q⟩ := h
    refine ⟨_,
      (pss_one (ps_ret (pe_joined (.cons pe_str (.cons (pe_fmtR (pe_fld (pv 0) rfl)) (.cons pe_str (.cons (pe_fmt (pe_fld (pv 0) rfl)) (.cons pe_str .nil))))))))
      , ?_⟩
    obtain ⟨dx, ep⟩ := id hp
    have nl := num_len hb0 hb1
    have rl := repr_len hl
    refine ⟨_, rfl, line1000 (by rw [Str.length_append]; show 0 + 5 ≤ 1000; omega), _, rfl, p, C, dx, _, _, rfl, ep, T.cl, T.nN, boatF_name n b, .inl ⟨n, rfl, line1000 (by omega), _, rfl, line1000 (by rw [Str.length_append, Str.length_append]; show 0 + 5 + _ ≤ 1000; omega), _, rfl, line1000 (by rw [Str.length_append, Str.length_append, Str.length_append]; show 0 + 5 + _ + 2 ≤ 1000; omega), ?_⟩⟩
    exact ⟨_, rfl, p, C, dx, _, _, rfl, ep, T.cl, T.nB, boatF_bears n b, .inr ⟨b, rfl, log_small (by omega), _, rfl, line1000 (by rw [Str.length_append, Str.length_append, Str.length_append, Str.length_append]; show 0 + 5 + _ + 2 + _ ≤ 1000; omega), _, rfl, line1000 (by rw [Str.length_append, Str.length_append, Str.length_append, Str.length_append, Str.length_append]; show 0 + 5 + _ + 2 + _ + 1 ≤ 1000; omega), q⟩⟩
end
abbrev sNames : Stmt := topS 6
abbrev NNames : List Str := ["_law_tape_here", "_law_many", "_law_letters", "_law_turn", "_law_words", "_law_base", "_law_at", "_law_first", "_law_step", "_law_ends", "_law_k"]
theorem scNames : FnScope NNames ["_law_tape_here", "_law_many"] (defScope sNames) := ⟨rfl, rfl, rfl, by decide +kernel, rfl, by decide +kernel, by decide +kernel⟩
abbrev sIs : Stmt := topS 7
abbrev NIs : List Str := ["_law_one", "_law_who", "_law_bearing"]
theorem scIs : FnScope NIs ["_law_one", "_law_who", "_law_bearing"] (defScope sIs) := ⟨rfl, rfl, rfl, by decide +kernel, rfl, by decide +kernel, by decide +kernel⟩
abbrev sLaw : Stmt := topS 8
abbrev NLaw : List Str := ["_law_script", "_law_tape_here", "_law_turn", "_law_names_here", "_law_bearing", "_law_pair", "_law_near", "_law_one", "_law_other", "_law_due", "_law_thing", "_law_row", "_law_boat"]
theorem scLaw : FnScope NLaw ["_law_script"] (defScope sLaw) := ⟨rfl, rfl, rfl, by decide +kernel, rfl, by decide +kernel, by decide +kernel⟩
/-! ### texts of small letters -/
theorem emp (x : Str) : Str.empty ++ x = x := ext_tl (by show (Str.empty ++ x).cps.toList = _; rw [Str.cps_append]; simp [Str.empty])
theorem tl_app (x y : Str) : tl (x ++ y) = tl x ++ tl y := by unfold tl; rw [Str.cps_append]; simp
theorem char_low : ∀ c : Nat, 97 ≤ c → c ≤ 122 → PySem.Builtin.Str.reprChar 39 c = [c] := by
  intro c h1 h2
  have : ∀ c : Nat, c < 123 → 97 ≤ c → PySem.Builtin.Str.reprChar 39 c = [c] := by decide +kernel
  exact this c (by omega) h1
theorem fold_low : ∀ (l : List Nat) (acc : Array Nat), (∀ c ∈ l, 97 ≤ c ∧ c ≤ 122) → (l.foldl (fun out c => out ++ (PySem.Builtin.Str.reprChar 39 c).toArray) acc).toList = acc.toList ++ l
  | [], acc, _ => by simp
  | c :: r, acc, h => by
    have hc := h c List.mem_cons_self
    rw [List.foldl_cons, char_low c hc.1 hc.2, fold_low r _ (fun d hd => h d (List.mem_cons_of_mem _ hd))]
    simp
theorem repr_low {n : Str} (h : Low n) : tl (reprText n) = [39] ++ tl n ++ [39] := by
  have hq : reprQuote n = 39 := by
    unfold reprQuote
    have hc : n.cps.contains 39 = false := by
      rw [← Bool.not_eq_true, Array.contains_iff_mem]
      intro z
      have := h.2 39 (by unfold tl; simpa using z)
      omega
    rw [hc]
    rfl
  unfold reprText tl
  rw [hq, Array.toList_push, ← Array.foldl_toList, fold_low _ _ h.2]
/-- texts of at most m small letters -/
def LowN (m : Nat) (z : Str) : Prop := z.length ≤ m ∧ ∀ c ∈ tl z, 97 ≤ c ∧ c ≤ 122
theorem tl_cut (z : Str) (lo hi : Option Int) : tl (cutS z lo hi) = ((tl z).drop (HT.sIx z.length 0 lo)).take (HT.sIx z.length z.length hi - HT.sIx z.length 0 lo) := by
  unfold tl cutS; simp
theorem cut_low {m : Nat} {z : Str} {lo hi : Option Int} (h : LowN m z) : LowN m (cutS z lo hi) := by
  refine ⟨?_, fun c hc => ?_⟩
  · have := TL.len_tl (cutS z lo hi)
    have h2 := TL.len_tl z
    rw [this, tl_cut, List.length_take, List.length_drop]
    have := h.1
    omega
  · rw [tl_cut] at hc
    exact h.2 c (List.mem_of_mem_drop (List.mem_of_mem_take hc))
theorem app_low {m k : Nat} {y z : Str} (h : LowN m y) (h2 : LowN k z) : LowN (m + k) (y ++ z) := by
  refine ⟨by rw [Str.length_append]; exact Nat.add_le_add h.1 h2.1, fun c hc => ?_⟩
  rw [tl_app] at hc
  rcases List.mem_append.mp hc with hc | hc
  · exact h.2 c hc
  · exact h2.2 c hc
theorem one_low {c : Nat} (h : 97 ≤ c ∧ c ≤ 122) : LowN 1 ⟨#[c]⟩ := ⟨Nat.le_refl _, fun d hd => by
  have : d = c := by simpa [tl] using hd
  rw [this]; exact h⟩
theorem join_low : ∀ ys : List Str, (∀ y ∈ ys, LowN 1 y ∧ y.length = 1) → (TL.joinL [] (ys.map tl)).length = ys.length ∧ ∀ c ∈ TL.joinL [] (ys.map tl), 97 ≤ c ∧ c ≤ 122
  | [], _ => ⟨rfl, fun c hc => by cases hc⟩
  | [y], h => by
    have hy := h y List.mem_cons_self
    exact ⟨by show (tl y).length = 1; rw [← TL.len_tl]; exact hy.2, hy.1.2⟩
  | y :: z :: r, h => by
    have hy := h y List.mem_cons_self
    obtain ⟨i1, i2⟩ := join_low (z :: r) fun w hw => h w (List.mem_cons_of_mem _ hw)
    refine ⟨?_, fun c hc => ?_⟩
    · show (tl y ++ ([] ++ TL.joinL [] ((z :: r).map tl))).length = (z :: r).length + 1
      rw [List.length_append, List.nil_append, i1, ← TL.len_tl, hy.2]
      omega
    · have hc' : c ∈ tl y ++ ([] ++ TL.joinL [] ((z :: r).map tl)) := hc
      rw [List.nil_append] at hc'
      rcases List.mem_append.mp hc' with hc' | hc'
      · exact hy.1.2 c hc'
      · exact i2 c hc'
theorem base_low {ys : List Str} (h : ∀ y ∈ ys, LowN 1 y ∧ y.length = 1) : LowN ys.length (Txt.join Str.empty ys) ∧ (Txt.join Str.empty ys).length = ys.length := by
  obtain ⟨a, b⟩ := join_low ys h
  have e : tl (Txt.join Str.empty ys) = TL.joinL [] (ys.map tl) := by rw [TL.join_eq, TL.tl_join]; rfl
  have l : (Txt.join Str.empty ys).length = ys.length := by rw [TL.len_tl, e, a]
  exact ⟨⟨Nat.le_of_eq l, fun c hc => b c (by rw [← e]; exact hc)⟩, l⟩
theorem letter : ∀ j : Nat, j < 26 → ∃ c, (tl "abcdefghijklmnopqrstuvwxyz")[j]? = some c ∧ 97 ≤ c ∧ c ≤ 122 := by
  have : ∀ j : Nat, j < 26 → (tl "abcdefghijklmnopqrstuvwxyz")[j]? = some (97 + j) := by decide +kernel
  intro j h
  exact ⟨_, this j h, by omega, by omega⟩
def words : List Str := ["near", "far", "water", "ice", "both", "days", "out", "down", "a", "ab", "abcdefgh", "on"]
theorem words_low : ∀ z ∈ words, LowN 8 z := by
  have : words.all (fun z => decide (z.length ≤ 8) && (tl z).all fun c => decide (97 ≤ c) && decide (c ≤ 122)) = true := by decide +kernel
  intro z hz
  have h := List.all_eq_true.mp this z hz
  rw [Bool.and_eq_true, decide_eq_true_eq, List.all_eq_true] at h
  refine ⟨h.1, fun c hc => ?_⟩
  have := h.2 c hc
  rw [Bool.and_eq_true, decide_eq_true_eq, decide_eq_true_eq] at this
  exact this
theorem LowN.low {m : Nat} {z : Str} (h : LowN m z) (hm : m ≤ 40) : Low z := ⟨Nat.le_trans h.1 hm, h.2⟩

theorem boatS_eq (n : Str) (b : Int) : boatS n b = (n ++ ":") ++ Str.ofString (toString b) := by unfold boatS; rw [emp]
theorem boatR_eq {n : Str} (h : Low n) (b : Int) : boatR n b = ((("Boat('" ++ n) ++ "', ") ++ Str.ofString (toString b)) ++ ")" := by
  refine ext_tl ?_
  unfold boatR
  rw [tl_app, tl_app, tl_app, tl_app, emp, repr_low h, tl_app, tl_app, tl_app, tl_app]
  have e1 : tl ("Boat(" : Str) ++ [39] = tl ("Boat('" : Str) := by decide +kernel
  have e2 : [39] ++ tl (", " : Str) = tl ("', " : Str) := by decide +kernel
  rw [← e1, ← e2]
  simp only [List.append_assoc]
theorem cut_from {xs : List V} {t : Nat} (h : t ≤ xs.length) : cutV xs (some (t : Int)) none = xs.drop t := by
  unfold cutV
  rw [show HT.sIx xs.length 0 (some (t : Int)) = min t xs.length from HT.sIx_nat xs.length 0 t, HT.sIx_none, Nat.min_eq_left h]
  exact List.take_of_length_le (by rw [List.length_drop]; exact Nat.le_refl _)
theorem cut_to {xs : List V} {t : Nat} (h : t ≤ xs.length) : cutV xs none (some (t : Int)) = xs.take t := by
  unfold cutV
  rw [HT.sIx_none, show HT.sIx xs.length xs.length (some (t : Int)) = min t xs.length from HT.sIx_nat xs.length _ t, Nat.min_eq_left h]
  show (xs.drop 0).take (t - 0) = _
  rw [Nat.sub_zero]; rfl
def spNames : Sp := fun vs H Q _ => ∃ (T c : Addr) (n : Nat), vs = [.ref T, .int 4] ∧ n < 900000 ∧ Tape H T c n ∧
  ∀ (p : Addr) (zs : List Str) H', zs.length = 4 → (∀ z ∈ zs, Low z) → H' p = some (.lst (zs.map V.str)) → p ≠ T → Tape H' T c (n + 30) → Keep T H H' → Q (.ref p) H'
structure TxtN (mg : Str → Option Value) : Prop where
  mlen : mg "len" = none
  mrange : mg "range" = none
section
variable {P : Program} {w : World} {K : PySem.W.Frag} {mg : Str → Option Value} {base : Heap} {C : Addr}
theorem ok_names {f fD : Addr} {fd fdD : FuncData} {k : Nat} (F : Fun K "_law_names" "_law_names" sNames f fd) (T0 : Txt0 mg) (T : TxtN mg)
    (F_law_draw : Fun K "_law_draw" "_law_draw" sDraw fD fdD) (g_law_draw : mg "_law_draw" = some (.ref fD)) (b_law_draw : Binds K fdD ["_law_tape_here", "_law_many"] []) :
    FnOk P w K mg base CX0 (k + 2) f fd ["_law_tape_here", "_law_many"] spNames := by
  have G_law_draw : FnOk P w K mg base CX0 (k + 1) fD fdD ["_law_tape_here", "_law_many"] spDraw := ok_draw F_law_draw T0
  refine F.ok scNames (fun vs H Q E h => ?_) (fun cdv A outer s H vs Q E hr h => ?_)
  · obtain ⟨a, c, n, rfl, _⟩ := h
    rfl
  · obtain ⟨a, c, n, rfl, hn, hT, q⟩ := h
    have hr_law_draw := hr
    refine ⟨_,
      (pss_cons (ps_set (i := 2) scNames.nd rfl (.inr rfl) pe_str)
      (pss_cons (ps_set (i := 3) scNames.nd rfl (.inl rfl) (pe_call G_law_draw hr_law_draw (by rfl) g_law_draw F_law_draw.kp b_law_draw .nil pass0 (pa_cons (pv 0) (pa_cons pe_int pa_nil))))
      (pss_cons (ps_if (pt_cmpR op_eq (pe_call G_law_draw hr_law_draw (by rfl) g_law_draw F_law_draw.kp b_law_draw .nil pass0 (pa_cons (pv 0) (pa_cons pe_int pa_nil))) pe_int (nomark _))
      (pss_cons (ps_set (i := 4) scNames.nd rfl (.inl rfl) (pe_lst (pa_cons pe_str (pa_cons pe_str (pa_cons pe_str (pa_cons pe_str (pa_cons pe_str (pa_cons pe_str (pa_cons pe_str (pa_cons pe_str (pa_cons pe_str (pa_cons pe_str (pa_cons pe_str (pa_cons pe_str pa_nil))))))))))))))
      (pss_one (ps_ret (pe_slice sl_list (pe_op op_cat (pe_slice sl_list (pv 4) (po_some (pv 3)) po_none) (pe_slice sl_list (pv 4) po_none (po_some (pv 3)))) po_none (po_some (pv 1))))))
      pss_nil)
      (pss_cut (ps_set (i := 5) scNames.nd rfl (.inr rfl) (pe_join pe_str (pe_lc (own := [("_law_k", 10)]) (g := gName 10) (tt := tYes) rfl scNames.nd (pi_range1 (by rfl) T.mrange (pa_cons (pe_op op_add pe_int (pe_call G_law_draw hr_law_draw (by rfl) g_law_draw F_law_draw.kp b_law_draw .nil pass0 (pa_cons (pv 0) (pa_cons pe_int pa_nil)))) pa_nil)) (blkOk_by (N := NNames) (own := [("_law_k", 10)]) (sc := defScope sNames) (by decide +kernel)) (fun _ _ _ _ _ => pg_name (i := 10) scNames.nd rfl (Or.inl rfl)) (fun _ _ _ _ _ => pts_nil) (fun _ _ _ _ _ => (pe_ix ix_str (pv 2) (pe_call G_law_draw hr_law_draw (by rfl) g_law_draw F_law_draw.kp b_law_draw .nil pass0 (pa_cons (pv 0) (pa_cons pe_int pa_nil))) (fun _ _ => rfl))))))
      (pss_cut (ps_asg (pe_tup (pa_cons (pe_call G_law_draw hr_law_draw (by rfl) g_law_draw F_law_draw.kp b_law_draw .nil pass0 (pa_cons (pv 0) (pa_cons (pe_callB call_len_str (by rfl) T.mlen PySem.boot_len (pa_cons (pv 5) pa_nil)) pa_nil))) (pa_cons (pe_call G_law_draw hr_law_draw (by rfl) g_law_draw F_law_draw.kp b_law_draw .nil pass0 (pa_cons (pv 0) (pa_cons pe_int pa_nil))) pa_nil))) (pg_tup rfl (pgs_cons (pg_name (i := 6) scNames.nd rfl (.inr rfl)) (pgs_cons (pg_name (i := 7) scNames.nd rfl (.inr rfl)) pgs_nil))))
      (pss_cut (ps_set (i := 8) scNames.nd rfl (.inr rfl) (pe_ix ix_list (pe_lst (pa_cons pe_int (pa_cons pe_int (pa_cons pe_int (pa_cons pe_int (pa_cons pe_int (pa_cons pe_int (pa_cons pe_int (pa_cons pe_int (pa_cons pe_int (pa_cons pe_int (pa_cons pe_int (pa_cons pe_int pa_nil))))))))))))) (pv 3) (fun _ _ => rfl)))
      (pss_cut (ps_set (i := 9) scNames.nd rfl (.inr rfl) (pe_lc (own := [("_law_k", 10)]) (g := gName 10) (tt := tYes) rfl scNames.nd (pi_range1 (by rfl) T.mrange (pa_cons (pv 1) pa_nil)) (blkOk_by (N := NNames) (own := [("_law_k", 10)]) (sc := defScope sNames) (by decide +kernel)) (fun _ _ _ _ _ => pg_name (i := 10) scNames.nd rfl (Or.inl rfl)) (fun _ _ _ _ _ => pts_nil) (fun _ _ _ _ _ => (pe_slice sl_str (pe_slice sl_str (pv 5) (po_some (pe_op op_add (pv 6) pe_int)) po_none) po_none (po_some (pe_call G_law_draw hr_law_draw (by rfl) g_law_draw F_law_draw.kp b_law_draw .nil pass0 (pa_cons (pv 0) (pa_cons pe_int pa_nil))))))))
      (pss_one (ps_ret (pe_lc (own := [("_law_k", 10)]) (g := gName 10) (tt := tYes) rfl scNames.nd (pi_range1 (by rfl) T.mrange (pa_cons (pv 1) pa_nil)) (blkOk_by (N := NNames) (own := [("_law_k", 10)]) (sc := defScope sNames) (by decide +kernel)) (fun _ _ _ _ _ => pg_name (i := 10) scNames.nd rfl (Or.inl rfl)) (fun _ _ _ _ _ => pts_nil) (fun _ _ _ _ _ => (pe_op op_add_str (pe_op op_add_str (pe_slice sl_str (pv 5) po_none (po_some (pv 6))) (pe_ix ix_str (pv 2) (pe_op op_modN (pe_op op_add (pv 7) (pe_op op_mul (pv 8) (pv 10))) pe_int) (fun _ _ => rfl))) (pe_ix (r := rIxL K) ix_list (pv 9) (pv 10) (fun _ _ => rfl))))))))))))))
      , ?_⟩
    refine ⟨_, rfl, a, c, 12, n, rfl, by omega, by omega, by omega, hT, fun t H1 t0 t1 T1 k1 => ?_⟩
    obtain ⟨tn, rfl⟩ := Int.eq_ofNat_of_zero_le t0
    refine ⟨_, rfl, a, c, 5, n + 1, rfl, by omega, by omega, by omega, T1, fun d5 H2 _ _ T2 k2 => ⟨rfl, _, rfl, ite2 (fun _ => ?_) (fun _ => ?_)⟩⟩
    · -- written names
      refine ⟨by show 12 ≤ sizeLine; decide, fun pw npw => ?_⟩
      have hw : (upd H2 pw (.lst (words.map V.str))) pw = some (.lst (words.map V.str)) := upd_same
      have lw : (words.map V.str).length = 12 := rfl
      have ht : tn ≤ (words.map V.str).length := by rw [lw]; omega
      refine ⟨_, rfl, _, rfl, (tn : Int), rfl, pw, words.map V.str, rfl, SqL.of hw, fun c1 n1 => ?_⟩
      have hw1 := upd_at (o := .lst (cutV (words.map V.str) (some (tn : Int)) none)) n1 hw
      refine ⟨_, rfl, _, rfl, (tn : Int), rfl, pw, words.map V.str, rfl, SqL.of hw1, fun c2 n2 => ?_⟩
      rw [cut_from ht, cut_to ht]
      rw [cut_from ht] at n2
      refine ⟨_, _, _, _, rfl, rfl, upd_at n2 upd_same, upd_same, by rw [List.length_drop, List.length_take, lw]; exact small_line (by omega), fun c3 n3 => ?_⟩
      refine ⟨_, rfl, 4, rfl, c3, _, rfl, SqL.of upd_same, fun c4 n4 => ?_⟩
      have l4 : 4 ≤ ((words.map V.str).drop tn ++ (words.map V.str).take tn).length := by rw [List.length_append, List.length_drop, List.length_take, lw]; omega
      rw [show cutV _ none (some 4) = _ from cut_to (t := 4) l4]
      refine q c4 ((words.drop tn ++ words.take tn).take 4) _ ?_ ?_ ?_ ?_ ?_ ?_
      · rw [List.length_take, List.length_append, List.length_drop, List.length_take]
        show min 4 ((12 - tn) + min tn 12) = 4
        omega
      · intro z hz
        have hz' := List.mem_of_mem_take hz
        rcases List.mem_append.mp hz' with hz' | hz'
        · exact (words_low z (List.mem_of_mem_drop hz')).low (by decide)
        · exact (words_low z (List.mem_of_mem_take hz')).low (by decide)
      · rw [upd_same, List.map_take, List.map_append, List.map_drop, List.map_take]
      · exact ((((T2.new npw).new n1).new n2).new n3).ne n4
      · exact (((((T2.new npw).new n1).new n2).new n3).new n4).mono (by omega)
      · exact (((((k1.trans k2).new npw).new n1).new n2).new n3).new n4
    -- a drawn base
    refine ⟨fun σ H' => ∃ base : Str, LowN 8 base ∧ 0 < base.length ∧ σ = [some (.ref a), some (.int 4), some (.str "abcdefghijklmnopqrstuvwxyz"), some (.int (tn : Int)), none, some (.str base), none, none, none, none, none] ∧ Tape H' a c (n + 11) ∧ Keep a H H', ?_, ?_⟩
    · refine ⟨⟨_, rfl⟩, _, rfl, a, c, 8, n + 2, rfl, by omega, by omega, by omega, T2, fun d8 H3 d80 d81 T3 k3 => ⟨_, _, rfl, rfl, 1 + d8, rfl, by omega, by omega, fun D nD => ?_⟩⟩
      have nDa : D ≠ a := T3.ne nD
      have nDc : D ≠ c := T3.nec nD
      refine lc_range (lo := 0) (n := (1 + d8).toNat) (fun i H' => ∃ ys : List Str, ys.length = i ∧ (∀ y ∈ ys, LowN 1 y ∧ y.length = 1) ∧ H' D = some (.lst (ys.map V.str)) ∧ Tape H' a c (n + 3 + i) ∧ Keep a H H')
        ⟨[], rfl, fun y hy => (by cases hy), upd_same, T3.new nD, ((k1.trans k2).trans k3).new nD⟩ ?_ ?_
      · rintro i H' hi ⟨ys, ly, lo, eD, Ti, ki⟩
        refine ⟨rfl, _, rfl, _, rfl, a, c, 26, n + 3 + i, rfl, by omega, by omega, by omega, Ti, fun d H4 d0 d1 T4 k4 => ?_⟩
        obtain ⟨dn, rfl⟩ := Int.eq_ofNat_of_zero_le d0
        obtain ⟨ch, hc, c0, c1⟩ := letter dn (by omega)
        refine ⟨_, _, ch, rfl, rfl, small_line (by decide), atI_nat hc, _, k4 _ _ nDa eD, by rw [List.length_map]; exact Nat.lt_of_lt_of_le (show ys.length < 100 by omega) (small_line (by decide)), ys ++ [⟨#[ch]⟩], by rw [List.length_append, ly]; rfl, ?_, ?_, ?_, ?_⟩
        · intro y hy
          rcases List.mem_append.mp hy with hy | hy
          · exact lo y hy
          · rw [List.mem_singleton.mp hy]; exact ⟨one_low ⟨c0, c1⟩, rfl⟩
        · rw [upd_same, List.map_append]; rfl
        · exact (T4.upd nDa nDc).mono (by omega)
        · exact fun x o nx e => by rw [upd_ne (ne_of_none (k1 x o nx e |> k2 x o nx |> k3 x o nx) nD)]; exact k4 x o nx (ki x o nx e)
      · rintro H' ⟨ys, ly, lo, eD, Ti, ki⟩
        obtain ⟨b1, b2⟩ := base_low lo
        have len1 : ∀ l : List Str, (∀ y ∈ l, LowN 1 y ∧ y.length = 1) → (l.map (·.length)).sum = l.length := fun l => by
          induction l with
          | nil => intro _; rfl
          | cons z r ih => intro h; rw [List.map_cons, List.sum_cons, ih (fun w hw => h w (List.mem_cons_of_mem _ hw)), (h z List.mem_cons_self).2, List.length_cons]; omega
        refine ⟨Str.empty, D, ys, rfl, rfl, .inl (SqL.of eD), ?_, Txt.join Str.empty ys, ?_, ?_, rfl, Ti.mono (by omega), ki⟩
        · rw [len1 ys lo]; show ys.length + ys.length * 0 ≤ 16777216; omega
        · exact ⟨by rw [b2]; omega, b1.2⟩
        · rw [b2]; omega
    rintro σ H5 ⟨base, lb, pb, rfl, T5, k5⟩
    -- at, first
    refine ⟨fun σ H' => ∃ (at_ fst : Nat), at_ < base.length ∧ fst < 26 ∧ σ = [some (.ref a), some (.int 4), some (.str "abcdefghijklmnopqrstuvwxyz"), some (.int (tn : Int)), none, some (.str base), some (.int (at_ : Int)), some (.int (fst : Int)), none, none, none] ∧ Tape H' a c (n + 13) ∧ Keep a H H', ?_, ?_⟩
    · have lb8 := lb.1
      refine ⟨_, rfl, _, rfl, base, rfl, small_line (by omega), a, c, base.length, n + 11, rfl, by omega, by omega, by omega, T5, fun d6 H6 d60 d61 T6 k6 => ?_⟩
      refine ⟨_, rfl, a, c, 26, n + 12, rfl, by omega, by omega, by omega, T6, fun d7 H7 d70 d71 T7 k7 => ⟨by show 2 ≤ sizeLine; decide, fun pt npt => ?_⟩⟩
      obtain ⟨m6, rfl⟩ := Int.eq_ofNat_of_zero_le d60
      obtain ⟨m7, rfl⟩ := Int.eq_ofNat_of_zero_le d70
      exact ⟨pt, _, rfl, .inl (.inl upd_same), rfl, _, _, rfl, _, _, rfl, rfl, m6, m7, by omega, by omega, rfl, (T7.new npt).mono (by omega), ((k5.trans k6).trans k7).new npt⟩
    rintro σ H8 ⟨at_, fst, hat, hfst, rfl, T8, k8⟩
    -- step
    refine ⟨fun σ H' => ∃ st : Int, 0 < st ∧ st < 100 ∧ σ = [some (.ref a), some (.int 4), some (.str "abcdefghijklmnopqrstuvwxyz"), some (.int (tn : Int)), none, some (.str base), some (.int (at_ : Int)), some (.int (fst : Int)), some (.int st), none, none] ∧ Tape H' a c (n + 13) ∧ Keep a H H', ?_, ?_⟩
    · refine ⟨by show 12 ≤ sizeLine; decide, fun pl npl => ?_⟩
      have hst : ∃ st : Int, ([.int 1, .int 3, .int 5, .int 7, .int 9, .int 11, .int 15, .int 17, .int 19, .int 21, .int 23, .int 25] : List V)[tn]? = some (.int st) ∧ 0 < st ∧ st < 100 := by
        have ht12 : tn < 12 := by omega
        have : ∀ j : Nat, j < 12 → ∃ st : Int, ([.int 1, .int 3, .int 5, .int 7, .int 9, .int 11, .int 15, .int 17, .int 19, .int 21, .int 23, .int 25] : List V)[j]? = some (.int st) ∧ 0 < st ∧ st < 100
          | 0, _ => ⟨_, rfl, by decide, by decide⟩ | 1, _ => ⟨_, rfl, by decide, by decide⟩ | 2, _ => ⟨_, rfl, by decide, by decide⟩ | 3, _ => ⟨_, rfl, by decide, by decide⟩
          | 4, _ => ⟨_, rfl, by decide, by decide⟩ | 5, _ => ⟨_, rfl, by decide, by decide⟩ | 6, _ => ⟨_, rfl, by decide, by decide⟩ | 7, _ => ⟨_, rfl, by decide, by decide⟩
          | 8, _ => ⟨_, rfl, by decide, by decide⟩ | 9, _ => ⟨_, rfl, by decide, by decide⟩ | 10, _ => ⟨_, rfl, by decide, by decide⟩ | 11, _ => ⟨_, rfl, by decide, by decide⟩
          | n + 12, h => absurd h (by omega)
        exact this tn ht12
      obtain ⟨st, hst, s0, s1⟩ := hst
      exact ⟨_, rfl, pl, _, (tn : Int), _, rfl, rfl, SqL.of upd_same, atI_nat hst, st, s0, s1, rfl, T8.new npl, k8.new npl⟩
    rintro σ H9 ⟨st, hst0, hst1, rfl, T9, k9⟩
    -- ends
    refine ⟨fun σ H' => ∃ (pe : Addr) (zs : List Str), zs.length = 4 ∧ (∀ z ∈ zs, LowN 8 z) ∧ σ = [some (.ref a), some (.int 4), some (.str "abcdefghijklmnopqrstuvwxyz"), some (.int (tn : Int)), none, some (.str base), some (.int (at_ : Int)), some (.int (fst : Int)), some (.int st), some (.ref pe), none] ∧ H' pe = some (.lst (zs.map V.str)) ∧ pe ≠ a ∧ Tape H' a c (n + 17) ∧ Keep a H H', ?_, ?_⟩
    · refine ⟨_, rfl, 4, rfl, by omega, by omega, fun D nD => ?_⟩
      have nDa : D ≠ a := T9.ne nD
      have nDc : D ≠ c := T9.nec nD
      refine lc_range (lo := 0) (n := 4) (fun i H' => ∃ ys : List Str, ys.length = i ∧ (∀ y ∈ ys, LowN 8 y) ∧ H' D = some (.lst (ys.map V.str)) ∧ Tape H' a c (n + 13 + i) ∧ Keep a H H')
        ⟨[], rfl, fun y hy => (by cases hy), upd_same, T9.new nD, k9.new nD⟩ ?_ ?_
      · rintro i H' hi ⟨ys, ly, lo, eD, Ti, ki⟩
        have hD0 : H D = none := by
          cases e : H D with
          | none => rfl
          | some o => rw [k9 D o nDa e] at nD; cases nD
        refine ⟨rfl, _, rfl, _, rfl, _, _, rfl, rfl, _, rfl, base, rfl, small_line (by have := lb.1; omega), _, rfl, a, c, 8, n + 13 + i, rfl, by omega, by omega, by omega, Ti, fun d H4 d0 d1 T4 k4 => ?_⟩
        have lc1 : LowN 8 (cutS base (some ((at_ : Int) + 1)) none) := cut_low lb
        have lc2 : LowN 8 (cutS (cutS base (some ((at_ : Int) + 1)) none) none (some d)) := cut_low lc1
        refine ⟨d, rfl, _, rfl, small_line (by have := lc1.1; omega), _, k4 _ _ nDa eD, by rw [List.length_map]; exact Nat.lt_of_lt_of_le (show ys.length < 100 by omega) (small_line (by decide)), ys ++ [cutS (cutS base (some ((at_ : Int) + 1)) none) none (some d)], by rw [List.length_append, ly]; rfl, ?_, ?_, ?_, ?_⟩
        · intro y hy
          rcases List.mem_append.mp hy with hy | hy
          · exact lo y hy
          · rw [List.mem_singleton.mp hy]; exact lc2
        · rw [upd_same, List.map_append]; rfl
        · exact (T4.upd nDa nDc).mono (by omega)
        · exact fun x o nx e => by rw [upd_ne (ne_of_none e hD0)]; exact k4 x o nx (ki x o nx e)
      · rintro H' ⟨ys, ly, lo, eD, Ti, ki⟩
        exact ⟨D, ys, ly, lo, rfl, eD, nDa, Ti.mono (by omega), ki⟩
    rintro σ H10 ⟨pe, zs, lz, lz8, rfl, epe, nea, T10, k10⟩
    refine ⟨_, rfl, 4, rfl, by omega, by omega, fun D nD => ?_⟩
    have nDa : D ≠ a := T10.ne nD
    have nDc : D ≠ c := T10.nec nD
    refine lc_range (lo := 0) (n := 4) (fun i H' => ∃ ys : List Str, ys.length = i ∧ (∀ y ∈ ys, LowN 17 y) ∧ Same H10 H' ∧ H' D = some (.lst (ys.map V.str)))
      ⟨[], rfl, fun y hy => (by cases hy), same_upd nD, upd_same⟩ ?_ ?_
    · rintro i H' hi ⟨ys, ly, lo, si, eD⟩
      obtain ⟨e1, e2⟩ := fmod_in (a := (fst : Int) + st * (0 + (i : Int))) (b := 26) (by decide)
      obtain ⟨j, hj⟩ := Int.eq_ofNat_of_zero_le e1
      obtain ⟨ch, hc, c0, c1⟩ := letter j (by omega)
      have l1 : LowN 8 (cutS base none (some (at_ : Int))) := cut_low lb
      have l2 : LowN 9 (cutS base none (some (at_ : Int)) ++ ⟨#[ch]⟩) := app_low l1 (one_low ⟨c0, c1⟩)
      have hz : i < zs.length := by omega
      have l3 : LowN 17 (cutS base none (some (at_ : Int)) ++ ⟨#[ch]⟩ ++ zs[i]) := app_low l2 (lz8 _ (List.getElem_mem hz))
      have gz : (zs.map V.str)[i]? = some (.str zs[i]) := by rw [List.getElem?_map, List.getElem?_eq_getElem hz]; rfl
      refine ⟨rfl, _, rfl, _, rfl, (at_ : Int), rfl, base, rfl, small_line (by have := lb.1; omega), _, rfl, _, rfl, _, rfl, _, rfl, _, _, rfl, rfl, .inl ⟨by omega, by omega⟩, _, _, rfl, rfl, _, _, rfl, rfl, (by show (26 : Int) ≠ 0; decide), "abcdefghijklmnopqrstuvwxyz", (j : Int), ch, rfl, congrArg V.int hj, small_line (by decide), atI_nat hc, _, _, rfl, rfl, small_line (by have := l1.1; show _ + 1 ≤ 100; omega), _, rfl, _, rfl, pe, zs.map V.str, (i : Int), _, rfl, ?_, SqL.of (si _ _ epe), atI_nat gz, _, _, rfl, rfl, ?_, _, eD, ?_, ys ++ [cutS base none (some (at_ : Int)) ++ ⟨#[ch]⟩ ++ zs[i]], ?_, ?_, ?_, ?_⟩
      · exact congrArg V.int (by omega)
      · have := l2.1
        have := (lz8 _ (List.getElem_mem hz)).1
        exact small_line (by omega)
      · rw [List.length_map]; exact Nat.lt_of_lt_of_le (show ys.length < 100 by omega) (small_line (by decide))
      · rw [List.length_append, ly]; rfl
      · intro y hy
        rcases List.mem_append.mp hy with hy | hy
        · exact lo y hy
        · rw [List.mem_singleton.mp hy]; exact l3
      · exact fun x o e => by rw [upd_ne (ne_of_none e nD)]; exact si x o e
      · rw [upd_same, List.map_append]; rfl
    · rintro H' ⟨ys, ly, lo, si, eD⟩
      exact q D ys H' ly (fun z hz => (lo z hz).low (by decide)) eD nDa ((T10.same si).mono (by omega)) (k10.same si)
/-- a Boat is as it was made, by its fields and its two texts -/
def spIs (C : Addr) : Sp := fun vs H Q _ => ∃ (p : Addr) (n : Str) (b : Int), vs = [.ref p, .str n, .int b] ∧ BoatAt C H p n b ∧ Low n ∧ 0 ≤ b ∧ b < 10000000 ∧ ∀ H', Same H H' → Q (.bl true) H'
structure TxtI (mg : Str → Option Value) : Prop where
  misinstance : mg "isinstance" = none
  mint : mg "int" = none
  mbool : mg "bool" = none
  mstr : mg "str" = none
  mrepr : mg "repr" = none
theorem dp_si {K : PySem.W.Frag} {H : Hp} {t : Addr} {n : Str} {b : Int} (h : H t = some (.tup [.str n, .int b])) : Dp K H (.ref t) (.tuple [.str n, .int b]) := .tup (SqT.of h) (.cons (.str _) (.cons (.int _) .nil))
theorem low_ok {n : Str} (h : Low n) : PyData.strOk n = true := by
  unfold PyData.strOk
  rw [Array.all_eq_true]
  intro i hi
  have := h.2 n.cps[i] (by unfold tl; simp)
  exact decide_eq_true (by omega)
theorem si_shaped {n : Str} (h : Low n) (b : Int) : SeqAt.shaped (PyData.tuple [.str n, .int b]) = true := by
  show ((PyData.strOk n && (true && true)) && decide (1 ≤ 64)) = true
  rw [low_ok h]
  rfl
theorem si_eqv (n : Str) (b : Int) : PyData.eqv (.tuple [.str n, .int b]) (.tuple [.str n, .int b]) = true := by simp [PyData.eqv, PyData.eqvAll]
theorem ok_is {f fS fR : Addr} {fd fdS fdR : FuncData} {k : Nat} (F : Fun K "_law_is" "_law_is" sIs f fd) (TB : BCl K mg C) (T : TxtI mg)
    (mSstr : Meth K C "__str__" fS) (FS : Fun K "__str__" "Boat.__str__" sBStr fS fdS) (bSstr : Binds K fdS ["self"] [])
    (mSrepr : Meth K C "__repr__" fR) (FR : Fun K "__repr__" "Boat.__repr__" sBRepr fR fdR) (bSrepr : Binds K fdR ["self"] []) :
    FnOk P w K mg base CX0 (k + 4) f fd ["_law_one", "_law_who", "_law_bearing"] (spIs C) := by
  have GSstr : FnOk P w K mg base CX0 (k + 1) fS fdS ["self"] (spBStr C) := ok_bstr FS TB
  have GSrepr : FnOk P w K mg base CX0 (k + 1) fR fdR ["self"] (spBRepr C) := ok_brepr FR TB
  refine F.ok scIs (fun vs H Q E h => ?_) (fun cdv A outer s H vs Q E hr h => ?_)
  · obtain ⟨p, n, b, rfl, _⟩ := h
    rfl
  · obtain ⟨p, n, b, rfl, hp, hl, hb0, hb1, q⟩ := h
    have hrstr := hr
    have hrrepr : Room (k + 2) _ := hr.mono (by omega)
    refine ⟨_,
      (pss_cons (ps_if (PW.pt (pw_or (pt_not (pt_val (pe_callB call_isi (by rfl) T.misinstance (by decide +kernel) (pa_cons (pe_fld (pv 0) rfl) (pa_cons (pe_bltn (v := .ty "int") (u := .type "int") (by rfl) T.mint (by decide +kernel) rfl) pa_nil))))) (pw_or (pt_val (pe_callB call_isi (by rfl) T.misinstance (by decide +kernel) (pa_cons (pe_fld (pv 0) rfl) (pa_cons (pe_bltn (v := .ty "bool") (u := .type "bool") (by rfl) T.mbool (by decide +kernel) rfl) pa_nil)))) (pw_or1 (pt_cmpR (op_neD hr.units) (pe_tup (pa_cons (pe_fld (pv 0) rfl) (pa_cons (pe_fld (pv 0) rfl) pa_nil))) (pe_tup (pa_cons (pv 1) (pa_cons (pv 2) pa_nil))) (nomark _))))))
      (pss_one (ps_ret pe_bl))
      pss_nil)
      (pss_one (ps_ret (pe_and (pe_cmpR op_eq (pe_callTy (call_strOwn mSstr.at_ mSstr.fn GSstr bSstr hrstr pass0) (by rfl) T.mstr (by decide +kernel) (pa_cons (pv 0) pa_nil)) (pe_op op_add_str (pe_op op_add_str (pv 1) pe_str) (pe_callTy call_str_int (by rfl) T.mstr (by decide +kernel) (pa_cons (pv 2) pa_nil))) (nomark _)) (pe_one (pe_cmpR op_eq (pe_callB (call_reprOwn mSrepr.at_ mSrepr.fn GSrepr bSrepr hrrepr pass0) (by rfl) T.mrepr (by decide +kernel) (pa_cons (pv 0) pa_nil)) (pe_op op_add_str (pe_op op_add_str (pe_op op_add_str (pe_op op_add_str pe_str (pv 1)) pe_str) (pe_callTy call_str_int (by rfl) T.mstr (by decide +kernel) (pa_cons (pv 2) pa_nil))) pe_str) (nomark _)))))))
      , ?_⟩
    obtain ⟨dx, ep⟩ := id hp
    refine ⟨_, rfl, p, C, dx, _, _, rfl, ep, TB.cl, TB.nB, boatF_bears n b, _, _, _, _, true, rfl, .ty "int", .base (.int _), kit_ty (by decide +kernel), _, rfl, ?_⟩
    refine ⟨_, rfl, p, C, dx, _, _, rfl, ep, TB.cl, TB.nB, boatF_bears n b, _, _, _, _, false, rfl, .ty "bool", .base (.int _), kit_ty (by decide +kernel), _, rfl, ?_⟩
    refine ⟨_, rfl, p, C, dx, _, _, rfl, ep, TB.cl, TB.nN, boatF_name n b, _, rfl, p, C, dx, _, _, rfl, ep, TB.cl, TB.nB, boatF_bears n b, by show 2 ≤ sizeLine; decide, fun t1 nt1 => ?_⟩
    refine ⟨_, rfl, _, rfl, by show 2 ≤ sizeLine; decide, fun t2 nt2 => ?_⟩
    refine ⟨.tuple [.str n, .int b], .tuple [.str n, .int b], dp_si (upd_at nt2 upd_same), dp_si upd_same, si_shaped hl b, si_shaped hl b, _, rfl, ite2 (fun z => ?_) (fun _ => ?_)⟩
    · rw [si_eqv] at z
      exact absurd z (by decide)
    have ss : Same H (upd (upd H t1 (.tup [.str n, .int b])) t2 (.tup [.str n, .int b])) := (same_upd nt1).trans (same_upd nt2)
    have nl := num_len hb0 hb1
    have ln := hl.1
    refine ⟨_, rfl, p, dx, _, rfl, ss _ _ ep, p, n, b, rfl, ⟨dx, ss _ _ ep⟩, hl.1, hb0, hb1, _, rfl, ?_⟩
    refine ⟨_, rfl, _, _, rfl, rfl, line1000 (by show n.length + 1 ≤ 1000; omega), _, rfl, b, rfl, log_small (by omega), _, _, rfl, rfl, line1000 (by rw [Str.length_append]; show n.length + 1 + _ ≤ 1000; omega), rfl, _, rfl, ite2 (fun _ => ?_) (fun z => absurd (decide_eq_true (congrArg V.str (boatS_eq n b))) z)⟩
    refine ⟨_, rfl, p, dx, _, rfl, ss _ _ ep, p, n, b, rfl, ⟨dx, ss _ _ ep⟩, hl, hb0, hb1, _, rfl, ?_⟩
    refine ⟨_, rfl, _, _, rfl, rfl, line1000 (by show 6 + n.length ≤ 1000; omega), _, _, rfl, rfl, line1000 (by rw [Str.length_append]; show 6 + n.length + 3 ≤ 1000; omega), _, rfl, b, rfl, log_small (by omega), _, _, rfl, rfl, line1000 (by rw [Str.length_append, Str.length_append]; show 6 + n.length + 3 + _ ≤ 1000; omega), _, _, rfl, rfl, line1000 (by rw [Str.length_append, Str.length_append, Str.length_append]; show 6 + n.length + 3 + _ + 1 ≤ 1000; omega), rfl, ?_⟩
    rw [decide_eq_true (congrArg V.str (boatR_eq hl b))]
    exact q _ ss
end
/-! ### the law -/
def spLaw (K : PySem.W.Frag) : Sp := fun vs H Q _ => ∃ (a : Addr) (ns : List Int), vs = [.ref a] ∧ SqL K H a (ns.map V.int) ∧ ns.length ≤ 63 ∧ ∀ H', Q (.bl true) H'
structure TxtL (mg : Str → Option Value) : Prop where
  mlen : mg "len" = none
  mmax : mg "max" = none
  mmin : mg "min" = none
  mrange : mg "range" = none
  mstr : mg "str" = none
  mrepr : mg "repr" = none
  mint : mg "int" = none
/-- two Boats, and whether they are equal -/
def DBoat (C : Addr) : V → V → Hp → Bool → Prop := fun x y H r => ∃ (p q : Addr) (n m : Str) (b c : Int), x = .ref p ∧ y = .ref q ∧ BoatAt C H p n b ∧ BoatAt C H q m c ∧ r = (decide (n = m) && decide (b = c))
theorem boat_one {C : Addr} {H : Hp} {p : Addr} {n m : Str} {b c : Int} (h1 : BoatAt C H p n b) (h2 : BoatAt C H p m c) : n = m ∧ b = c := by
  obtain ⟨dx, e1⟩ := h1
  obtain ⟨dy, e2⟩ := h2
  rw [e1] at e2
  have e := HO.ins.inj (Option.some.inj e2)
  have l1 := congrArg (fun l => List.lookup ("name" : Str) l) e.2.2
  have l2 := congrArg (fun l => List.lookup ("bears" : Str) l) e.2.2
  simp only [boatF_name, boatF_bears] at l1 l2
  exact ⟨V.str.inj (Option.some.inj l1), V.int.inj (Option.some.inj l2)⟩
theorem dok (C : Addr) : DOk C (DBoat C) where
  ins := by
    rintro x y H r ⟨p, q, n, m, b, c, rfl, rfl, ⟨dx, e1⟩, ⟨dy, e2⟩, _⟩
    exact ⟨p, dx, _, q, dy, _, rfl, e1, rfl, e2⟩
  self := by
    rintro x H r ⟨p, q, n, m, b, c, rfl, e, h1, h2, rfl⟩
    cases e
    obtain ⟨e1, e2⟩ := boat_one h1 h2
    rw [decide_eq_true e1, decide_eq_true e2]; rfl
  mono := by
    rintro x y H H' r s ⟨p, q, n, m, b, c, e1, e2, h1, h2, e⟩
    exact ⟨p, q, n, m, b, c, e1, e2, h1.same s, h2.same s, e⟩
theorem made_same {H H' : Hp} {x dx : Addr} {o1 o2 : HO} (hx : H x = none) (hdx : H dx = none) (k : ∀ y o, y ≠ x → (upd (upd H dx o1) x o2) y = some o → H' y = some o) : Same H H' := fun y o e =>
  k y o (ne_of_none e hx) (by rw [upd_ne (ne_of_none e hx), upd_ne (ne_of_none e hdx)]; exact e)
/-- self, then name, bears out of bears = .., name = .. -/
def kwB {α : Type} (us ws : List α) : List α := us ++ ws.reverse
theorem vals_rev : ∀ {zs : List V} {ws : List Value}, Vals zs ws → Vals zs.reverse ws.reverse
  | _, _, .nil => .nil
  | _, _, .cons r t => by
    rw [List.reverse_cons, List.reverse_cons]
    exact (vals_rev t).append (.cons r .nil)
theorem si_eqv2 (n m : Str) (b c : Int) : PyData.eqv (.tuple [.str n, .int b]) (.tuple [.str m, .int c]) = (decide (n = m) && decide (b = c)) := by
  rw [Bool.eq_iff_iff]
  simp [PyData.eqv, PyData.eqvAll]
/-- things that are none of the class -/
structure Alien (K : PySem.W.Frag) (C : Addr) (T : String) : Prop where
  kit : PySem.W.kitOne K (.type T) (.ref C) = some false
  nf : PySem.W.notFirst K C (.type T) = true
structure Aliens (K : PySem.W.Frag) (C : Addr) : Prop where
  non : Alien K C "NoneType"
  int : Alien K C "int"
  str : Alien K C "str"
  lst : Alien K C "list"
  tup : Alien K C "tuple"
  dct : Alien K C "dict"
theorem dp_bools {K : PySem.W.Frag} {H : Hp} {l : Addr} {r1 r2 r3 r4 : Bool} (h : H l = some (.lst [.bl r1, .bl r2, .bl r3, .bl r4])) : Dp K H (.ref l) (.list [.bool r1, .bool r2, .bool r3, .bool r4]) := .lst (SqL.of h) (.cons (.bl _) (.cons (.bl _) (.cons (.bl _) (.cons (.bl _) .nil))))
/-- which items of a row are equal to the first Boat, where the other one is so by r -/
def rowB (r : Bool) : Nat → Bool
  | 0 => r
  | 1 => false
  | 2 => true
  | 3 => r
  | _ => false
theorem rowB_first (r : Bool) : ∃ j : Nat, j < 4 ∧ rowB r j = true ∧ (∀ m, m < j → rowB r m = false) ∧ atI [V.int 2, .int 0] (if r = true then 1 else 0) = some (.int (j : Int)) := by
  cases r
  · refine ⟨2, by decide, rfl, fun m hm => ?_, rfl⟩
    rcases m with _ | _ | m
    · rfl
    · rfl
    · omega
  · exact ⟨0, by decide, rfl, fun m hm => by omega, rfl⟩
theorem rowB_count (r : Bool) : cntB (rowB r) 4 0 = 1 + 2 * (if r = true then 1 else 0) := by cases r <;> rfl
/-- what stands once both Boats are made -/
structure Both (C : Addr) (H : Hp) (pp pq x y : Addr) (n1 n2 : Str) (b1 b2 : Int) : Prop where
  hp : H pp = some (.tup [.str n1, .int b1])
  hq : H pq = some (.tup [.str n2, .int b2])
  hx : BoatAt C H x n1 b1
  hy : BoatAt C H y n2 b2
  l1 : Low n1
  l2 : Low n2
  r1 : 1 ≤ b1 ∧ b1 ≤ 1000000
  r2 : 1 ≤ b2 ∧ b2 ≤ 1000000
theorem Both.same {C : Addr} {H H' : Hp} {pp pq x y : Addr} {n1 n2 : Str} {b1 b2 : Int} (h : Both C H pp pq x y n1 n2 b1 b2) (s : Same H H') : Both C H' pp pq x y n1 n2 b1 b2 :=
  ⟨s _ _ h.hp, s _ _ h.hq, h.hx.same s, h.hy.same s, h.l1, h.l2, h.r1, h.r2⟩
section
variable {P : Program} {w : World} {K : PySem.W.Frag} {mg : Str → Option Value} {base : Heap} {C : Addr}
theorem ok_law {f fTape fD fP fI fE fS fR fN fIs : Addr} {fd fdTape fdD fdP fdI fdE fdS fdR fdN fdIs : FuncData} (F : Fun K "law" "law" sLaw f fd) (T0 : Txt0 mg) (TN : TxtN mg) (TI : TxtI mg) (T : TxtL mg) (TB : BCl K mg C) (TA : Aliens K C)
    (MBoat : Mk K C fI) (FI : Fun K "__init__" "Boat.__init__" sBInit fI fdI) (bBoat : Binds K fdI ["self", "name", "bears"] []) (kbBoat : KBn K fdI ["self", "name", "bears"] 1 ["bears", "name"] kwB kwB)
    (mE : Meth K C "__eq__" fE) (FE : Fun K "__eq__" "Boat.__eq__" sBEq fE fdE) (bE : Binds K fdE ["self", "other"] [])
    (mSstr : Meth K C "__str__" fS) (FS : Fun K "__str__" "Boat.__str__" sBStr fS fdS) (bSstr : Binds K fdS ["self"] [])
    (mSrepr : Meth K C "__repr__" fR) (FR : Fun K "__repr__" "Boat.__repr__" sBRepr fR fdR) (bSrepr : Binds K fdR ["self"] [])
    (F_law_tape : Fun K "_law_tape" "_law_tape" sTape fTape fdTape) (g_law_tape : mg "_law_tape" = some (.ref fTape)) (b_law_tape : Binds K fdTape ["_law_script"] [])
    (F_law_draw : Fun K "_law_draw" "_law_draw" sDraw fD fdD) (g_law_draw : mg "_law_draw" = some (.ref fD)) (b_law_draw : Binds K fdD ["_law_tape_here", "_law_many"] [])
    (F_law_pick : Fun K "_law_pick" "_law_pick" sPick fP fdP) (g_law_pick : mg "_law_pick" = some (.ref fP)) (b_law_pick : Binds K fdP ["_law_tape_here", "_law_some"] [])
    (F_law_names : Fun K "_law_names" "_law_names" sNames fN fdN) (g_law_names : mg "_law_names" = some (.ref fN)) (b_law_names : Binds K fdN ["_law_tape_here", "_law_many"] [])
    (F_law_is : Fun K "_law_is" "_law_is" sIs fIs fdIs) (g_law_is : mg "_law_is" = some (.ref fIs)) (b_law_is : Binds K fdIs ["_law_one", "_law_who", "_law_bearing"] []) :
    FnOk P w K mg base CX0 5 f fd ["_law_script"] (spLaw K) := by
  have GBoat : FnOk P w K mg base CX0 1 fI fdI ["self", "name", "bears"] (spBInit C) := ok_binit FI TB
  have GE : FnOk P w K mg base CX0 1 fE fdE ["self", "other"] (spBEq K C) := ok_beq FE TB
  have GEB : FnOk P w K mg base CX0 1 fE fdE ["self", "other"] (spEqB (DBoat C)) := GE.imp fun vs H Q E h => by
    obtain ⟨x, y, r, rfl, ⟨p, q, n, m, b, c, rfl, rfl, h1, h2, rfl⟩, k⟩ := h
    exact ⟨p, .ref q, n, b, rfl, h1, .inl ⟨q, m, c, rfl, h2, k H same_refl⟩⟩
  have GSstr : FnOk P w K mg base CX0 1 fS fdS ["self"] (spBStr C) := ok_bstr FS TB
  have GSrepr : FnOk P w K mg base CX0 1 fR fdR ["self"] (spBRepr C) := ok_brepr FR TB
  have G_law_tape : FnOk P w K mg base CX0 4 fTape fdTape ["_law_script"] (spTape K) := ok_tape F_law_tape T0
  have G_law_draw : FnOk P w K mg base CX0 4 fD fdD ["_law_tape_here", "_law_many"] spDraw := ok_draw F_law_draw T0
  have G_law_pick : FnOk P w K mg base CX0 4 fP fdP ["_law_tape_here", "_law_some"] spPick := ok_pick F_law_pick T0 F_law_draw g_law_draw b_law_draw
  have G_law_names : FnOk P w K mg base CX0 4 fN fdN ["_law_tape_here", "_law_many"] spNames := ok_names F_law_names T0 TN F_law_draw g_law_draw b_law_draw
  have G_law_is : FnOk P w K mg base CX0 4 fIs fdIs ["_law_one", "_law_who", "_law_bearing"] (spIs C) := ok_is F_law_is TB TI mSstr FS bSstr mSrepr FR bSrepr
  have DO := dok C
  refine F.ok scLaw (fun vs H Q E h => ?_) (fun cdv A outer s H vs Q E hr h => ?_)
  · obtain ⟨a, n, rfl, _⟩ := h
    rfl
  · obtain ⟨a, ns, rfl, hS, hlen, q⟩ := h
    have gC := TB.gC
    have hrBoat : Room 2 _ := hr.mono (by decide)
    have hrE : Room 1 _ := hr.mono (by decide)
    have hrE1 : Room 2 _ := hr.mono (by decide)
    have hrstr : Room 3 _ := hr.mono (by decide)
    have hrrepr : Room 2 _ := hr.mono (by decide)
    have hr_law_tape := hr
    have hr_law_draw := hr
    have hr_law_pick := hr
    have hr_law_names := hr
    have hr_law_is := hr
    have EB : EqB (cxOf CX0 P w K mg base NLaw "law" (defScope sLaw) f cdv A outer s H E).nox 1 (DBoat C) := eqB_ins DO mE.at_ mE.fn TB.nf GEB bE pass0
    refine ⟨_,
      (pss_cons (ps_set (i := 1) scLaw.nd rfl (.inl rfl) (pe_call G_law_tape hr_law_tape (by rfl) g_law_tape F_law_tape.kp b_law_tape .nil pass0 (pa_cons (pv 0) pa_nil)))
      (pss_cons (ps_for PassesOwn.never rfl (pi_range1 (by rfl) T.mrange (pa_cons (pe_callB (call_max2 rfl) (by rfl) T.mmax (by decide +kernel) (pa_cons pe_int (pa_cons (pe_callB (call_min2 rfl) (by rfl) T.mmin (by decide +kernel) (pa_cons (pe_callB call_len_seq (by rfl) T.mlen PySem.boot_len (pa_cons (pv 0) pa_nil)) (pa_cons pe_int pa_nil))) pa_nil))) pa_nil)) (pg_name (i := 2) scLaw.nd rfl (.inl rfl))
      (pss_cut (ps_set (i := 3) scLaw.nd rfl (.inl rfl) (pe_call G_law_names hr_law_names (by rfl) g_law_names F_law_names.kp b_law_names .nil pass0 (pa_cons (pv 1) (pa_cons pe_int pa_nil))))
      (pss_cut (ps_set (i := 4) scLaw.nd rfl (.inl rfl) (pe_lst (pa_cons (pe_op op_add pe_int (pe_call G_law_draw hr_law_draw (by rfl) g_law_draw F_law_draw.kp b_law_draw .nil pass0 (pa_cons (pv 1) (pa_cons (pe_call G_law_pick hr_law_pick (by rfl) g_law_pick F_law_pick.kp b_law_pick .nil pass0 (pa_cons (pv 1) (pa_cons (pe_lst (pa_cons pe_int (pa_cons (pe_op op_pow pe_int pe_int) pa_nil))) pa_nil))) pa_nil)))) (pa_cons (pe_op op_add pe_int (pe_call G_law_draw hr_law_draw (by rfl) g_law_draw F_law_draw.kp b_law_draw .nil pass0 (pa_cons (pv 1) (pa_cons (pe_op op_pow pe_int pe_int) pa_nil)))) (pa_cons (pe_op op_pow pe_int pe_int) pa_nil)))))
      (pss_cut (ps_set (i := 5) scLaw.nd rfl (.inl rfl) (pe_tup (pa_cons (pe_call G_law_pick hr_law_pick (by rfl) g_law_pick F_law_pick.kp b_law_pick .nil pass0 (pa_cons (pv 1) (pa_cons (pv 3) pa_nil))) (pa_cons (pe_ix ix_list (pv 4) pe_int (fun _ _ => rfl)) pa_nil))))
      (pss_cut (ps_set (i := 6) scLaw.nd rfl (.inl rfl) (pe_tup (pa_cons (pe_call G_law_pick hr_law_pick (by rfl) g_law_pick F_law_pick.kp b_law_pick .nil pass0 (pa_cons (pv 1) (pa_cons (pe_op op_cat (pv 3) (pe_op op_rep (pe_lst (pa_cons (pe_ix ix_tup (pv 5) pe_int (fun _ _ => rfl)) pa_nil)) pe_int)) pa_nil))) (pa_cons (pe_call G_law_pick hr_law_pick (by rfl) g_law_pick F_law_pick.kp b_law_pick .nil pass0 (pa_cons (pv 1) (pa_cons (pe_op op_cat (pv 4) (pe_op op_rep (pe_lst (pa_cons (pe_ix ix_list (pv 4) pe_int (fun _ _ => rfl)) pa_nil)) pe_int)) pa_nil))) pa_nil))))
      (pss_cut (ps_par (i := 7) (j := 8) rfl scLaw.nd rfl rfl (by decide) rfl rfl (pa_cons (pe_make MBoat GBoat hrBoat (by rfl) gC bBoat .nil pass0 (pa_cons (pe_ix ix_tup (pv 5) pe_int (fun _ _ => rfl)) (pa_cons (pe_ix ix_tup (pv 5) pe_int (fun _ _ => rfl)) pa_nil))) (pa_cons (pe_makeK0 MBoat GBoat hrBoat (by rfl) gC kbBoat pass0 (pk_cons (pe_ix ix_tup (pv 6) pe_int (fun _ _ => rfl)) (pk_cons (pe_ix ix_tup (pv 6) pe_int (fun _ _ => rfl)) pk_nil))) pa_nil)) (by rfl))
      (pss_cut (ps_if (PW.pt (pw_or (pt_not (pt_val (pe_call G_law_is hr_law_is (by rfl) g_law_is F_law_is.kp b_law_is .nil pass0 (pa_cons (pv 7) (pa_cons (pe_ix ix_tup (pv 5) pe_int (fun _ _ => rfl)) (pa_cons (pe_ix ix_tup (pv 5) pe_int (fun _ _ => rfl)) pa_nil)))))) (pw_or1 (pt_not (pt_val (pe_call G_law_is hr_law_is (by rfl) g_law_is F_law_is.kp b_law_is .nil pass0 (pa_cons (pv 8) (pa_cons (pe_ix ix_tup (pv 6) pe_int (fun _ _ => rfl)) (pa_cons (pe_ix ix_tup (pv 6) pe_int (fun _ _ => rfl)) pa_nil)))))))))
      (pss_one (ps_ret pe_bl))
      pss_nil)
      (pss_cut (ps_set (i := 9) scLaw.nd rfl (.inl rfl) (pe_cmpR (op_eqD hr.units) (pv 5) (pv 6) (nomark _)))
      (pss_cut (ps_if (pt_cmpR (op_neD hr.units) (pe_lst (pa_cons (pe_cmpR (op_eqY mE.at_ mE.fn GE bE hrE pass0) (pv 7) (pv 8) (nomark _)) (pa_cons (pe_cmpR (op_eqY mE.at_ mE.fn GE bE hrE pass0) (pv 8) (pv 7) (nomark _)) (pa_cons (pe_cmpR (op_neY mE.at_ mE.fn TB.hm TB.ne GE bE hrE1 pass0) (pv 7) (pv 8) (nomark _)) (pa_cons (pe_cmpR (op_eqY mE.at_ mE.fn GE bE hrE pass0) (pv 7) (pe_make MBoat GBoat hrBoat (by rfl) gC bBoat .nil pass0 (pa_cons (pe_ix ix_tup (pv 5) pe_int (fun _ _ => rfl)) (pa_cons (pe_ix ix_tup (pv 5) pe_int (fun _ _ => rfl)) pa_nil))) (nomark _)) pa_nil))))) (pe_lst (pa_cons (pv 9) (pa_cons (pv 9) (pa_cons (pe_not (pv 9)) (pa_cons pe_bl pa_nil))))) (nomark _))
      (pss_one (ps_ret pe_bl))
      pss_nil)
      (pss_cut (ps_for PassesOwn.never rfl (pi_list (pe_lst (pa_cons (pv 5) (pa_cons (pe_callTy (call_strOwn mSstr.at_ mSstr.fn GSstr bSstr hrstr pass0) (by rfl) T.mstr (by decide +kernel) (pa_cons (pv 7) pa_nil)) (pa_cons (pe_callB (call_reprOwn mSrepr.at_ mSrepr.fn GSrepr bSrepr hrrepr pass0) (by rfl) T.mrepr (by decide +kernel) (pa_cons (pv 7) pa_nil)) (pa_cons pe_non (pa_cons (pe_ix ix_tup (pv 5) pe_int (fun _ _ => rfl)) (pa_cons (pe_ix ix_tup (pv 5) pe_int (fun _ _ => rfl)) (pa_cons pe_dnewK (pa_cons (pe_lst (pa_cons (pe_ix ix_tup (pv 5) pe_int (fun _ _ => rfl)) (pa_cons (pe_ix ix_tup (pv 5) pe_int (fun _ _ => rfl)) pa_nil))) pa_nil)))))))))) (pg_name (i := 10) scLaw.nd rfl (.inl rfl))
      (pss_one (ps_if (PW.pt (pw_or (pt_cmpR (op_eqY mE.at_ mE.fn GE bE hrE pass0) (pv 7) (pv 10) (nomark _)) (pw_or (pt_not (pt_cmpR (op_neY mE.at_ mE.fn TB.hm TB.ne GE bE hrE1 pass0) (pv 7) (pv 10) (nomark _))) (pw_or1 (pt_cmpR (op_eqR mE.at_ mE.fn TB.sub GE bE hrE pass0) (pv 10) (pv 7) (nomark _))))))
      (pss_one (ps_ret pe_bl))
      pss_nil)))
      (pss_cut (ps_set (i := 11) scLaw.nd rfl (.inl rfl) (pe_lst (pa_cons (pv 8) (pa_cons (pe_make MBoat GBoat hrBoat (by rfl) gC bBoat .nil pass0 (pa_cons (pe_ix ix_tup (pv 5) pe_int (fun _ _ => rfl)) (pa_cons (pe_op op_add pe_int (pe_op op_modN (pe_ix ix_tup (pv 5) pe_int (fun _ _ => rfl)) (pe_op op_pow pe_int pe_int))) pa_nil))) (pa_cons (pe_make MBoat GBoat hrBoat (by rfl) gC bBoat .nil pass0 (pa_cons (pe_ix ix_tup (pv 5) pe_int (fun _ _ => rfl)) (pa_cons (pe_ix ix_tup (pv 5) pe_int (fun _ _ => rfl)) pa_nil))) (pa_cons (pv 8) pa_nil))))))
      (pss_cut (ps_if (PW.pt (pw_or (pt_cmpR op_ne (pe_bm PySem.F.plainAttrs_list PySem.F.slot_list_count PySem.F.type_list_count (mt_countB DO EB hrE1) (pv 11) (pa_cons (pv 7) pa_nil)) (pe_op op_add pe_int (pe_op op_mul pe_int (pe_callTy call_int1 (by rfl) T.mint (by decide +kernel) (pa_cons (pv 9) pa_nil)))) (nomark _)) (pw_or (pt_not (pt_cmpR (op_inB DO EB hrE1) (pv 7) (pv 11) (by rfl))) (pw_or1 (pt_cmpR op_ne (pe_bm PySem.F.plainAttrs_list PySem.F.slot_list_index PySem.F.type_list_index (mt_indexB DO EB hrE1) (pv 11) (pa_cons (pv 7) pa_nil)) (pe_ix ix_list (pe_lst (pa_cons pe_int (pa_cons pe_int pa_nil))) (pe_callTy call_int1 (by rfl) T.mint (by decide +kernel) (pa_cons (pv 9) pa_nil)) (fun _ _ => rfl)) (nomark _))))))
      (pss_one (ps_ret pe_bl))
      pss_nil)
      (pss_one (ps_if (pt_cmpR (op_neD hr.units) (pe_lc (own := [("_law_boat", 12)]) (g := gName 12)  rfl scLaw.nd (pi_list (pe_lst (pa_cons (pv 7) (pa_cons (pv 8) pa_nil)))) (blkOk_by (N := NLaw) (own := [("_law_boat", 12)]) (sc := defScope sLaw) (by decide +kernel)) (fun _ _ _ _ _ => pg_name (i := 12) scLaw.nd rfl (Or.inl rfl)) (fun _ _ _ _ _ => pts_one (pt_not (pt_val (pe_call G_law_is hr_law_is (by rfl) g_law_is F_law_is.kp b_law_is .nil pass0 (pa_cons (pv 12) (pa_cons (show PE _ _ (tFld K (tVar 12) "name") from pe_fld (pv 12) rfl) (pa_cons (show PE _ _ (tFld K (tVar 12) "bears") from pe_fld (pv 12) rfl) pa_nil))))))) (fun _ _ _ _ _ => (pv 12))) (pe_lst pa_nil) (nomark _))
      (pss_one (ps_ret pe_bl))
      pss_nil))))))))))))))
      (pss_one (ps_ret pe_bl))))
      , ?_⟩
    refine ⟨_, rfl, a, ns, rfl, hS, hlen, fun tp c H1 ntp ncc s1 T1 => ?_⟩
    refine ⟨_, rfl, a, _, rfl, .inl (s1.seq hS), _, _, rfl, _, _, rfl, _, rfl, ?_, ?_, ?_⟩
    · show -(2 ^ 62) ≤ (if (if (15 : Int) < _ then (15 : Int) else _) > 4 then _ else (4 : Int))
      split <;> omega
    · show (if (if (15 : Int) < (((ns.map V.int).length : Nat) : Int) then (15 : Int) else (((ns.map V.int).length : Nat) : Int)) > 4 then (if (15 : Int) < (((ns.map V.int).length : Nat) : Int) then (15 : Int) else (((ns.map V.int).length : Nat) : Int)) else (4 : Int)) < 2 ^ 62
      rw [List.length_map]
      split <;> split <;> omega
    refine for_range (fun i σ H2 => ∃ (v2 v3 v4 v5 v6 v7 v8 v9 v10 v11 v12 : Option V), σ = [some (.ref a), some (.ref tp), v2, v3, v4, v5, v6, v7, v8, v9, v10, v11, v12] ∧ Tape H2 tp c (60 * i))
      ⟨_, _, _, _, _, _, _, _, _, _, _, rfl, T1⟩ ?_ ?_
    · rintro i σ H2 hi ⟨v2, v3, v4, v5, v6, v7, v8, v9, v10, v11, v12, rfl, T2⟩
      have hi2 : i < 100 := by
        have h : (i : Int) < (if (if (15 : Int) < (((ns.map V.int).length : Nat) : Int) then (15 : Int) else (((ns.map V.int).length : Nat) : Int)) > 4 then (if (15 : Int) < (((ns.map V.int).length : Nat) : Int) then (15 : Int) else (((ns.map V.int).length : Nat) : Int)) else (4 : Int)) := Int.lt_toNat.mp hi
        rw [List.length_map] at h
        split at h <;> split at h <;> omega
      -- names
      refine ⟨fun σ H3 => ∃ (pn : Addr) (zs : List Str), zs.length = 4 ∧ (∀ z ∈ zs, Low z) ∧ H3 pn = some (.lst (zs.map V.str)) ∧ pn ≠ tp ∧ σ = [some (.ref a), some (.ref tp), some (.int (0 + (i : Int))), some (.ref pn), v4, v5, v6, v7, v8, v9, v10, v11, v12] ∧ Tape H3 tp c (60 * i + 30), ?_, ?_⟩
      · exact ⟨_, rfl, tp, c, 60 * i, rfl, by omega, T2, fun p zs H3 lz low e np T3 _ => ⟨p, zs, lz, low, e, np, rfl, T3⟩⟩
      rintro σ H3 ⟨pn, zs, lz, low, en, npn, rfl, T3⟩
      -- bearing
      refine ⟨fun σ H4 => ∃ (pb : Addr) (b1 b2 : Int), 1 ≤ b1 ∧ b1 ≤ 1000000 ∧ 1 ≤ b2 ∧ b2 ≤ 1000000 ∧ H4 pn = some (.lst (zs.map V.str)) ∧ H4 pb = some (.lst [.int b1, .int b2, .int 1000000]) ∧ pb ≠ tp ∧ σ = [some (.ref a), some (.ref tp), some (.int (0 + (i : Int))), some (.ref pn), some (.ref pb), v5, v6, v7, v8, v9, v10, v11, v12] ∧ Tape H4 tp c (60 * i + 33), ?_, ?_⟩
      · refine ⟨_, rfl, _, rfl, _, _, rfl, rfl, ⟨by decide, by decide, by decide⟩, by show 2 ≤ sizeLine; decide, fun l hl => ?_⟩
        refine ⟨tp, c, l, _, 60 * i + 30, rfl, upd_same, T3.ne hl, by show 0 < 2; decide, by show 2 < 1000000; decide, by omega, T3.new hl, fun j x H4 hx T4 k4 => ?_⟩
        have hv : ∃ z : Int, x = .int z ∧ 0 < z ∧ z ≤ 1000000 := by
          rcases j with _ | _ | j
          · exact ⟨_, (Option.some.inj hx).symm, by decide, by decide⟩
          · exact ⟨_, (Option.some.inj hx).symm, by decide, by decide⟩
          · exact absurd hx (by simp)
        obtain ⟨z, rfl, hz0, hz1⟩ := hv
        refine ⟨tp, c, z, 60 * i + 31, rfl, hz0, by omega, by omega, T4, fun d H5 d0 d1 T5 k5 => ⟨_, _, rfl, rfl, ?_⟩⟩
        refine ⟨_, rfl, _, _, rfl, rfl, ⟨by decide, by decide, by decide⟩, tp, c, 1000000, 60 * i + 32, rfl, by omega, by omega, by omega, T5, fun d2 H6 d20 d21 T6 k6 => ⟨_, _, rfl, rfl, ?_⟩⟩
        refine ⟨_, _, rfl, rfl, ⟨by decide, by decide, by decide⟩, by show 3 ≤ sizeLine; decide, fun pb npb => ?_⟩
        exact ⟨pb, 1 + d, 1 + d2, by omega, by omega, by omega, by omega, upd_at npb (k6 _ _ npn (k5 _ _ npn (k4 _ _ npn (upd_at hl en)))), upd_same, T6.ne npb, rfl, (T6.new npb).mono (by omega)⟩
      rintro σ H4 ⟨pb, b1, b2, hb10, hb11, hb20, hb21, en4, eb4, npb, rfl, T4⟩
      -- pair
      refine ⟨fun σ H5 => ∃ (pp : Addr) (n1 : Str), Low n1 ∧ H5 pn = some (.lst (zs.map V.str)) ∧ H5 pb = some (.lst [.int b1, .int b2, .int 1000000]) ∧ H5 pp = some (.tup [.str n1, .int b1]) ∧ pp ≠ tp ∧ σ = [some (.ref a), some (.ref tp), some (.int (0 + (i : Int))), some (.ref pn), some (.ref pb), some (.ref pp), v6, v7, v8, v9, v10, v11, v12] ∧ Tape H5 tp c (60 * i + 34), ?_, ?_⟩
      · refine ⟨_, rfl, _, rfl, tp, c, pn, _, 60 * i + 33, rfl, en4, npn, by rw [List.length_map]; omega, by rw [List.length_map]; omega, by omega, T4, fun j x H5 hx T5 k5 => ?_⟩
        have hv : ∃ z : Str, x = .str z ∧ Low z := by
          rw [List.getElem?_map] at hx
          cases e : zs[j]? with
          | none => rw [e] at hx; cases hx
          | some z => rw [e] at hx; exact ⟨z, (Option.some.inj hx).symm, low z (List.mem_of_getElem? e)⟩
        obtain ⟨n1, rfl, ln1⟩ := hv
        refine ⟨_, rfl, pb, _, 0, _, rfl, rfl, SqL.of (k5 _ _ npb eb4), atI_nat (j := 0) rfl, by show 2 ≤ sizeLine; decide, fun pp npp => ?_⟩
        exact ⟨pp, n1, ln1, upd_at npp (k5 _ _ npn en4), upd_at npp (k5 _ _ npb eb4), upd_same, T5.ne npp, rfl, T5.new npp⟩
      rintro σ H5 ⟨pp, n1, ln1, en5, eb5, ep5, npp, rfl, T5⟩
      -- near
      refine ⟨fun σ H6 => ∃ (pq : Addr) (n2 : Str) (b3 : Int), Low n2 ∧ 1 ≤ b3 ∧ b3 ≤ 1000000 ∧ H6 pp = some (.tup [.str n1, .int b1]) ∧ H6 pq = some (.tup [.str n2, .int b3]) ∧ σ = [some (.ref a), some (.ref tp), some (.int (0 + (i : Int))), some (.ref pn), some (.ref pb), some (.ref pp), some (.ref pq), v7, v8, v9, v10, v11, v12] ∧ Tape H6 tp c (60 * i + 36), ?_, ?_⟩
      · refine ⟨_, rfl, _, rfl, _, rfl, pp, _, 0, _, rfl, rfl, SqT.of ep5, atI_nat (j := 0) rfl, by show 1 ≤ sizeLine; decide, fun l1 hl1 => ?_⟩
        have s1 := same_upd (o := .lst [.str n1]) hl1
        refine ⟨_, _, _, rfl, rfl, upd_same, by decide, by decide, by show 1 * 4 ≤ sizeLine; decide, fun l2 hl2 => ?_⟩
        have s2 := s1.trans (same_upd (o := .lst [.str n1, .str n1, .str n1, .str n1]) hl2)
        refine ⟨_, _, _, _, rfl, rfl, s2 _ _ en5, upd_same, by rw [List.length_map]; show _ + 4 ≤ sizeLine; exact small_line (by omega), fun l3 hl3 => ?_⟩
        have T6 := ((T5.new (o := .lst [.str n1]) hl1).new (o := .lst [.str n1, .str n1, .str n1, .str n1]) hl2).new (o := .lst (zs.map V.str ++ [.str n1, .str n1, .str n1, .str n1])) hl3
        have s3 := s2.trans (same_upd (o := .lst (zs.map V.str ++ [.str n1, .str n1, .str n1, .str n1])) hl3)
        refine ⟨tp, c, l3, zs.map V.str ++ [.str n1, .str n1, .str n1, .str n1], 60 * i + 34, rfl, upd_same, ((T5.new hl1).new hl2).ne hl3, by rw [List.length_append]; show 0 < _ + 4; omega, by rw [List.length_append, List.length_map]; show _ + 4 < 1000000; omega, by omega, T6, fun j x H6 hx T6' k6 => ?_⟩
        have hv : ∃ z : Str, x = .str z ∧ Low z := by
          have hm := List.mem_of_getElem? hx
          rcases List.mem_append.mp hm with hm | hm
          · obtain ⟨z, hz, rfl⟩ := List.mem_map.mp hm
            exact ⟨z, rfl, low z hz⟩
          · have : x = .str n1 := by simpa using hm
            exact ⟨n1, this, ln1⟩
        obtain ⟨n2, rfl, ln2⟩ := hv
        have eb6 : H6 pb = some (.lst [.int b1, .int b2, .int 1000000]) := k6 _ _ npb (s3 _ _ eb5)
        have ep6 : H6 pp = some (.tup [.str n1, .int b1]) := k6 _ _ npp (s3 _ _ ep5)
        refine ⟨_, rfl, _, rfl, _, rfl, pb, _, 0, _, rfl, rfl, SqL.of eb6, atI_nat (j := 0) rfl, by show 1 ≤ sizeLine; decide, fun l4 hl4 => ?_⟩
        have s4 := same_upd (o := .lst [.int b1]) hl4
        refine ⟨_, _, _, rfl, rfl, upd_same, by decide, by decide, by show 1 * 2 ≤ sizeLine; decide, fun l5 hl5 => ?_⟩
        have s5 := s4.trans (same_upd (o := .lst [.int b1, .int b1]) hl5)
        refine ⟨_, _, _, _, rfl, rfl, s5 _ _ eb6, upd_same, by show 3 + 2 ≤ sizeLine; decide, fun l6 hl6 => ?_⟩
        have s6 := s5.trans (same_upd (o := .lst [.int b1, .int b2, .int 1000000, .int b1, .int b1]) hl6)
        have T7 := ((T6'.new (o := .lst [.int b1]) hl4).new (o := .lst [.int b1, .int b1]) hl5).new (o := .lst [.int b1, .int b2, .int 1000000, .int b1, .int b1]) hl6
        refine ⟨tp, c, l6, [.int b1, .int b2, .int 1000000, .int b1, .int b1], 60 * i + 35, rfl, upd_same, ((T6'.new hl4).new hl5).ne hl6, by show 0 < 5; decide, by show 5 < 1000000; decide, by omega, T7, fun j x H7 hx T7' k7 => ?_⟩
        have hv : ∃ z : Int, x = .int z ∧ 1 ≤ z ∧ z ≤ 1000000 := by
          rcases j with _ | _ | _ | _ | _ | j
          · exact ⟨_, (Option.some.inj hx).symm, hb10, hb11⟩
          · exact ⟨_, (Option.some.inj hx).symm, hb20, hb21⟩
          · exact ⟨_, (Option.some.inj hx).symm, by decide, by decide⟩
          · exact ⟨_, (Option.some.inj hx).symm, hb10, hb11⟩
          · exact ⟨_, (Option.some.inj hx).symm, hb10, hb11⟩
          · exact absurd hx (by simp)
        obtain ⟨b3, rfl, hb30, hb31⟩ := hv
        refine ⟨by show 2 ≤ sizeLine; decide, fun pq npq => ?_⟩
        exact ⟨pq, n2, b3, ln2, hb30, hb31, upd_at npq (k7 _ _ npp (s6 _ _ ep6)), upd_same, rfl, T7'.new npq⟩
      rintro σ H6 ⟨pq, n2, b3, ln2, hb30, hb31, ep6, eq6, rfl, T6⟩
      -- one, other
      refine ⟨fun σ H7 => ∃ x y : Addr, Both C H7 pp pq x y n1 n2 b1 b3 ∧ σ = [some (.ref a), some (.ref tp), some (.int (0 + (i : Int))), some (.ref pn), some (.ref pb), some (.ref pp), some (.ref pq), some (.ref x), some (.ref y), v9, v10, v11, v12] ∧ Tape H7 tp c (60 * i + 36), ?_, ?_⟩
      · refine ⟨_, rfl, pp, _, 0, _, rfl, rfl, SqT.of ep6, atI_nat (j := 0) rfl, _, rfl, pp, _, 1, _, rfl, rfl, SqT.of ep6, atI_nat (j := 1) rfl, ?_⟩
        intro x1 dx1 hx1 hdx1 ne1
        refine ⟨x1, dx1, n1, b1, rfl, upd_same, fun H7 hb7 k7 => ⟨rfl, ?_⟩⟩
        have s7 := made_same hx1 hdx1 k7
        refine ⟨_, rfl, pq, _, 1, _, rfl, rfl, SqT.of (s7 _ _ eq6), atI_nat (j := 1) rfl, _, rfl, pq, _, 0, _, rfl, rfl, SqT.of (s7 _ _ eq6), atI_nat (j := 0) rfl, rfl, rfl, ?_⟩
        intro x2 dx2 hx2 hdx2 ne2
        refine ⟨x2, dx2, n2, b3, rfl, upd_same, fun H8 hb8 k8 => ⟨rfl, _, _, rfl, ?_⟩⟩
        have s8 := made_same hx2 hdx2 k8
        exact ⟨x1, x2, ⟨s8 _ _ (s7 _ _ ep6), s8 _ _ (s7 _ _ eq6), hb7.same s8, hb8, ln1, ln2, ⟨hb10, hb11⟩, ⟨hb30, hb31⟩⟩, rfl, (T6.same s7).same s8⟩
      rintro σ H7 ⟨x, y, B7, rfl, T7⟩
      -- is, is
      refine ⟨fun σ H8 => σ = [some (.ref a), some (.ref tp), some (.int (0 + (i : Int))), some (.ref pn), some (.ref pb), some (.ref pp), some (.ref pq), some (.ref x), some (.ref y), v9, v10, v11, v12] ∧ Same H7 H8, ?_, ?_⟩
      · refine ⟨_, rfl, _, rfl, pp, _, 0, _, rfl, rfl, SqT.of B7.hp, atI_nat (j := 0) rfl, _, rfl, pp, _, 1, _, rfl, rfl, SqT.of B7.hp, atI_nat (j := 1) rfl, x, n1, b1, rfl, B7.hx, ln1, by omega, by omega, fun H8 s8 => ⟨_, rfl, ?_⟩⟩
        refine ⟨_, rfl, _, rfl, pq, _, 0, _, rfl, rfl, SqT.of (s8 _ _ B7.hq), atI_nat (j := 0) rfl, _, rfl, pq, _, 1, _, rfl, rfl, SqT.of (s8 _ _ B7.hq), atI_nat (j := 1) rfl, y, n2, b3, rfl, B7.hy.same s8, ln2, by omega, by omega, fun H9 s9 => ⟨_, rfl, ?_⟩⟩
        exact ⟨rfl, s8.trans s9⟩
      rintro σ H8 ⟨rfl, s8⟩
      have B8 := B7.same s8
      have T8 := T7.same s8
      -- due
      generalize hr9 : (decide (n1 = n2) && decide (b1 = b3)) = r
      refine ⟨fun σ H9 => σ = [some (.ref a), some (.ref tp), some (.int (0 + (i : Int))), some (.ref pn), some (.ref pb), some (.ref pp), some (.ref pq), some (.ref x), some (.ref y), some (.bl r), v10, v11, v12] ∧ H9 = H8, ?_, ?_⟩
      · refine ⟨_, rfl, _, rfl, .tuple [.str n1, .int b1], .tuple [.str n2, .int b3], dp_si B8.hp, dp_si B8.hq, si_shaped ln1 b1, si_shaped ln2 b3, ?_⟩
        rw [si_eqv2, hr9]
        exact ⟨rfl, rfl⟩
      rintro σ H9 ⟨rfl, rfl⟩
      -- the four comparisons
      have hr9' : (decide (n2 = n1) && decide (b3 = b1)) = r := by rw [← hr9, show decide (n2 = n1) = decide (n1 = n2) from decide_eq_decide.mpr ⟨Eq.symm, Eq.symm⟩, show decide (b3 = b1) = decide (b1 = b3) from decide_eq_decide.mpr ⟨Eq.symm, Eq.symm⟩]
      have self1 : (decide (n1 = n1) && decide (b1 = b1)) = true := by rw [decide_eq_true rfl, decide_eq_true rfl]; rfl
      obtain ⟨dx, ex⟩ := id B8.hx
      obtain ⟨dy, ey⟩ := id B8.hy
      refine ⟨fun σ H10 => σ = [some (.ref a), some (.ref tp), some (.int (0 + (i : Int))), some (.ref pn), some (.ref pb), some (.ref pp), some (.ref pq), some (.ref x), some (.ref y), some (.bl r), v10, v11, v12] ∧ Same H9 H10, ?_, ?_⟩
      · refine ⟨_, rfl, _, rfl, x, dx, _, _, rfl, ex, isBoat TB B8.hy, TB.nf, x, .ref y, n1, b1, rfl, B8.hx, .inl ⟨y, n2, b3, rfl, B8.hy, ?_⟩⟩
        rw [hr9]
        refine ⟨_, rfl, _, rfl, y, dy, _, _, rfl, ey, isBoat TB B8.hx, TB.nf, y, .ref x, n2, b3, rfl, B8.hy, .inl ⟨x, n1, b1, rfl, B8.hx, ?_⟩⟩
        rw [hr9']
        refine ⟨_, rfl, _, rfl, x, dx, _, _, rfl, ex, isBoat TB B8.hy, TB.nf, x, .ref y, n1, b1, rfl, B8.hx, .inl ⟨y, n2, b3, rfl, B8.hy, ?_⟩⟩
        rw [hr9]
        refine ⟨r, rfl, _, rfl, _, rfl, pp, _, 0, _, rfl, rfl, SqT.of B8.hp, atI_nat (j := 0) rfl, _, rfl, pp, _, 1, _, rfl, rfl, SqT.of B8.hp, atI_nat (j := 1) rfl, ?_⟩
        intro x3 dx3 hx3 hdx3 ne3
        refine ⟨x3, dx3, n1, b1, rfl, upd_same, fun H10 hb10' k10 => ⟨rfl, ?_⟩⟩
        have s10 := made_same hx3 hdx3 k10
        refine ⟨x, dx, _, _, rfl, s10 _ _ ex, isBoat TB hb10', TB.nf, x, .ref x3, n1, b1, rfl, B8.hx.same s10, .inl ⟨x3, n1, b1, rfl, hb10', ?_⟩⟩
        rw [self1]
        refine ⟨by show 4 ≤ sizeLine; decide, fun l7 hl7 => ?_⟩
        refine ⟨_, rfl, _, rfl, _, rfl, _, rfl, by show 4 ≤ sizeLine; decide, fun l8 hl8 => ?_⟩
        refine ⟨.list [.bool r, .bool r, .bool (!r), .bool true], .list [.bool r, .bool r, .bool (!r), .bool true], dp_bools (upd_at hl8 upd_same), dp_bools upd_same, rfl, rfl, _, rfl, ite2 (fun z => ?_) (fun _ => ?_)⟩
        · have e : PyData.eqv (.list [.bool r, .bool r, .bool (!r), .bool true]) (.list [.bool r, .bool r, .bool (!r), .bool true]) = true := by cases r <;> rfl
          rw [e] at z
          exact absurd z (by decide)
        exact ⟨rfl, (s10.trans (same_upd hl7)).trans (same_upd hl8)⟩
      rintro σ H10 ⟨rfl, s10⟩
      have B10 := B8.same s10
      have T10 := T8.same s10
      obtain ⟨dx, ex⟩ := id B10.hx
      -- the others
      refine ⟨fun σ H11 => ∃ v10', σ = [some (.ref a), some (.ref tp), some (.int (0 + (i : Int))), some (.ref pn), some (.ref pb), some (.ref pp), some (.ref pq), some (.ref x), some (.ref y), some (.bl r), v10', v11, v12] ∧ Same H10 H11, ?_, ?_⟩
      · refine ⟨_, rfl, _, rfl, x, dx, _, rfl, ex, x, n1, b1, rfl, B10.hx, ln1.1, by omega, by omega, _, rfl, _, rfl, x, dx, _, rfl, ex, x, n1, b1, rfl, B10.hx, ln1, by omega, by omega, _, rfl, ?_⟩
        refine ⟨_, rfl, pp, _, 0, _, rfl, rfl, SqT.of B10.hp, atI_nat (j := 0) rfl, _, rfl, pp, _, 1, _, rfl, rfl, SqT.of B10.hp, atI_nat (j := 1) rfl, ?_⟩
        intro dd hdd
        have sd := same_upd (o := .dK []) hdd
        refine ⟨_, rfl, pp, _, 0, _, rfl, rfl, SqT.of (sd _ _ B10.hp), atI_nat (j := 0) rfl, _, rfl, pp, _, 1, _, rfl, rfl, SqT.of (sd _ _ B10.hp), atI_nat (j := 1) rfl, by show 2 ≤ sizeLine; decide, fun l9 hl9 => ?_⟩
        have s9 := sd.trans (same_upd (o := .lst [.str n1, .int b1]) hl9)
        refine ⟨by show 8 ≤ sizeLine; decide, fun lo hlo => ?_⟩
        have s12 := s9.trans (same_upd (o := .lst [.ref pp, .str (boatS n1 b1), .str (boatR n1 b1), .non, .str n1, .int b1, .ref dd, .ref l9]) hlo)
        have ed : (upd (upd (upd H10 dd (.dK [])) l9 (.lst [.str n1, .int b1])) lo (.lst [.ref pp, .str (boatS n1 b1), .str (boatR n1 b1), .non, .str n1, .int b1, .ref dd, .ref l9])) dd = some (.dK []) := upd_at hlo (upd_at hl9 upd_same)
        have el9 : (upd (upd (upd H10 dd (.dK [])) l9 (.lst [.str n1, .int b1])) lo (.lst [.ref pp, .str (boatS n1 b1), .str (boatR n1 b1), .non, .str n1, .int b1, .ref dd, .ref l9])) l9 = some (.lst [.str n1, .int b1]) := upd_at hlo upd_same
        have elo : (upd (upd (upd H10 dd (.dK [])) l9 (.lst [.str n1, .int b1])) lo (.lst [.ref pp, .str (boatS n1 b1), .str (boatR n1 b1), .non, .str n1, .int b1, .ref dd, .ref l9])) lo = some (.lst [.ref pp, .str (boatS n1 b1), .str (boatR n1 b1), .non, .str n1, .int b1, .ref dd, .ref l9]) := upd_same
        generalize upd (upd (upd H10 dd (.dK [])) l9 (.lst [.str n1, .int b1])) lo (.lst [.ref pp, .str (boatS n1 b1), .str (boatR n1 b1), .non, .str n1, .int b1, .ref dd, .ref l9]) = H12 at s12 ed el9 elo ⊢
        refine ⟨lo, rfl, ⟨_, SqL.of elo⟩, for_list (K := K) (a := lo) (xs := [.ref pp, .str (boatS n1 b1), .str (boatR n1 b1), .non, .str n1, .int b1, .ref dd, .ref l9]) (fun j σ H' => ∃ v10', σ = [some (.ref a), some (.ref tp), some (.int (0 + (i : Int))), some (.ref pn), some (.ref pb), some (.ref pp), some (.ref pq), some (.ref x), some (.ref y), some (.bl r), v10', v11, v12] ∧ Same H12 H')
          ⟨_, rfl, same_refl⟩ (fun j σ H' _ ⟨_, _, z⟩ => SqL.of (z _ _ elo)) ?_ ?_⟩
        · rintro j z σ H' hj ⟨v10', rfl, s'⟩
          have hz : ∃ t, TyX K H' z t ∧ PySem.W.kitOne K t (.ref C) = some false ∧ PySem.W.notFirst K C t = true ∧ LeftOk H' z := by
            rcases j with _ | _ | _ | _ | _ | _ | _ | _ | j
            · rw [← Option.some.inj hj]; exact ⟨_, .base (.tup (s' _ _ (s12 _ _ B10.hp))), TA.tup.kit, TA.tup.nf, .tup (s' _ _ (s12 _ _ B10.hp))⟩
            · rw [← Option.some.inj hj]; exact ⟨_, .base (.str _), TA.str.kit, TA.str.nf, .str _⟩
            · rw [← Option.some.inj hj]; exact ⟨_, .base (.str _), TA.str.kit, TA.str.nf, .str _⟩
            · rw [← Option.some.inj hj]; exact ⟨_, .base .non, TA.non.kit, TA.non.nf, .non⟩
            · rw [← Option.some.inj hj]; exact ⟨_, .base (.str _), TA.str.kit, TA.str.nf, .str _⟩
            · rw [← Option.some.inj hj]; exact ⟨_, .base (.int _), TA.int.kit, TA.int.nf, .int _⟩
            · rw [← Option.some.inj hj]; exact ⟨_, .base (.dK (s' _ _ ed)), TA.dct.kit, TA.dct.nf, .dK (s' _ _ ed)⟩
            · rw [← Option.some.inj hj]; exact ⟨_, .base (.lst (s' _ _ el9)), TA.lst.kit, TA.lst.nf, .lst (s' _ _ el9)⟩
            · exact absurd hj (by simp)
          obtain ⟨t, ty, kt, nf, lo'⟩ := hz
          have ex' := s' _ _ (s12 _ _ ex)
          have hx' : BoatAt C H' x n1 b1 := ⟨dx, ex'⟩
          refine ⟨_, rfl, _, rfl, x, dx, _, t, rfl, ex', ty, nf, x, z, n1, b1, rfl, hx', .inr ⟨t, ty, kt, _, rfl, ?_⟩⟩
          refine ⟨_, rfl, _, rfl, x, dx, _, t, rfl, ex', ty, nf, x, z, n1, b1, rfl, hx', .inr ⟨t, ty, kt, false, rfl, _, rfl, ?_⟩⟩
          refine ⟨_, rfl, _, rfl, x, dx, _, rfl, ex', lo', x, z, n1, b1, rfl, hx', .inr ⟨t, ty, kt, _, rfl, ?_⟩⟩
          exact ⟨_, rfl, s'⟩
        · rintro σ H' ⟨v10', rfl, s'⟩
          exact ⟨_, rfl, s12.trans s'⟩
      rintro σ H11 ⟨v10', rfl, s11⟩
      have B11 := B10.same s11
      have T11 := T10.same s11
      -- row
      refine ⟨fun σ H12 => ∃ (u v pr : Addr) (b4 : Int), b4 ≠ b1 ∧ BoatAt C H12 u n1 b4 ∧ BoatAt C H12 v n1 b1 ∧ H12 pr = some (.lst [.ref y, .ref u, .ref v, .ref y]) ∧ σ = [some (.ref a), some (.ref tp), some (.int (0 + (i : Int))), some (.ref pn), some (.ref pb), some (.ref pp), some (.ref pq), some (.ref x), some (.ref y), some (.bl r), v10', some (.ref pr), v12] ∧ Same H11 H12, ?_, ?_⟩
      · refine ⟨_, rfl, _, rfl, pp, _, 0, _, rfl, rfl, SqT.of B11.hp, atI_nat (j := 0) rfl, _, rfl, pp, _, 1, _, rfl, rfl, SqT.of B11.hp, atI_nat (j := 1) rfl, _, _, rfl, rfl, ⟨by decide, by decide, by decide⟩, _, _, rfl, rfl, (by show (10 : Int) ^ Int.toNat 6 ≠ 0; decide), _, _, rfl, rfl, ?_⟩
        intro x4 dx4 hx4 hdx4 ne4
        refine ⟨x4, dx4, n1, _, rfl, upd_same, fun H12 hb12 k12 => ⟨rfl, ?_⟩⟩
        have s12 := made_same hx4 hdx4 k12
        refine ⟨_, rfl, pp, _, 0, _, rfl, rfl, SqT.of (s12 _ _ B11.hp), atI_nat (j := 0) rfl, _, rfl, pp, _, 1, _, rfl, rfl, SqT.of (s12 _ _ B11.hp), atI_nat (j := 1) rfl, ?_⟩
        intro x5 dx5 hx5 hdx5 ne5
        refine ⟨x5, dx5, n1, b1, rfl, upd_same, fun H13 hb13 k13 => ⟨rfl, ?_⟩⟩
        have s13 := made_same hx5 hdx5 k13
        refine ⟨_, rfl, by show 4 ≤ sizeLine; decide, fun pr npr => ?_⟩
        refine ⟨x4, x5, pr, _, ?_, (hb12.same s13).same (same_upd npr), hb13.same (same_upd npr), upd_same, rfl, (s12.trans s13).trans (same_upd npr)⟩
        show 1 + b1.fmod 1000000 ≠ b1
        rw [Int.fmod_eq_emod_of_nonneg _ (by decide)]
        omega
      rintro σ H12 ⟨u, v, pr, b4, hb4, hu, hv, hpr, rfl, s12⟩
      have B12 := B11.same s12
      have T12 := T11.same s12
      -- count, in, index
      refine ⟨fun σ H13 => σ = [some (.ref a), some (.ref tp), some (.int (0 + (i : Int))), some (.ref pn), some (.ref pb), some (.ref pp), some (.ref pq), some (.ref x), some (.ref y), some (.bl r), v10', some (.ref pr), v12] ∧ Same H12 H13, ?_, ?_⟩
      · have hd : ∀ H' : Hp, Same H12 H' → ∀ (j : Nat) (z : V), [V.ref y, .ref u, .ref v, .ref y][j]? = some z → DBoat C z (.ref x) H' (rowB r j) := by
          intro H' s' j z hz
          rcases j with _ | _ | _ | _ | j
          · rw [← Option.some.inj hz]; exact ⟨y, x, n2, n1, b3, b1, rfl, rfl, B12.hy.same s', B12.hx.same s', hr9'.symm⟩
          · rw [← Option.some.inj hz]; exact ⟨u, x, n1, n1, b4, b1, rfl, rfl, hu.same s', B12.hx.same s', by rw [decide_eq_false hb4, Bool.and_false]; rfl⟩
          · rw [← Option.some.inj hz]; exact ⟨v, x, n1, n1, b1, b1, rfl, rfl, hv.same s', B12.hx.same s', by rw [self1]; rfl⟩
          · rw [← Option.some.inj hz]; exact ⟨y, x, n2, n1, b3, b1, rfl, rfl, B12.hy.same s', B12.hx.same s', hr9'.symm⟩
          · exact absurd hz (by simp)
        obtain ⟨j, hj4, hit, hno, hix⟩ := rowB_first r
        refine ⟨_, rfl, .inl ⟨rfl, _, SqL.of hpr⟩, _, rfl, pr, _, _, rowB r, rfl, rfl, hpr, hd H12 same_refl, fun H13 s13 => ?_⟩
        refine ⟨_, rfl, .inr ⟨r, rfl, _, _, rfl, rfl, .inl ⟨by decide, by decide⟩, _, _, rfl, rfl, rfl, _, rfl, iteNS (congrArg V.int (rowB_count r)) ?_⟩⟩
        refine ⟨_, rfl, _, rfl, pr, _, rowB r, j, rfl, s13 _ _ hpr, hd H13 s13, hj4, hit, hno, fun H14 s14 => ⟨_, rfl, ?_⟩⟩
        refine ⟨_, rfl, .inl ⟨rfl, _, SqL.of (s14 _ _ (s13 _ _ hpr))⟩, _, rfl, pr, _, _, rowB r, j, rfl, rfl, s14 _ _ (s13 _ _ hpr), hd H14 (s13.trans s14), hj4, by omega, hit, hno, fun H15 s15 => ?_⟩
        refine ⟨by show 2 ≤ sizeLine; decide, fun l hl => ⟨_, rfl, .inr ⟨r, rfl, l, _, _, _, rfl, rfl, SqL.of upd_same, hix, rfl, _, rfl, iteNS rfl ?_⟩⟩⟩
        exact ⟨rfl, ((s13.trans s14).trans s15).trans (same_upd hl)⟩
      rintro σ H13 ⟨rfl, s13⟩
      have B13 := B12.same s13
      have T13 := T12.same s13
      -- the Boats stay as they are
      refine ⟨_, rfl, _, rfl, by show 2 ≤ sizeLine; decide, fun l hl => ⟨l, rfl, ⟨_, SqL.of upd_same⟩, fun D nD => ?_⟩⟩
      have el : (upd H13 l (.lst [.ref x, .ref y])) l = some (.lst [.ref x, .ref y]) := upd_same
      have B14 := B13.same (same_upd (o := .lst [.ref x, .ref y]) hl)
      have T14 := T13.new (o := .lst [.ref x, .ref y]) hl
      generalize upd H13 l (.lst [.ref x, .ref y]) = H14 at nD el B14 T14 ⊢
      refine lc_list (K := K) (a := l) (xs := [.ref x, .ref y]) (fun i H' => Same H14 H' ∧ H' D = some (.lst [])) ⟨same_upd nD, upd_same⟩ (fun i H' _ z => SqL.of (z.1 _ _ el)) ?_ ?_
      · rintro j z H' hz ⟨s', eD⟩
        have hy : ∃ (p : Addr) (n : Str) (b : Int), z = .ref p ∧ BoatAt C H' p n b ∧ Low n ∧ 0 ≤ b ∧ b < 10000000 := by
          rcases j with _ | _ | j
          · exact ⟨x, n1, b1, (Option.some.inj hz).symm, B14.hx.same s', ln1, by omega, by omega⟩
          · exact ⟨y, n2, b3, (Option.some.inj hz).symm, B14.hy.same s', ln2, by omega, by omega⟩
          · exact absurd hz (by simp)
        obtain ⟨p, n, b, rfl, hp, lown, hb0, hb1'⟩ := hy
        obtain ⟨dz, ep⟩ := id hp
        refine ⟨rfl, ?_⟩
        exact ⟨_, rfl, _, rfl, p, C, dz, _, _, rfl, ep, TB.cl, TB.nN, boatF_name n b, _, rfl, p, C, dz, _, _, rfl, ep, TB.cl, TB.nB, boatF_bears n b, p, n, b, rfl, hp, lown, hb0, hb1', fun H'' s'' => ⟨_, rfl, s'.trans s'', s'' _ _ eD⟩⟩
      · rintro H' ⟨s', eD⟩
        refine ⟨Nat.zero_le _, fun l' hl' => ?_⟩
        refine ⟨.list [], .list [], .lst (SqL.of (upd_at hl' eD)) .nil, .lst (SqL.of upd_same) .nil, rfl, rfl, _, rfl, ?_⟩
        exact ⟨_, _, _, _, _, _, _, _, _, _, _, rfl, ((T14.same s').new hl').mono (by omega)⟩
    · rintro σ H2 _
      exact q H2
end
theorem fun_kbn {K : Frag} {x qual : Str} {st : Stmt} {f : Addr} {fd : FuncData} {ps ks : List Str} {n : Nat} (F : Fun K x qual st f fd)
    (h : ∀ (kV doc pm : Value) (an : Option Addr) (cdv ct : Value) (us ws : List Value), us.length = n → ws.length = ks.length → bindArgs (PySem.W.fnOf x qual (defArgs st) (defBody st) (defScope st) .none kV doc pm an cdv ct) ⟨us, ks.zip ws⟩ = pure (ps.zip (kwB us ws))) :
    KBn K fd ps n ks kwB kwB := by
  obtain ⟨oc, od, kV, doc, pm, an, cdv, ct, osl, rfl, lk, hcd⟩ := F.ex
  exact ⟨fun s us ws _ h1 h2 => .of_eq (h kV doc pm an cdv ct us ws h1 h2), fun a b => a.append (vals_rev b)⟩
theorem kit_no {K : Frag} {C : Addr} {T : String} (ic : PySem.W.isClsIn K C = true) (ty : PySem.W.typeIn K (.ref C) = some (.type "type")) (ts : PySem.W.subIn K (.type T) (.ref C) = some false) : PySem.W.kitOne K (.type T) (.ref C) = some false := by
  have ic' : (PySem.W.clsIn K C).isSome = true := ic
  have e : ((PySem.W.clsIn K C).isSome && PySem.W.typeIn K (.ref C) == some (.type "type")) = true := by rw [ic', ty]; rfl
  show (if (Value.type T == Value.ref C) = true then some true else if ((PySem.W.clsIn K C).isSome && PySem.W.typeIn K (.ref C) == some (.type "type")) = true then PySem.W.subIn K (.type T) (.ref C) else none) = some false
  rw [if_neg (by intro z; cases z), if_pos e]
  exact ts
theorem all_mk {l : PySem.W.OpenLaw} {w : World} {K : PySem.W.Frag} {h : Heap} {mg : Str → Option Value} {fa f_law_tape f_law_draw f_law_pick f_law_names f_law_is flaw fBoat___init__ fBoat___eq__ fBoat___str__ fBoat___repr__ CBoat : Addr} (X : K.In h) (G : h.Ns mainGlobals mg) (hfa : mg "law" = some (.ref fa))
    {od_law_tape an_law_tape od_law_draw an_law_draw od_law_pick an_law_pick od_law_names an_law_names od_law_is an_law_is odlaw anlaw odBoat___init__ anBoat___init__ odBoat___eq__ anBoat___eq__ odBoat___str__ anBoat___str__ odBoat___repr__ anBoat___repr__ : Option Addr} {sl_law_tape sl_law_draw sl_law_pick sl_law_names sl_law_is sllaw slBoat___init__ slBoat___eq__ slBoat___str__ slBoat___repr__ : Array (Option Value)} {oc_law_tape kV_law_tape dc_law_tape pm_law_tape cd_law_tape ct_law_tape oc_law_draw kV_law_draw dc_law_draw pm_law_draw cd_law_draw ct_law_draw oc_law_pick kV_law_pick dc_law_pick pm_law_pick cd_law_pick ct_law_pick oc_law_names kV_law_names dc_law_names pm_law_names cd_law_names ct_law_names oc_law_is kV_law_is dc_law_is pm_law_is cd_law_is ct_law_is oclaw kVlaw dclaw pmlaw cdlaw ctlaw ocBoat___init__ kVBoat___init__ dcBoat___init__ pmBoat___init__ cdBoat___init__ ctBoat___init__ ocBoat___eq__ kVBoat___eq__ dcBoat___eq__ pmBoat___eq__ cdBoat___eq__ ctBoat___eq__ ocBoat___str__ kVBoat___str__ dcBoat___str__ pmBoat___str__ cdBoat___str__ ctBoat___str__ ocBoat___repr__ kVBoat___repr__ dcBoat___repr__ pmBoat___repr__ cdBoat___repr__ ctBoat___repr__ : Value}
    (aBoat : PySem.W.nsIn K mainGlobals "Boat" = some (some (.ref CBoat))) (pgBoat : PySem.W.plainGet K CBoat Str.empty = true) (hdBoat : PySem.W.hasDictIn K CBoat = true) (poBoat : PySem.W.plainOver K CBoat = true) (saBoat : PySem.W.findIn K (.ref CBoat) "__setattr__" = some (some (.builtin "object.__setattr__"))) (mkBoat : PySem.W.makesIn K CBoat = true) (kcBoat : PySem.W.keepIn K (.ref CBoat) = true)
    (haBoat : PySem.W.findIn K (.ref CBoat) "__class__" = some (some (.builtin "object.__class__"))) (hnBoat : PySem.W.specialIn K (.builtin "object.__class__") "__get__" = some (some (.builtin "getset_descriptor.__get__"))) (htBoat : PySem.W.takesIn K (.builtin "object.__class__") = some true) (hmBoat : PySem.W.mroIn K CBoat (.type "object") = some true) (nfBoat : PySem.W.notFirst K CBoat (.ref CBoat) = true)
    (nBoat_name : PySem.W.findIn K (.ref CBoat) "name" = some none)
    (nBoat_bears : PySem.W.findIn K (.ref CBoat) "bears" = some none)
    (neBoat : PySem.W.findIn K (.ref CBoat) "__ne__" = some (some (.builtin "object.__ne__"))) (icBoat : PySem.W.isClsIn K CBoat = true) (tyBoat : PySem.W.typeIn K (.ref CBoat) = some (.type "type"))
    (subBoat_NoneType : PySem.W.subIn K (.ref CBoat) (.type "NoneType") = some false) (kitBoat_NoneType : PySem.W.subIn K (.type "NoneType") (.ref CBoat) = some false) (ntBoat_NoneType : PySem.W.notFirst K CBoat (.type "NoneType") = true)
    (subBoat_int : PySem.W.subIn K (.ref CBoat) (.type "int") = some false) (kitBoat_int : PySem.W.subIn K (.type "int") (.ref CBoat) = some false) (ntBoat_int : PySem.W.notFirst K CBoat (.type "int") = true)
    (subBoat_str : PySem.W.subIn K (.ref CBoat) (.type "str") = some false) (kitBoat_str : PySem.W.subIn K (.type "str") (.ref CBoat) = some false) (ntBoat_str : PySem.W.notFirst K CBoat (.type "str") = true)
    (subBoat_list : PySem.W.subIn K (.ref CBoat) (.type "list") = some false) (kitBoat_list : PySem.W.subIn K (.type "list") (.ref CBoat) = some false) (ntBoat_list : PySem.W.notFirst K CBoat (.type "list") = true)
    (subBoat_tuple : PySem.W.subIn K (.ref CBoat) (.type "tuple") = some false) (kitBoat_tuple : PySem.W.subIn K (.type "tuple") (.ref CBoat) = some false) (ntBoat_tuple : PySem.W.notFirst K CBoat (.type "tuple") = true)
    (subBoat_dict : PySem.W.subIn K (.ref CBoat) (.type "dict") = some false) (kitBoat_dict : PySem.W.subIn K (.type "dict") (.ref CBoat) = some false) (ntBoat_dict : PySem.W.notFirst K CBoat (.type "dict") = true)
    (aBoat___init__ : PySem.W.findIn K (.ref CBoat) "__init__" = some (some (.ref fBoat___init__))) (iBoat___init__ : PySem.W.isFn K (.ref fBoat___init__) = true) (lBoat___init__ : K.lookup fBoat___init__ = some ⟨ocBoat___init__, odBoat___init__, .func (PySem.W.fnOf "__init__" "Boat.__init__" (defArgs sBInit) (defBody sBInit) (defScope sBInit) .none kVBoat___init__ dcBoat___init__ pmBoat___init__ anBoat___init__ cdBoat___init__ ctBoat___init__), slBoat___init__⟩) (cBoat___init__ : PySem.W.codeIn K cdBoat___init__ "Boat.__init__" = true) (kBoat___init__ : PySem.W.keepIn K (.ref fBoat___init__) = true)
    (aBoat___eq__ : PySem.W.findIn K (.ref CBoat) "__eq__" = some (some (.ref fBoat___eq__))) (iBoat___eq__ : PySem.W.isFn K (.ref fBoat___eq__) = true) (lBoat___eq__ : K.lookup fBoat___eq__ = some ⟨ocBoat___eq__, odBoat___eq__, .func (PySem.W.fnOf "__eq__" "Boat.__eq__" (defArgs sBEq) (defBody sBEq) (defScope sBEq) .none kVBoat___eq__ dcBoat___eq__ pmBoat___eq__ anBoat___eq__ cdBoat___eq__ ctBoat___eq__), slBoat___eq__⟩) (cBoat___eq__ : PySem.W.codeIn K cdBoat___eq__ "Boat.__eq__" = true) (kBoat___eq__ : PySem.W.keepIn K (.ref fBoat___eq__) = true)
    (aBoat___str__ : PySem.W.findIn K (.ref CBoat) "__str__" = some (some (.ref fBoat___str__))) (iBoat___str__ : PySem.W.isFn K (.ref fBoat___str__) = true) (lBoat___str__ : K.lookup fBoat___str__ = some ⟨ocBoat___str__, odBoat___str__, .func (PySem.W.fnOf "__str__" "Boat.__str__" (defArgs sBStr) (defBody sBStr) (defScope sBStr) .none kVBoat___str__ dcBoat___str__ pmBoat___str__ anBoat___str__ cdBoat___str__ ctBoat___str__), slBoat___str__⟩) (cBoat___str__ : PySem.W.codeIn K cdBoat___str__ "Boat.__str__" = true) (kBoat___str__ : PySem.W.keepIn K (.ref fBoat___str__) = true)
    (aBoat___repr__ : PySem.W.findIn K (.ref CBoat) "__repr__" = some (some (.ref fBoat___repr__))) (iBoat___repr__ : PySem.W.isFn K (.ref fBoat___repr__) = true) (lBoat___repr__ : K.lookup fBoat___repr__ = some ⟨ocBoat___repr__, odBoat___repr__, .func (PySem.W.fnOf "__repr__" "Boat.__repr__" (defArgs sBRepr) (defBody sBRepr) (defScope sBRepr) .none kVBoat___repr__ dcBoat___repr__ pmBoat___repr__ anBoat___repr__ cdBoat___repr__ ctBoat___repr__), slBoat___repr__⟩) (cBoat___repr__ : PySem.W.codeIn K cdBoat___repr__ "Boat.__repr__" = true) (kBoat___repr__ : PySem.W.keepIn K (.ref fBoat___repr__) = true)
    (a_law_tape : PySem.W.nsIn K mainGlobals "_law_tape" = some (some (.ref f_law_tape))) (l_law_tape : K.lookup f_law_tape = some ⟨oc_law_tape, od_law_tape, .func (PySem.W.fnOf "_law_tape" "_law_tape" (defArgs sTape) (defBody sTape) (defScope sTape) .none kV_law_tape dc_law_tape pm_law_tape an_law_tape cd_law_tape ct_law_tape), sl_law_tape⟩) (c_law_tape : PySem.W.codeIn K cd_law_tape "_law_tape" = true) (k_law_tape : PySem.W.keepIn K (.ref f_law_tape) = true)
    (a_law_draw : PySem.W.nsIn K mainGlobals "_law_draw" = some (some (.ref f_law_draw))) (l_law_draw : K.lookup f_law_draw = some ⟨oc_law_draw, od_law_draw, .func (PySem.W.fnOf "_law_draw" "_law_draw" (defArgs sDraw) (defBody sDraw) (defScope sDraw) .none kV_law_draw dc_law_draw pm_law_draw an_law_draw cd_law_draw ct_law_draw), sl_law_draw⟩) (c_law_draw : PySem.W.codeIn K cd_law_draw "_law_draw" = true) (k_law_draw : PySem.W.keepIn K (.ref f_law_draw) = true)
    (a_law_pick : PySem.W.nsIn K mainGlobals "_law_pick" = some (some (.ref f_law_pick))) (l_law_pick : K.lookup f_law_pick = some ⟨oc_law_pick, od_law_pick, .func (PySem.W.fnOf "_law_pick" "_law_pick" (defArgs sPick) (defBody sPick) (defScope sPick) .none kV_law_pick dc_law_pick pm_law_pick an_law_pick cd_law_pick ct_law_pick), sl_law_pick⟩) (c_law_pick : PySem.W.codeIn K cd_law_pick "_law_pick" = true) (k_law_pick : PySem.W.keepIn K (.ref f_law_pick) = true)
    (a_law_names : PySem.W.nsIn K mainGlobals "_law_names" = some (some (.ref f_law_names))) (l_law_names : K.lookup f_law_names = some ⟨oc_law_names, od_law_names, .func (PySem.W.fnOf "_law_names" "_law_names" (defArgs sNames) (defBody sNames) (defScope sNames) .none kV_law_names dc_law_names pm_law_names an_law_names cd_law_names ct_law_names), sl_law_names⟩) (c_law_names : PySem.W.codeIn K cd_law_names "_law_names" = true) (k_law_names : PySem.W.keepIn K (.ref f_law_names) = true)
    (a_law_is : PySem.W.nsIn K mainGlobals "_law_is" = some (some (.ref f_law_is))) (l_law_is : K.lookup f_law_is = some ⟨oc_law_is, od_law_is, .func (PySem.W.fnOf "_law_is" "_law_is" (defArgs sIs) (defBody sIs) (defScope sIs) .none kV_law_is dc_law_is pm_law_is an_law_is cd_law_is ct_law_is), sl_law_is⟩) (c_law_is : PySem.W.codeIn K cd_law_is "_law_is" = true) (k_law_is : PySem.W.keepIn K (.ref f_law_is) = true)
    (alaw : PySem.W.nsIn K mainGlobals "law" = some (some (.ref flaw))) (llaw : K.lookup flaw = some ⟨oclaw, odlaw, .func (PySem.W.fnOf "law" "law" (defArgs sLaw) (defBody sLaw) (defScope sLaw) .none kVlaw dclaw pmlaw anlaw cdlaw ctlaw), sllaw⟩) (claw : PySem.W.codeIn K cdlaw "law" = true) (klaw : PySem.W.keepIn K (.ref flaw) = true)
    (zlen : PySem.W.nsIn K mainGlobals "len" = some none)
    (zisinstance : PySem.W.nsIn K mainGlobals "isinstance" = some none)
    (zmax : PySem.W.nsIn K mainGlobals "max" = some none)
    (zmin : PySem.W.nsIn K mainGlobals "min" = some none)
    (zrange : PySem.W.nsIn K mainGlobals "range" = some none)
    (zstr : PySem.W.nsIn K mainGlobals "str" = some none)
    (zrepr : PySem.W.nsIn K mainGlobals "repr" = some none)
    (zint : PySem.W.nsIn K mainGlobals "int" = some none)
    (zbool : PySem.W.nsIn K mainGlobals "bool" = some none)
    : ∃ fd : FuncData, (∀ (s : Shared) (v : Value), BindsTo s fd ⟨[v], []⟩ [("_law_script", v)]) ∧ ∀ base : Heap, K.In base → base.Ns mainGlobals mg → FnOk l.prog w K mg base CX0 5 fa fd ["_law_script"] (spLaw K) := by
  have e := hfa.symm.trans (PySem.W.mg_of X G alaw)
  cases e
  have F_law_tape := fun_mk (st := sTape) l_law_tape c_law_tape k_law_tape
  have g_law_tape := PySem.W.mg_of X G a_law_tape
  have b_law_tape := F_law_tape.binds (ps := ["_law_script"]) fun _ _ _ _ _ _ us hl => match us, hl with | [_], _ => rfl
  have F_law_draw := fun_mk (st := sDraw) l_law_draw c_law_draw k_law_draw
  have g_law_draw := PySem.W.mg_of X G a_law_draw
  have b_law_draw := F_law_draw.binds (ps := ["_law_tape_here", "_law_many"]) fun _ _ _ _ _ _ us hl => match us, hl with | [_, _], _ => rfl
  have F_law_pick := fun_mk (st := sPick) l_law_pick c_law_pick k_law_pick
  have g_law_pick := PySem.W.mg_of X G a_law_pick
  have b_law_pick := F_law_pick.binds (ps := ["_law_tape_here", "_law_some"]) fun _ _ _ _ _ _ us hl => match us, hl with | [_, _], _ => rfl
  have F_law_names := fun_mk (st := sNames) l_law_names c_law_names k_law_names
  have g_law_names := PySem.W.mg_of X G a_law_names
  have b_law_names := F_law_names.binds (ps := ["_law_tape_here", "_law_many"]) fun _ _ _ _ _ _ us hl => match us, hl with | [_, _], _ => rfl
  have F_law_is := fun_mk (st := sIs) l_law_is c_law_is k_law_is
  have g_law_is := PySem.W.mg_of X G a_law_is
  have b_law_is := F_law_is.binds (ps := ["_law_one", "_law_who", "_law_bearing"]) fun _ _ _ _ _ _ us hl => match us, hl with | [_, _, _], _ => rfl
  have Flaw := fun_mk (st := sLaw) llaw claw klaw
  have glaw := PySem.W.mg_of X G alaw
  have blaw := Flaw.binds (ps := ["_law_script"]) fun _ _ _ _ _ _ us hl => match us, hl with | [_], _ => rfl
  have gCBoat := PySem.W.mg_of X G aBoat
  have FBoat___init__ := fun_mk (st := sBInit) lBoat___init__ cBoat___init__ kBoat___init__
  have bBoat___init__ := FBoat___init__.binds (ps := ["self", "name", "bears"]) fun _ _ _ _ _ _ us hl => match us, hl with | [_, _, _], _ => rfl
  have FBoat___eq__ := fun_mk (st := sBEq) lBoat___eq__ cBoat___eq__ kBoat___eq__
  have bBoat___eq__ := FBoat___eq__.binds (ps := ["self", "other"]) fun _ _ _ _ _ _ us hl => match us, hl with | [_, _], _ => rfl
  have FBoat___str__ := fun_mk (st := sBStr) lBoat___str__ cBoat___str__ kBoat___str__
  have bBoat___str__ := FBoat___str__.binds (ps := ["self"]) fun _ _ _ _ _ _ us hl => match us, hl with | [_], _ => rfl
  have FBoat___repr__ := fun_mk (st := sBRepr) lBoat___repr__ cBoat___repr__ kBoat___repr__
  have bBoat___repr__ := FBoat___repr__.binds (ps := ["self"]) fun _ _ _ _ _ _ us hl => match us, hl with | [_], _ => rfl
  have mlen := PySem.W.mg_none_of X G zlen
  have misinstance := PySem.W.mg_none_of X G zisinstance
  have mmax := PySem.W.mg_none_of X G zmax
  have mmin := PySem.W.mg_none_of X G zmin
  have mrange := PySem.W.mg_none_of X G zrange
  have mstr := PySem.W.mg_none_of X G zstr
  have mrepr := PySem.W.mg_none_of X G zrepr
  have mint := PySem.W.mg_none_of X G zint
  have mbool := PySem.W.mg_none_of X G zbool
  have kbBoat := fun_kbn FBoat___init__ (ps := ["self", "name", "bears"]) (ks := ["bears", "name"]) (n := 1) fun _ _ _ _ _ _ us ws h1 h2 => match us, ws, h1, h2 with | [_], [_, _], _, _ => rfl
  exact ⟨_, fun s v => .of_eq rfl, fun base _ _ => ok_law Flaw ⟨mlen⟩ ⟨mlen, mrange⟩ ⟨misinstance, mint, mbool, mstr, mrepr⟩ ⟨mlen, mmax, mmin, mrange, mstr, mrepr, mint⟩
    ⟨⟨pgBoat, hdBoat, poBoat, saBoat⟩, nBoat_name, nBoat_bears, gCBoat, haBoat, hnBoat, htBoat, hmBoat, nfBoat, neBoat, ⟨subBoat_NoneType, subBoat_int, subBoat_str, subBoat_list, subBoat_tuple, subBoat_dict⟩, misinstance⟩
    ⟨⟨kit_no icBoat tyBoat kitBoat_NoneType, ntBoat_NoneType⟩, ⟨kit_no icBoat tyBoat kitBoat_int, ntBoat_int⟩, ⟨kit_no icBoat tyBoat kitBoat_str, ntBoat_str⟩, ⟨kit_no icBoat tyBoat kitBoat_list, ntBoat_list⟩, ⟨kit_no icBoat tyBoat kitBoat_tuple, ntBoat_tuple⟩, ⟨kit_no icBoat tyBoat kitBoat_dict, ntBoat_dict⟩⟩
    ⟨mkBoat, aBoat___init__, iBoat___init__, kcBoat⟩ FBoat___init__ bBoat___init__ kbBoat ⟨aBoat___eq__, iBoat___eq__, kBoat___eq__⟩ FBoat___eq__ bBoat___eq__
    ⟨aBoat___str__, iBoat___str__, kBoat___str__⟩ FBoat___str__ bBoat___str__ ⟨aBoat___repr__, iBoat___repr__, kBoat___repr__⟩ FBoat___repr__ bBoat___repr__
    F_law_tape g_law_tape b_law_tape F_law_draw g_law_draw b_law_draw F_law_pick g_law_pick b_law_pick F_law_names g_law_names b_law_names F_law_is g_law_is b_law_is⟩
end Bb
open PySem PySem.W PyProof.Rows
set_option maxHeartbeats 0 in
theorem PySem.Challenge.cw_boatbridge_k08_boats_as_objects_holds : PySem.Challenge.rw_boatbridge_k08_boats_as_objects.Holds := by
  w_on; o_law; k_head; (case hw => w_witness2)
  k_fill
  refine L2.walk_of (l := PySem.Challenge.rw_boatbridge_k08_boats_as_objects) (n := 63) (k := 5) (x := "_law_script") (CX := fun _ => L2.CX0) (sp := fun w => Bb.spLaw _) rfl (by decide) rfl ⟨rfl, by decide, by decide⟩ (fun w h Y => PySem.W.kIn_of Y) ?F (fun _ _ a ns hl _ hS => ⟨a, ns, rfl, hS, hl, fun _ => rfl⟩) (fun _ _ _ _ _ h => h)
  case F =>
    intro w mg fa h KX G hmg
    refine' Bb.all_mk KX G hmg ?aBoat ?pgBoat ?hdBoat ?poBoat ?saBoat ?mkBoat ?kcBoat ?haBoat ?hnBoat ?htBoat ?hmBoat ?nfBoat ?nBoat_name ?nBoat_bears ?neBoat ?icBoat ?tyBoat ?subBoat_NoneType ?kitBoat_NoneType ?ntBoat_NoneType ?subBoat_int ?kitBoat_int ?ntBoat_int ?subBoat_str ?kitBoat_str ?ntBoat_str ?subBoat_list ?kitBoat_list ?ntBoat_list ?subBoat_tuple ?kitBoat_tuple ?ntBoat_tuple ?subBoat_dict ?kitBoat_dict ?ntBoat_dict ?aBoat___init__ ?iBoat___init__ ?lBoat___init__ ?cBoat___init__ ?kBoat___init__ ?aBoat___eq__ ?iBoat___eq__ ?lBoat___eq__ ?cBoat___eq__ ?kBoat___eq__ ?aBoat___str__ ?iBoat___str__ ?lBoat___str__ ?cBoat___str__ ?kBoat___str__ ?aBoat___repr__ ?iBoat___repr__ ?lBoat___repr__ ?cBoat___repr__ ?kBoat___repr__ ?a_law_tape ?l_law_tape ?c_law_tape ?k_law_tape ?a_law_draw ?l_law_draw ?c_law_draw ?k_law_draw ?a_law_pick ?l_law_pick ?c_law_pick ?k_law_pick ?a_law_names ?l_law_names ?c_law_names ?k_law_names ?a_law_is ?l_law_is ?c_law_is ?k_law_is ?alaw ?llaw ?claw ?klaw ?zlen ?zisinstance ?zmax ?zmin ?zrange ?zstr ?zrepr ?zint ?zbool
    (case aBoat => k_is)
    (case pgBoat => k_is)
    (case hdBoat => k_is)
    (case poBoat => k_is)
    (case saBoat => k_is)
    (case mkBoat => k_is)
    (case kcBoat => k_is)
    (case haBoat => k_is)
    (case hnBoat => k_is)
    (case htBoat => k_is)
    (case hmBoat => k_is)
    (case nfBoat => k_is)
    (case nBoat_name => k_is)
    (case nBoat_bears => k_is)
    (case neBoat => k_is)
    (case icBoat => k_is)
    (case tyBoat => k_is)
    (case subBoat_NoneType => k_is)
    (case kitBoat_NoneType => k_is)
    (case ntBoat_NoneType => k_is)
    (case subBoat_int => k_is)
    (case kitBoat_int => k_is)
    (case ntBoat_int => k_is)
    (case subBoat_str => k_is)
    (case kitBoat_str => k_is)
    (case ntBoat_str => k_is)
    (case subBoat_list => k_is)
    (case kitBoat_list => k_is)
    (case ntBoat_list => k_is)
    (case subBoat_tuple => k_is)
    (case kitBoat_tuple => k_is)
    (case ntBoat_tuple => k_is)
    (case subBoat_dict => k_is)
    (case kitBoat_dict => k_is)
    (case ntBoat_dict => k_is)
    (case aBoat___init__ => k_is)
    (case iBoat___init__ => k_is)
    (case lBoat___init__ => k_is)
    (case cBoat___init__ => k_is)
    (case kBoat___init__ => k_is)
    (case aBoat___eq__ => k_is)
    (case iBoat___eq__ => k_is)
    (case lBoat___eq__ => k_is)
    (case cBoat___eq__ => k_is)
    (case kBoat___eq__ => k_is)
    (case aBoat___str__ => k_is)
    (case iBoat___str__ => k_is)
    (case lBoat___str__ => k_is)
    (case cBoat___str__ => k_is)
    (case kBoat___str__ => k_is)
    (case aBoat___repr__ => k_is)
    (case iBoat___repr__ => k_is)
    (case lBoat___repr__ => k_is)
    (case cBoat___repr__ => k_is)
    (case kBoat___repr__ => k_is)
    (case a_law_tape => k_is)
    (case l_law_tape => k_is)
    (case c_law_tape => k_is)
    (case k_law_tape => k_is)
    (case a_law_draw => k_is)
    (case l_law_draw => k_is)
    (case c_law_draw => k_is)
    (case k_law_draw => k_is)
    (case a_law_pick => k_is)
    (case l_law_pick => k_is)
    (case c_law_pick => k_is)
    (case k_law_pick => k_is)
    (case a_law_names => k_is)
    (case l_law_names => k_is)
    (case c_law_names => k_is)
    (case k_law_names => k_is)
    (case a_law_is => k_is)
    (case l_law_is => k_is)
    (case c_law_is => k_is)
    (case k_law_is => k_is)
    (case alaw => k_is)
    (case llaw => k_is)
    (case claw => k_is)
    (case klaw => k_is)
    (case zlen => k_is)
    (case zisinstance => k_is)
    (case zmax => k_is)
    (case zmin => k_is)
    (case zrange => k_is)
    (case zstr => k_is)
    (case zrepr => k_is)
    (case zint => k_is)
    (case zbool => k_is)
