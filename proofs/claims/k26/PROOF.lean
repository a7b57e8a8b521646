import PyProof.Rows.All
import Wide.All
import OpenK.AllK
import Wide.FinOn
import PyProof.FString3
import PyProof.InstNe
import HandS.ForMost
import HandS.FStr
import HandS.StrMore
import HandS.IsInst
import HandS.Codes
import HandS.TryOnly
import HandS.SlotsOwn
import HandS.Defaults
import HandS.MakeKw
import HandS.MakeKwOnly
import HandS.OwnEq
import KE.KCallOwn
import KE.KFmtOwn
import HandS.ExcInit
import HandS.ExcIs
import HandS.ExcField
import HandS.ExcValue
import KE.KExcIs
import KE.KExcInit
import HandS.Conv
import OpenK.KOps
import PyProof.Rows.Range3
import PyProof.ListRange
import HandS.Style
import PyProof.ReprRoads
import PyProof.ExcBaseAll.LookupError
import PyProof.ExcBaseAll.IndexError
import HandS.SortInts
import HandS.SortKw
import HandS.Star
import HandS.Flow
import HandS.WordsExc
import HandS.FStrTup
import HandS.CallSlots
import HandS.Zip
import HandS.Lambda
import HandS.EndTab
import HandS.More
import HandS.List
import KE.KxIndex
import PyProof.Rows.StrRev
import KE.IntTextLaws
import KE.IntTextText
import HandS.SetFor
import HandS.Strs
import HandS.SortInts
import PySem.Challenge.RW_boatbridge_k26_allowed_minutes_of_a_stre
set_option Elab.async false
set_option linter.all false
set_option maxRecDepth 100000
namespace Bb
open PySem PySem.Spec PyProof.Rows L2 PySem.W
open C8 (pss_cut)
open TL (tl ext_tl partition_app partition_none)
/-! ### a call with keywords alone -/
section
variable {X : Cx} {CX : CXT} {k : Nat} {f : Addr} {fd : FuncData} {ps ks : List Str} {sp : Sp} {E : XK} {x : Str} {p pos : Pos} {kws : List Keyword} {tk : TA} {g : List Value → List Value → List Value} {gV : List V → List V → List V}
theorem pe_callK0 (F : FnOk X.prog X.w X.K X.mg X.base CX k f fd ps sp) (hr : Room k X.A) (hg : Gl X x) (hm : X.mg x = some (.ref f)) (hk : PySem.W.keepIn X.K (.ref f) = true) (hb : KBinds X.K fd ps ks g gV) (hx : Passes CX X E)
    (hkw : PK X kws tk) (hall : (backToKw pos (keywordEach kws X.env)).all (·.1.isSome) = true := by rfl) (hks : (backToKw pos (keywordEach kws X.env)).filterMap (·.1) = ks := by rfl)
    (hdb : (x == ("__debug__" : Str)) = false := by decide)
    (hpl : ((backTo pos (starEach [] X.env)).any (·.1) || (backToKw pos (keywordEach kws X.env)).any (·.1.isNone)) = false := by rfl) :
    PE X (.Call (.Name x p) [] kws pos) (tCallK sp gV E tNil tk) := by
  refine ⟨fun pins s σ H Q I h => ?_⟩
  refine wpAny_Call_Name_kw (ld_glob I hg hm ?_ hdb)
  refine PySem.W.callWith_KW0 (h₀ := X.base) I.ok.mod.kin hk hall ?_ hpl
  refine thn (hkw.run pos pins s σ H _ I h) fun ws s2 ⟨zs, H2, I2, rz, q2⟩ => ⟨I2.kIn, ?_⟩
  rw [hks]
  exact run_fnk F hr hb hx I2 .nil rz q2
/-- keywords in the parameters' own order -/
theorem fun_kbinds {K : Frag} {x qual : Str} {st : Stmt} {f : Addr} {fd : FuncData} {ps ks : List Str} (F : Fun K x qual st f fd)
    (h : ∀ (kV doc pm : Value) (an : Option Addr) (cdv ct : Value) (us ws : List Value), (us ++ ws).length = ps.length → bindArgs (PySem.W.fnOf x qual (defArgs st) (defBody st) (defScope st) .none kV doc pm an cdv ct) ⟨us, ks.zip ws⟩ = pure (ps.zip (us ++ ws))) :
    KBinds K fd ps ks (· ++ ·) (· ++ ·) := by
  obtain ⟨oc, od, kV, doc, pm, an, cdv, ct, osl, rfl, lk, hcd⟩ := F.ex
  exact ⟨fun s us ws _ hl => .of_eq (h kV doc pm an cdv ct us ws hl), fun a b => a.append b⟩
theorem vals_rev : ∀ {zs : List V} {ws : List Value}, Vals zs ws → Vals zs.reverse ws.reverse
  | _, _, .nil => .nil
  | _, _, .cons r t => by
    rw [List.reverse_cons, List.reverse_cons]
    exact (vals_rev t).append (.cons r .nil)
/-- all by keywords -/
def kwAll {α : Type} (n : Nat) (us ws : List α) : List α := if us.length = 0 ∧ ws.length = n then ws else []
theorem kwAll_vals {n : Nat} {vs zs : List V} {us ws : List Value} (a : Vals vs us) (b : Vals zs ws) : Vals (kwAll n vs zs) (kwAll n us ws) := by
  unfold kwAll
  rw [a.length, b.length]
  split
  · exact b
  · exact .nil
theorem fun_kbindsA {K : Frag} {x qual : Str} {st : Stmt} {f : Addr} {fd : FuncData} {ps ks : List Str} (F : Fun K x qual st f fd) (hn : ps ≠ [])
    (h : ∀ (kV doc pm : Value) (an : Option Addr) (cdv ct : Value) (ws : List Value), ws.length = ps.length → bindArgs (PySem.W.fnOf x qual (defArgs st) (defBody st) (defScope st) .none kV doc pm an cdv ct) ⟨[], ks.zip ws⟩ = pure (ps.zip ws)) :
    KBinds K fd ps ks (kwAll ps.length) (kwAll ps.length) := by
  obtain ⟨oc, od, kV, doc, pm, an, cdv, ct, osl, rfl, lk, hcd⟩ := F.ex
  refine ⟨fun s us ws _ hl => ?_, kwAll_vals⟩
  unfold kwAll at hl ⊢
  split at hl
  · rename_i c
    rw [if_pos c, List.eq_nil_of_length_eq_zero c.1]
    exact .of_eq (h kV doc pm an cdv ct ws c.2)
  · exact absurd (List.eq_nil_of_length_eq_zero hl.symm) hn
/-- all by keywords, in the parameters' order turned about -/
theorem fun_kbindsR {K : Frag} {x qual : Str} {st : Stmt} {f : Addr} {fd : FuncData} {ps ks : List Str} (F : Fun K x qual st f fd) (hn : ps ≠ [])
    (h : ∀ (kV doc pm : Value) (an : Option Addr) (cdv ct : Value) (ws : List Value), ws.length = ps.length → bindArgs (PySem.W.fnOf x qual (defArgs st) (defBody st) (defScope st) .none kV doc pm an cdv ct) ⟨[], ks.zip ws⟩ = pure (ps.zip ws.reverse)) :
    KBinds K fd ps ks (fun us ws => (kwAll ps.length us ws).reverse) (fun us ws => (kwAll ps.length us ws).reverse) := by
  obtain ⟨oc, od, kV, doc, pm, an, cdv, ct, osl, rfl, lk, hcd⟩ := F.ex
  refine ⟨fun s us ws _ hl => ?_, fun a b => vals_rev (kwAll_vals a b)⟩
  rw [List.length_reverse] at hl
  unfold kwAll at hl ⊢
  split at hl
  · rename_i c
    rw [if_pos c, List.eq_nil_of_length_eq_zero c.1]
    exact .of_eq (h kV doc pm an cdv ct ws c.2)
  · exact absurd (List.eq_nil_of_length_eq_zero hl.symm) hn
end
/-! ### defs that are called where no repr is under way (so that repr of lists and tuples is known) -/
structure FnOkG (P : Program) (w : World) (K : PySem.W.Frag) (mg : Str → Option Value) (base : Heap) (CX : CXT) (k : Nat) (f : Addr) (fd : FuncData) (ps : List Str) (sp : Sp) : Prop where
  many : ∀ vs H Q E, sp vs H Q E → vs.length = ps.length
  goes : ∀ (A : Around) (outer : List Env) (s : Shared) (H : Hp) (args : Args) (us : List Value) (vs : List V) (Q : VK) (E : XK), A.guards = some [] → Room k A → Env0 P w K mg base A outer s H → BindsTo s fd args (ps.zip us) → Vals vs us → sp vs H Q E →
    codeAny (model P w) A (.call (.ref f) args) (CR CX outer P w H s Q E) s
theorem FnOk.g {P : Program} {w : World} {K : PySem.W.Frag} {mg : Str → Option Value} {base : Heap} {CX : CXT} {k : Nat} {f : Addr} {fd : FuncData} {ps : List Str} {sp : Sp} (F : FnOk P w K mg base CX k f fd ps sp) : FnOkG P w K mg base CX k f fd ps sp :=
  ⟨F.len, fun A o s H a us vs Q E _ => F.run A o s H a us vs Q E⟩
section
variable {P : Program} {w : World} {K : PySem.W.Frag} {mg : Str → Option Value} {base : Heap}
theorem okG {x qual : Str} {st : Stmt} {f : Addr} {fd : FuncData} {N ps : List Str} {k : Nat} {sp : Sp} (F : Fun K x qual st f fd) (S : FnScope N ps (defScope st)) (hn : ∀ vs H Q E, sp vs H Q E → vs.length = ps.length)
    (hb : ∀ (cdv : Value) (A : Around) (outer : List Env) (s : Shared) (H : Hp) (vs : List V) (Q : VK) (E : XK), A.guards = some [] → Room k (A.deeper (envOfC qual (defScope st) s.heap.objs.size f cdv)) → sp vs H Q E →
      ∃ t, PSs (cxOf CX0 P w K mg base N qual (defScope st) f cdv A outer s H E).nox (defBody st) t ∧ t { nx := fun _ H' => Q .non H', rt := Q } (start N vs) H) : FnOkG P w K mg base CX0 (k + 1) f fd ps sp := by
  obtain ⟨oc, od, kV, doc, pm, an, cdv, ct, osl, rfl, lk, hcd⟩ := F.ex
  constructor
  · exact hn
  intro A outer s H args us vs Q E gd hr env bnd rel want
  have olds : ∀ z y, base.get? z = some y → s.heap.get? z = some y := fun z y e => (env.bs z y e).1
  have inK : K.In s.heap := env.mod.kin.keeps olds
  have vis : ∀ q ∈ ps.zip us, (defScope st).names.lookup q.1 = some .local ∨ ((defScope st).names.lookup q.1 = some .cell ∧ ((cellsFrom (s.heap.objs.size + 1) (defScope st).names []).lookup q.1).isSome = true) := by
    intro q hq
    obtain ⟨n, v⟩ := q
    exact (S.par n (List.of_mem_zip hq).1).elim Or.inl fun c => Or.inr ⟨c, PySem.W.cellsFrom_some _ _ _ (Or.inl c)⟩
  apply codeAny_call_function hr.depth (inK _ _ lk) rfl S.co S.gen rfl (PySem.W.codeRec_of inK hcd)
  apply bnd
  refine wpAny_newFunctionEnv_cells S.kind vis fun env' he s1 x => ?_
  cases he
  refine ⟨(env.mod.nolimit.keeps olds).keeps x.toInCall.keep, codeAny_func ?_⟩
  obtain ⟨t, ht, hq⟩ := hb cdv A outer s H vs Q E gd (hr.deeper _) want
  have ht := ht.nox
  have J0 : L2.Inv (cxOf CX0 P w K mg base N qual (defScope st) f cdv A outer s H E) [] (start N vs) H s1 := inv_start S hr.hd env (hn _ _ _ _ want) rel x
  refine wpAny_mono (ht.run [] s1 (start N vs) H _ J0 hq) (fun fl s' z => ?_) fun _ _ z => z
  match fl, z with
  | .ret u, ⟨v, σ', H', J, rv, q⟩ => exact ⟨v, H', J.os, J.bare, J.base, J.hok, rv, q⟩
  | .next, ⟨σ', H', J, q⟩ => exact ⟨V.non, H', J.os, J.bare, J.base, J.hok, rfl, q⟩
  | .brk, ⟨_, _, _, q⟩ => exact q.elim
  | .cont, ⟨_, _, _, q⟩ => exact q.elim
end
section
variable {X : Cx} {CX : CXT} {k : Nat} {f : Addr} {fd : FuncData} {ps : List Str} {sp : Sp} {dvs : List V} {ds : List Value} {E : XK} {x : Str} {p pos : Pos} {e : Expr} {es : List Expr} {t : TA}
/-- f(e, ..), f such a def -/
theorem pe_callG (F : FnOkG X.prog X.w X.K X.mg X.base CX k f fd ps sp) (gd : X.A.guards = some []) (hr : Room k X.A) (hg : Gl X x) (hm : X.mg x = some (.ref f)) (hk : PySem.W.keepIn X.K (.ref f) = true) (hb : L2.Binds X.K fd ps ds) (hd : Vals dvs ds) (hx : Passes CX X E)
    (ha : PA X (e :: es) t) (n1 : (x == ("__debug__" : Str)) = false := by decide) (n2 : starEach (e :: es) X.env = (false, eval e X.env) :: starEach es X.env := by rfl) (n3 : (backTo pos (starEach es X.env)).any (·.1) = false := by rfl) :
    PE X (.Call (.Name x p) (e :: es) [] pos) (tCall sp dvs E t) := by
  constructor
  intro pins s σ H Q I h
  apply wpAny_Call_Name_kw (ld_glob I hg hm ?_ n1)
  refine PySem.W.callWith_K (h₀ := X.base) I.ok.mod.kin hk (thn (ha.run pos pins s σ H _ I h) ?_) n2 n3
  rintro us s1 ⟨vs, H1, I1, r, q⟩
  refine ⟨I1.kIn, ?_⟩
  have rr : Vals (vs ++ dvs) (us ++ ds) := r.append hd
  have ll : (us ++ ds).length = ps.length := rr.length.symm.trans (F.many _ _ _ _ q)
  refine wpAny_call (codeAny_mono (F.goes X.A X.stack s1 H1 ⟨us, []⟩ (us ++ ds) (vs ++ dvs) Q E gd hr I1.env0 (hb s1 us I1.kIn ll) rr q) fun z s' hz => ?_)
  match z, hz with
  | .error er, hz => exact hx pins σ H1 s1 er s' I1 hz
  | .ok (.ret u), hz => exact I1.after hz
  | .ok .next, hz => exact (show False from hz).elim
  | .ok .brk, hz => exact (show False from hz).elim
  | .ok .cont, hz => exact (show False from hz).elim
/-- repr(x) of data -/
def rReprD (K : PySem.W.Frag) : List V → Hp → VK → Prop := fun xs H Q => ∃ x d, xs = [x] ∧ Dp K H x d ∧ SeqAt.shaped d = true ∧ d.showable = true ∧ d.shown.length ≤ sizeLine ∧ Q (.str d.shown) H
theorem call_reprD (gd : X.A.guards = some []) (hr : Room k X.A) : CallR X (.builtin "repr") (rReprD X.K) := by
  intro pins s σ H xs us Q I r h
  obtain ⟨y, d, rfl, hd, sh, sw, sz, q⟩ := h
  obtain ⟨u, rfl, ru⟩ := Vals.one r
  have dd := SeqAt.depth_of_shaped sh
  have un := hr.un
  have nd : d.hasDict = true → sysModules ∉ ([] : List Addr) := fun z => by rw [PyData.hasDict_of_canLay d (SeqAt.canLay_of_shaped sh)] at z; cases z
  cases hd with
  | non =>
    cases (show u = Value.none from ru)
    exact P.repr_of_none ⟨V.str "None", H, I.tok _, ⟨_, rfl⟩, by rw [PyData.shown] at q; exact q⟩
  | bl b =>
    cases (show u = Value.bool b from ru)
    exact P.repr_of_bool ⟨V.str (if b then "True" else "False"), H, I.tok _, ⟨_, rfl⟩, by rw [PyData.shown] at q; exact q⟩
  | int i =>
    obtain ⟨t, rfl⟩ := (show ∃ t, u = Value.int i t from ru)
    refine P.repr_of_int (of_decide_eq_true (by rw [PyData.showable] at sw; exact sw)) ⟨V.str (toString i), H, I.tok _, ⟨_, rfl⟩, by rw [PyData.shown] at q; exact q⟩
  | str z =>
    obtain ⟨t, rfl⟩ := (show ∃ t, u = Value.str z t from ru)
    exact P.repr_of_str ⟨V.str (reprText z), H, I.tok _, ⟨_, rfl⟩, by rw [PyData.shown] at q; exact q⟩ (by rw [PyData.shown] at sz; exact sz)
  | lst a b =>
    obtain ⟨as, rd⟩ := Dp.reads I _ _ u (.lst a b) ru
    cases ru
    exact repr_of_reads' rd sw (fun z => by rw [PyData.hasDict_of_canLay _ (SeqAt.canLay_of_shaped sh)] at z; cases z) gd (by omega) (fun _ _ z => z) (fun h' t' tk hk => ⟨V.str (PyData.shown _), H, I.kept hk, ⟨_, rfl⟩, q⟩) sz
  | tup a b =>
    obtain ⟨as, rd⟩ := Dp.reads I _ _ u (.tup a b) ru
    cases ru
    exact repr_of_reads' rd sw (fun z => by rw [PyData.hasDict_of_canLay _ (SeqAt.canLay_of_shaped sh)] at z; cases z) gd (by omega) (fun _ _ z => z) (fun h' t' tk hk => ⟨V.str (PyData.shown _), H, I.kept hk, ⟨_, rfl⟩, q⟩) sz
end
/-! ### the law's end, for such a law -/
section
variable {P : Program} {w : World} {K : PySem.W.Frag} {mg mb : Str → Option Value} {k : Nat} {fa a : Addr} {fd : FuncData} {x : Str} {sp : Sp} {s₁ : Shared} {vs : List Value} {ns : List Int}
/-- from a heap in which nothing but the script may stand -/
theorem lawG0 (KX : K.In s₁.heap) (g1 : s₁.heap.Ns mainGlobals mg) (g2 : s₁.heap.Ns builtinsNs mb) (g3 : ∀ x : Str, x ≠ "__name__" → mb x = bootBuiltins x) (g4 : s₁.heap.NoLimit) (g5 : s₁.gens = #[])
    (ha : s₁.heap.get? a = some { cls := .type "list", data := .seq vs.toArray }) (hr : Room k callerA)
    (F : ∀ base : Heap, K.In base → base.Ns mainGlobals mg → FnOkG P w K mg base CX0 k fa fd [x] sp) (bd : ∀ (s : Shared) (u : Value), BindsTo s fd ⟨[u], []⟩ [(x, u)])
    (H : Hp) (hO : Only H) (want : sp [.ref a] H (fun v _ => v = .bl true) fun _ _ _ => False) (ok : HOk P w H s₁.heap) (hA : ∀ b, H b ≠ none → b = a) (hK : H a ≠ none → K.lookup a = none) :
    codeAny (model P w) callerA (.call (.ref fa) ⟨[.ref a], []⟩) (fun r s' => r = .ok (.ret (.bool true)) ∧ OldK s₁.heap s'.heap ∧ s'.os = s₁.os ∧ AllBare s'.gens) s₁ := by
  have noA : ∀ {b : Addr} {o : Obj} {es : Array DictEntry} {ep : Nat}, s₁.heap.get? b = some o → o.data = .dict es ep → H b = none := by
    intro b o es ep e d
    apply Classical.byContradiction
    intro z
    have e2 := e
    rw [hA b z, ha] at e2
    cases e2
    exact nomatch (show Data.seq vs.toArray _ = Data.dict es ep from d)
  have nsK : ∀ {b : Addr} {m : Str → Option Value}, s₁.heap.Ns b m → (hidT s₁.heap H).Ns b m := by
    rintro b m ⟨o, es, ep, e, d, r⟩
    exact ⟨o, es, ep, hidT_get e (noA e d), d, r⟩
  have kb : K.In (hidT s₁.heap H) := by
    intro b o e
    refine hidT_get (KX b o e) (Classical.byContradiction fun z => ?_)
    have eb := hA b z
    subst eb
    rw [hK z] at e
    cases e
  have M : Mod K mg (hidT s₁.heap H) := by
    obtain ⟨mc, h1, h2⟩ := g4
    exact ⟨kb, nsK g1, ⟨mb, nsK g2, g3⟩, ⟨mc, nsK h1, h2⟩⟩
  have e0 : Env0 P w K mg (hidT s₁.heap H) callerA [] s₁ H :=
    { frames := rfl, mod := M, bs := fun b o e => of_hidT e, bsz := Nat.le_of_eq (hidT_size _ _), funs := trivial, frf := fun b z => absurd (show b ∈ ([] : List Addr) from z) (by simp), hok := ok, bare := .of_eq g5 }
  have run := (F _ kb (nsK g1)).goes callerA [] s₁ H ⟨[.ref a], []⟩ [.ref a] [.ref a] _ _ rfl hr e0 (bd s₁ (.ref a)) (.cons rfl .nil) want
  refine codeAny_mono run fun r s' h => ?_
  match r, h with
  | .error e, h => exact (show False from h).elim
  | .ok .next, h => exact (show False from h).elim
  | .ok .brk, h => exact (show False from h).elim
  | .ok .cont, h => exact (show False from h).elim
  | .ok (.ret u), ⟨v, H', os, bare, un, ok', rv, (qv : v = .bl true)⟩ =>
    cases qv
    cases (show u = Value.bool true from rv)
    refine ⟨rfl, OldK.of_keep fun b o e => ?_, os, bare⟩
    cases q : H b with
    | none => exact un.keep b o e q (fun z => absurd (show b ∈ ([] : List Addr) from z) (by simp)) (by simp)
    | some y =>
      rcases hO b with z | ⟨ob, xs, z⟩
      · rw [z] at q; cases q
      · have f1 := (ok b _ z).1
        have f2 := (ok' b _ (un.frzs b ob _ z)).1
        rw [f1] at e
        cases e
        exact f2
theorem lawG (KX : K.In s₁.heap) (g1 : s₁.heap.Ns mainGlobals mg) (g2 : s₁.heap.Ns builtinsNs mb) (g3 : ∀ x : Str, x ≠ "__name__" → mb x = bootBuiltins x) (g4 : s₁.heap.NoLimit) (g5 : s₁.gens = #[])
    (ha : s₁.heap.get? a = some { cls := .type "list", data := .seq vs.toArray }) (hi : IntsAre vs ns) (hl : ns.length ≤ sizeLine) (hr : Room k callerA)
    (F : ∀ base : Heap, K.In base → base.Ns mainGlobals mg → FnOkG P w K mg base CX0 k fa fd [x] sp) (bd : ∀ (s : Shared) (u : Value), BindsTo s fd ⟨[u], []⟩ [(x, u)])
    (want : ∀ H : Hp, Only H → SqL K H a (ns.map V.int) → sp [.ref a] H (fun v _ => v = .bl true) fun _ _ _ => False) :
    codeAny (model P w) callerA (.call (.ref fa) ⟨[.ref a], []⟩) (fun r s' => r = .ok (.ret (.bool true)) ∧ OldK s₁.heap s'.heap ∧ s'.os = s₁.os ∧ AllBare s'.gens) s₁ := by
  have rv := vals_ints hi
  rcases hk : K.lookup a with _ | o
  · let H : Hp := fun b => if b = a then some (.frz { cls := .type "list", data := .seq vs.toArray } (.lst (ns.map V.int))) else none
    have Ha : H a = some (.frz { cls := .type "list", data := .seq vs.toArray } (.lst (ns.map V.int))) := if_pos rfl
    have Hn : ∀ b, b ≠ a → H b = none := fun b n => if_neg n
    have hO : Only H := fun b => (Classical.em (b = a)).elim (fun e => .inr ⟨_, _, e ▸ Ha⟩) fun n => .inl (Hn b n)
    have hA : ∀ b, H b ≠ none → b = a := fun b z => Classical.byContradiction fun n => z (Hn b n)
    refine lawG0 KX g1 g2 g3 g4 g5 ha hr F bd H hO (want H hO (.inl (.inr ⟨_, Ha⟩))) (fun b u z => ?_) hA fun _ => hk
    have e := hA b (by rw [z]; intro y; cases y)
    subst e
    rw [Ha] at z
    cases z
    exact ⟨ha, by rw [List.length_map]; exact hl, vs, _, rv, ha⟩
  · have e := KX a o hk
    rw [ha] at e
    cases e
    refine lawG0 KX g1 g2 g3 g4 g5 ha hr F bd (fun _ => none) (fun _ => .inl rfl) (want _ (fun _ => .inl rfl) (.inr ⟨_, vs.toArray, _, hk, rfl, rfl, rfl, by rw [List.size_toArray, hi.length]; exact hl, by simpa using rv⟩)) (fun b u z => nomatch (show (none : Option HO) = some u from z)) (fun b z => absurd rfl z) fun z => absurd rfl z
end
theorem walkG {l : PySem.W.OpenLaw} {n k : Nat} {q : Program} {loose : List Str} {XP : (Str → Option Value) → Heap → Prop} {YP : World → Heap → Prop} {d : DefRec} {K : Params → PySem.W.Frag} {sp : World → Sp} {x : Str}
    (hn : l.most = some n) (hn2 : n ≤ sizeLine) (hdf : d.params.defaults = []) (hr : Room k callerA) (hY : ∀ (w : World) (h : Heap), YP w h → (K w.params).In h)
    (F : ∀ (w : World) (mg : Str → Option Value) (fa : Addr) (h : Heap), (K w.params).In h → h.Ns mainGlobals mg → mg d.name = some (.ref fa) →
      ∃ fd : FuncData, (∀ (s : Shared) (u : Value), BindsTo s fd ⟨[u], []⟩ [(x, u)]) ∧ ∀ base : Heap, (K w.params).In base → base.Ns mainGlobals mg → FnOkG l.prog w (K w.params) mg base CX0 k fa fd [x] (sp w))
    (want : ∀ (w : World) (H : Hp) (a : Addr) (ns : List Int), ns.length ≤ n → Only H → SqL (K w.params) H a (ns.map V.int) → sp w [.ref a] H (fun v _ => v = .bl true) fun _ _ _ => False) :
    PySem.W.WalkO q loose XP YP l.row.toRowW d [] (fun f vs => PySem.call f vs) := by
  apply Att.attach_call hn hdf
  intro w s₀ s₁ mg mb fa o pm cd doc a vs ns G Y ho hd hcd hmg hobj hints hlen hg
  have KX := hY w _ Y
  obtain ⟨fd, bd, hF⟩ := F w mg fa _ KX G.T.g hmg
  exact lawG KX G.T.g G.T.b G.T.builtins G.T.nolimit hg hobj hints (Nat.le_trans hlen hn2) hr hF bd fun H hO hS => want w H a ns hlen hO hS
/-! ### an exception that is kept past its clause -/
/-- at a: an exception object of the class cls, its own dict at d -/
def keptX (cls : Value) (d : Option Addr) (a : Addr) : HO := .ext fun h => ∃ (oe : Obj) (vs : Array Value), h.get? a = some oe ∧ Zc cls d oe ∧ oe.data = .fields vs
theorem keptX_ok {P : Program} {w : World} {H : Hp} {h : Heap} {cls : Value} {d : Option Addr} {a : Addr} {oe : Obj} {vs : Array Value} (g : h.get? a = some oe) (z : Zc cls d oe) (f : oe.data = .fields vs) : ObjOk P w H h a (keptX cls d a) :=
  ⟨⟨oe, vs, g, z, f⟩, ⟨oe, g⟩, fun _ _ ⟨o, v, q, r⟩ k => ⟨o, v, k o q, r⟩⟩
theorem keptX_at {P : Program} {w : World} {H : Hp} {h : Heap} {cls : Value} {d : Option Addr} {a : Addr} (hok : HOk P w H h) (e : H a = some (keptX cls d a)) : ∃ (oe : Obj) (vs : Array Value), h.get? a = some oe ∧ Zc cls d oe ∧ oe.data = .fields vs := by
  have x : ObjOk P w H h a (.ext fun h => ∃ (oe : Obj) (vs : Array Value), h.get? a = some oe ∧ Zc cls d oe ∧ oe.data = .fields vs) := hok a _ e
  exact x.1
section
variable {X : Cx} {pins : List (Addr × Obj)} {σ : L2.St} {H : Hp} {s sI : Shared}
/-- the caught object is told to the ledger: it is none of the objects of the state sI ahead of it -/
theorem inv_keep (J : Inv X pins σ H sI) (ge : sI.heap.get? a = none) (I : Inv X pins σ H s) (hx : X.ex = []) {oe : Obj} {vs : Array Value} {cls : Value} {d : Option Addr} (ha : s.heap.get? a = some oe) (hz : Zc cls d oe) (hd : oe.data = .fields vs) (na : H a = none) :
    Inv X pins σ (upd H a (keptX cls d a)) s := by
  have ne : ∀ {b : Addr} {o : Obj}, sI.heap.get? b = some o → b ≠ a := by
    intro b o e z
    rw [z, ge] at e
    cases e
  have n0 : ∀ {b : Addr} {o : Obj}, X.s_0.heap.get? b = some o → b ≠ a := by
    intro b o e
    obtain ⟨o', e'⟩ := J.base.there b o e (by rw [hx]; exact fun z => nomatch z)
    exact ne e'
  have bs : Un X.fs X.ex X.H_0 (upd H a (keptX cls d a)) X.s_0.heap s.heap := {
    keep := I.base.keep
    slot := I.base.slot
    there := I.base.there
    free := by
      intro b o e n q
      rw [upd_ne (n0 e)]
      exact I.base.free b o e n q
    tups := by
      intro b xs e
      have z := I.base.tups b xs e
      rw [upd_ne (ne_of_none z na)]
      exact z
    frzs := by
      intro b o u e
      have z := I.base.frzs b o u e
      rw [upd_ne (ne_of_none z na)]
      exact z
    tbls := by
      intro b ps e
      obtain ⟨m, z⟩ := I.base.tbls b ps e
      exact ⟨m, by rw [upd_ne (ne_of_none z na)]; exact z⟩ }
  have fr : X.env.locals ≠ a := by
    obtain ⟨m, ⟨o, es, ep, ho, _⟩, _⟩ := J.loc
    exact ne ho
  refine ⟨I.ok, I.os, I.bare, bs, I.loc, I.cell, ?_, ?_, ?_, ?_, I.len⟩
  · rw [upd_ne fr]
    exact I.free
  · intro x c e
    obtain ⟨v, o, ho, _⟩ := J.cell x c e
    rw [upd_ne (ne ho)]
    exact I.freeC x c e
  · intro p hp
    obtain ⟨e, n, r⟩ := I.pin p hp
    refine ⟨e, ?_, r⟩
    rw [upd_ne (ne (J.pin p hp).1)]
    exact n
  · intro b o e
    by_cases hb : b = a
    · subst hb
      rw [upd_same] at e
      cases e
      exact keptX_ok ha hz hd
    · rw [upd_ne hb] at e
      refine (I.hok b o e).stay (fun c v _ q => q) (fun c q => ?_) (fun c xs q => ?_)
      · rw [upd_ne (ne_of_none q na)]
        exact q
      · rw [upd_ne (ne_of_none q na)]
        exact q
/-- into the clause's suite, no object pinned -/
theorem inv_into (I : Inv X pins σ H s) (a : Addr) : Inv (X.suite a (X.pn ++ pins)) [] σ H s where
  ok := I.ok.suite a _
  os := I.os
  bare := I.bare
  base := I.base
  loc := I.loc
  cell := I.cell
  free := I.free
  freeC := I.freeC
  pin := by
    intro p hp
    rw [List.append_nil] at hp
    exact I.pin p hp
  hok := I.hok
  len := I.len
/-- and out of it -/
theorem inv_outof {a : Addr} {pn : List (Addr × Obj)} (I : Inv (X.suite a (X.pn ++ pins)) pn σ H s) (ok : X.Ok) : Inv X pins σ H s where
  ok := ok
  os := I.os
  bare := I.bare
  base := I.base
  loc := I.loc
  cell := I.cell
  free := I.free
  freeC := I.freeC
  pin := fun p hp => I.pin p (List.mem_append_left _ hp)
  hok := I.hok
  len := I.len
end
/-- what the clause leaves: its own name is gone -/
def goneE (i : Nat) (D : Ends) : Ends where
  nx := fun σ H => D.nx (σ.set i none) H
  rt := D.rt
  bk := fun σ H => D.bk (σ.set i none) H
  ct := fun σ H => D.ct (σ.set i none) H
/-- what the clause wishes of the body's exceptions: each is caught, and stays -/
def wKeep (K : PySem.W.Frag) (c : Value) (i : Nat) (ts : Addr → Value → Option Addr → TS) (D : Ends) : WX := fun cls d σ H =>
  PySem.W.exmOne K cls c = some true ∧ ∀ a, H a = none → ts a cls d (goneE i D) (σ.set i (some (.ref a))) (upd H a (keptX cls d a))
section
variable {X : Cx} {x n : Str} {c : Value} {i : Nat} {body suite : List Stmt} {b₀ : Stmt} {np pos pos' : Pos} {tb : WX → TS} {ts : Addr → Value → Option Addr → TS}
theorem ps_try_keep (hs : X.stack = X.env :: X.outer) (hf : X.env.frame = some X.env.locals) (hex : X.ex = []) (hN : X.N.Nodup) (hi : X.N[i]? = some n) (hln : X.env.kindOf n = some .local) (hc : Names X x c)
    (hb : ∀ (W : WX) (pn : List (Addr × Obj)) (xe : Value → Shared → Prop), Takes (X.tr pn xe) W → PassesOwn (model X.prog X.w) X.A X.env xe → PSs (X.tr pn xe) body (tb W))
    (hsu : ∀ (a : Addr) (cls : Value) (d : Option Addr) (pn : List (Addr × Obj)), PSs (X.suite a pn) (b₀ :: suite) (ts a cls d)) :
    PS X (.Try body [.ExceptHandler (some (.Name x np)) (some n) (b₀ :: suite) pos'] [] [] pos) (fun D σ H => tb (wKeep X.K c i ts D) D σ H) := by
  constructor
  intro pins s σ H D I h
  have ok := I.ok
  have fr0 : X.A.frames = some (X.env :: X.outer) := by
    rw [ok.frames, hs]
  refine wpAny_Try_except ?_
  let xe' : Value → Shared → Prop := fun e s₁ => wpAny (model X.prog X.w) X.A (noteFrame e X.env) (fun _ s₂ => wpAny (model X.prog X.w) X.A (setFlight e none) (fun _ s₃ =>
    wpAny (model X.prog X.w) X.A (handleBy e X.env [.ExceptHandler (some (.Name x np)) (some n) (b₀ :: suite) pos']) (SP X pins D) X.xe s₃) X.xe s₂) X.xe s₁
  have catches : Takes (X.tr (X.pn ++ pins) xe') (wKeep X.K c i ts D) := by
    rintro u s' ⟨a, B, sI, pins', σ', H', cls, d, rfl, J', nb, up, sky, na, os, ag, hm, hyes⟩
    have J : Inv X pins σ' H' sI := J'.ofTry ok
    rw [show (X.tr (X.pn ++ pins) xe').stack = X.env :: X.outer from hs] at sky
    show wpAny (model X.prog X.w) X.A (noteFrame (.ref a) X.env) _ _ _
    refine Sky.land Zc.steady fr0 hf sky ?_
    intro h3 fl3 up3
    have J3 : Inv X pins σ' H' { s' with heap := h3 } := J.landed nb fl3.1 (up.trans up3) os ag
    refine wpAny_handleBy_cons (codeAny_handlers_test ?_) (fun q => nomatch q)
    -- the class is looked up and held against
    have look : PySem.W.Looks (model X.prog X.w) h3 (typeOf (.ref a)) cls := by
      obtain ⟨o3, v3, e3, z3, d3⟩ := fl3.there
      intro A Q E s k q
      refine wpAny_typeOf_ref (k _ _ e3) ?_
      rw [z3.1]
      exact q
    have hit := PySem.W.exm_one (M := model X.prog X.w) J3.kIn look hm
    have named : ∀ {Q : Value → Shared → Prop} {E : Value → Shared → Prop}, Q c { s' with heap := h3 } → wpAny (model X.prog X.w) (X.A.mark (some (.ref a))) (eval (.Name x np) X.env) Q E { s' with heap := h3 } := by
      intro Q E q
      have S3 := inv_into J3 a
      obtain ⟨hg, hdb, hv⟩ := hc
      rcases hv with hv | ⟨hv, hw, hn⟩
      · exact ld_glob (X := X.suite a (X.pn ++ pins)) S3 hg hv q hdb
      · exact ld_blt (X := X.suite a (X.pn ++ pins)) S3 hg hv hw q hn hdb
    refine named (hit.here (codeAny_handlers_suite_as (HandSPX.lands_againZ fl3 ?_)))
    intro h4 fl4 up4
    have J4 : Inv X pins σ' H' { s' with heap := h4 } := J.landed nb fl4.1 ((up.trans up3).trans up4) os ag
    obtain ⟨o4, v4, e4, z4, d4⟩ := fl4.there
    have ge : sI.heap.get? a = none := by
      cases q : sI.heap.get? a with
      | none => rfl
      | some o =>
        exfalso
        by_cases hm' : a ∈ frs (X.env :: X.outer)
        · obtain ⟨_, o', q', nf⟩ := fl4.2.2.1.mem hm'
          rw [e4] at q'
          cases q'
          exact nf _ d4
        · have z := nb a o q (by rw [show (X.tr (X.pn ++ pins) xe').stack = X.env :: X.outer from hs]; exact hm')
          rw [fl4.2.1] at z
          cases z
    have S4 := inv_into (inv_keep J ge J4 hex e4 z4 d4 na) a
    refine store_ok (X := X.suite a (X.pn ++ pins)) (v := .ref a) S4 hN hi (.inl hln) rfl ?_ (.inr hln)
    intro s5 S5
    refine wpAny_mono ((hsu a cls d (X.pn ++ pins)).run [] s5 _ _ (goneE i D) S5 (hyes a na)) ?_ (fun _ _ z => False.elim z)
    intro f s6 sp
    have out : ∀ {σ6 : L2.St} {H6 : Hp} {Q : Shared → Prop}, Inv (X.suite a (X.pn ++ pins)) [] σ6 H6 s6 → (∀ s7, Inv X pins (σ6.set i none) H6 s7 → Q s7) →
        wpAny (model X.prog X.w) X.A (do bindName X.env n .none; unbindBehindTheSuite X.env n pos') (fun _ s7 => Q s7) X.xe s6 := by
      intro σ6 H6 Q S6 hq
      exact gone_ok (inv_outof S6 ok) hN hi hln hq
    match f, sp with
    | .next, ⟨_, _, S6, q⟩ => exact out S6 fun s7 J7 => ⟨_, _, J7, q⟩
    | .brk, ⟨_, _, S6, q⟩ => exact out S6 fun s7 J7 => ⟨_, _, J7, q⟩
    | .cont, ⟨_, _, S6, q⟩ => exact out S6 fun s7 J7 => ⟨_, _, J7, q⟩
    | .ret u, ⟨_, _, _, S6, r, q⟩ => exact out S6 fun s7 J7 => ⟨_, _, _, J7, r, q⟩
  refine wpAny_mono ((hb (wKeep X.K c i ts D) (X.pn ++ pins) xe' catches PassesOwn.looking).run [] s σ H D (I.toTry _) h) ?_ (fun _ _ z => z)
  intro f s1 sp
  match f, sp with
  | .next, ⟨σ', H', J, q⟩ => exact wpAny_execs_nil ⟨σ', H', J.ofTry ok, q⟩
  | .brk, ⟨σ', H', J, q⟩ => exact ⟨σ', H', J.ofTry ok, q⟩
  | .cont, ⟨σ', H', J, q⟩ => exact ⟨σ', H', J.ofTry ok, q⟩
  | .ret u, ⟨v, σ', H', J, r, q⟩ => exact ⟨v, σ', H', J.ofTry ok, r, q⟩
end
/-! ### own exceptions under a class that is made by another's __new__ (KeyError, by LookupError's) -/
section
open Builtin Builtin.ObjectAttr
variable {prog : Program} {w : World} {M : Model} {A : Around} {E : Value → Shared → Prop} {R : Result → Shared → Prop} {h : Heap} {g : Array GenState} {d : Drawn} {t : Nat} {os : OsState}
variable {nm q : Str} {C N : Addr} {bs bm bmB : List Value} {hdct : Bool} {sn : List Str} {sub : List Value} {ab : Bool} {col : Option Bool} {dd : Option Addr} {k0 k1 k2 k3 k5 : Option Value} {B newId initId : String}
/-- what is asked of the classes above -/
structure Above (B : String) (bm : List Value) : Prop where
  is : bm.contains (.type B) = true
  noA : bm.contains (.type "AttributeError") = false
  noN : bm.contains (.type "NameError") = false
theorem mk_check (F : ExcBaseFacts B newId initId bmB) (T : Above B bm) {rest : List Value} {Q : Unit → Shared → Prop}
    (hC : h.get? C = some (excClassObj nm q C N bs bm hdct sn sub ab col dd k0 k1 k2 k3 k5 newId)) (hq : Q () ⟨h, g, d, t, os⟩) : wpAny M A (checkBuiltinCall newId ⟨.ref C :: rest, []⟩) Q E ⟨h, g, d, t, os⟩ := by
  have c1 : (Value.ref C :: bm).contains (.type B) = true := by
    rw [List.contains_cons, T.is, Bool.or_true]
  have c2 := F.noStar
  simp only [F.newKind, F.newSplit, F.newRow, checkBuiltinCall]
  repeat (first
    | refine wpAny_loadPart_at hC ?_
    | (refine wpAny_isSubtype_exc hC ?_; rw [c1])
    | refine wpAny_staticBase_exc hC ?_
    | refine wpAny_madeBy_exc hC ?_
    | simp only [bne_self_eq_false, Bool.false_eq_true, if_false]
    | wp_step)
  exact hq
theorem mk_new (F : ExcBaseFacts B newId initId bmB) (T : Above B bm) {rest : List Value}
    (hC : h.get? C = some (excClassObj nm q C N bs bm hdct sn sub ab col dd k0 k1 k2 k3 k5 newId)) (hz : rest.length ≤ sizeLine)
    (hq : R (.ok (.ret (.ref (h.objs.size + 1)))) ⟨(h.push (PySem.W.kdv_tup rest)).push (PySem.HandSPX.excO C h.objs.size), g, d, t, os⟩) :
    codeAny (model prog w) A (.builtin newId ⟨.ref C :: rest, []⟩) R ⟨h, g, d, t, os⟩ := by
  have ends := F.ends
  have c1 : (Value.ref C :: bm).contains (.type B) = true := by
    rw [List.contains_cons, T.is, Bool.or_true]
  have c2 : (Value.ref C :: bm).contains (.type "AttributeError") = false := by
    rw [List.contains_cons, T.noA]
    rfl
  have c3 : (Value.ref C :: bm).contains (.type "NameError") = false := by
    rw [List.contains_cons, T.noN]
    rfl
  refine PySem.codeAny_builtinAt F.entry ?_
  unfold Builtin.«BaseException.__new__»
  refine PySem.wpAt_bind ?_
  show PySem.wpAt _ _ _ (stack >>= _) _ _ _
  refine PySem.wpAt_bind (PySem.wpAt_stack ?_)
  intro p below
  refine PySem.wpAt_of_wpAny ?_
  wp_walk
  refine PySem.wpAt_of_wpAny ?_
  rw [F.owner]
  repeat (first
    | with_reducible refine wpAny_madeHere_exc F.canon hC ?_
    | with_reducible refine wpAny_loadPart_at hC ?_
    | (with_reducible refine wpAny_isSubtype_exc hC ?_; first | rw [c1] | rw [c2] | rw [c3])
    | wp_step)
  show R _ _
  rw [Heap.size_push]
  exact hq
theorem mk_type (F : ExcBaseFacts B newId initId bmB) (T : Above B bm) {rest : List Value} {fI : Addr} {Q : Fin → Shared → Prop}
    (hC : h.get? C = some (excClassObj nm q C N bs bm hdct sn sub ab col dd k0 k1 k2 k3 k5 newId)) (hi : PySem.W.Looks (model prog w) h (typeLookup (.ref C) "__init__") (some (.ref fI)))
    (hb : ∀ self, PySem.W.Looks (model prog w) h (bindSpecial (.ref fI) self) (.ref fI, [self])) (hz : rest.length ≤ sizeLine)
    (hq : codeAny (model prog w) A (.call (.ref fI) ⟨.ref (h.objs.size + 1) :: rest, []⟩) (fun r s' => match r with | .ok (.ret v) => v = .none ∧ Q (.done (.ret (.ref (h.objs.size + 1)))) s' | .ok _ => False | .error e => E e s')
      ⟨(h.push (PySem.W.kdv_tup rest)).push (PySem.HandSPX.excO C h.objs.size), g, d, t, os⟩) :
    wpAny (model prog w) A (Builtin.«type.__call__» ⟨.ref C :: rest, []⟩) Q E ⟨h, g, d, t, os⟩ := by
  have k : ∀ b o, h.get? b = some o → ((h.push (PySem.W.kdv_tup rest)).push (PySem.HandSPX.excO C h.objs.size)).get? b = some o := by
    intro b o e
    exact Heap.get?_push_of_some _ (Heap.get?_push_of_some _ e)
  have hC1 := k _ _ hC
  have got : ((h.push (PySem.W.kdv_tup rest)).push (PySem.HandSPX.excO C h.objs.size)).get? (h.objs.size + 1) = some (PySem.HandSPX.excO C h.objs.size) := by heap_get
  have self : (Value.ref C :: bm).contains (.ref C) = true := by simp
  repeat (first
    | with_reducible refine wpAny_loadPart_at hC ?_
    | with_reducible refine wpAny_madeBy_exc hC ?_
    | wp_step)
  refine codeAny_call_builtin_code (Code.quiet_builtin _ F.quiet) (mk_check F T hC (mk_new F T hC hz ?_))
  show wpAny _ _ _ _ _ _
  have look := hi.keeps k
  have bind := (hb (.ref (h.objs.size + 1))).keeps k
  unfold isInstance
  repeat (first
    | with_reducible refine wpAny_loadPart_at got ?_
    | (with_reducible refine wpAny_isSubtype_exc hC1 ?_; rw [self])
    | wp_step)
  show wpAny _ _ (typeLookup (.ref C) _) _ _ _
  refine look.at (wpAny_holding (wpAny_bind (bind.at (wpAny_bind (wpAny_call (codeAny_mono hq ?_))))))
  intro r s' z
  match r, z with
  | .error e, z => exact z
  | .ok (.ret v), ⟨e, z⟩ =>
    subst e
    first
      | exact wpAny_pure (wpAny_pure z)
      | (wp_walk; exact z)
theorem mk_call (F : ExcBaseFacts B newId initId bmB) (T : Above B bm) {rest : List Value} {fI : Addr}
    (hC : h.get? C = some (excClassObj nm q C N bs bm hdct sn sub ab col dd k0 k1 k2 k3 k5 newId)) (hi : PySem.W.Looks (model prog w) h (typeLookup (.ref C) "__init__") (some (.ref fI)))
    (hb : ∀ self, PySem.W.Looks (model prog w) h (bindSpecial (.ref fI) self) (.ref fI, [self])) (hz : rest.length ≤ sizeLine)
    (hq : codeAny (model prog w) (A.under (.builtin "type.__call__" ⟨.ref C :: rest, []⟩)) (.call (.ref fI) ⟨.ref (h.objs.size + 1) :: rest, []⟩) (PySem.W.InitBack (h.objs.size + 1) R)
      ⟨(h.push (PySem.W.kdv_tup rest)).push (PySem.HandSPX.excO C h.objs.size), g, d, t, os⟩) : codeAny (model prog w) A (.call (.ref C) ⟨rest, []⟩) R ⟨h, g, d, t, os⟩ := by
  have l1 := tc_lookup
  have l2 := tc_bind (.ref C)
  have ty : (⟨h, g, d, t, os⟩ : Shared).TypeIs (.ref C) "type" := ⟨_, hC, rfl⟩
  refine codeAny_of_tree ?_
  show wpAny _ _ (callAny (.ref C) _) _ _ _
  repeat (any_goals (first
    | assumption
    | with_reducible refine wpAny_loadPart_at hC ?_
    | wp_step))
  refine ⟨rfl, codeAny_call_builtin_at (Code.quiet_builtin _ (by decide +kernel)) entry_typeCall (wpAny_check_type_call_sub hC (mk_type F T hC hi hb hz (codeAny_mono hq ?_)))⟩
  intro r s' z
  rcases r with e | (v | _ | _ | _) <;> exact z
end
/-! ### own exceptions over any built-in class, with fields -/
section
open Builtin Builtin.ObjectAttr
/-- what the written part says of such a class -/
structure OexB (K : PySem.W.Frag) (C : Addr) : Prop where
  made : ∃ (B newId initId : String) (bmB bm : List Value) (nm q : Str) (N : Addr) (bs : List Value) (hdct : Bool) (sn : List Str) (sub : List Value) (ab : Bool) (col : Option Bool) (dd : Option Addr) (k0 k1 k2 k3 k5 : Option Value),
    PySem.ExcBaseFacts B newId initId bmB ∧ Above B bm ∧ K.lookup C = some (excClassObj nm q C N bs bm hdct sn sub ab col dd k0 k1 k2 k3 k5 newId)
  st : ∃ (T : String) (bmT : List Value), PySem.StoreFacts T bmT "object.__setattr__" "object" ∧ PySem.W.excOver K C bmT = true
  hd : PySem.W.hasDictIn K C = true
  sa : PySem.W.findIn K (.ref C) "__setattr__" = some (some (.builtin "object.__setattr__"))
  exC : PySem.W.subIn K (.ref C) (.type "BaseException") = some true
  tyC : PySem.W.typeIn K (.ref C) = some (.type "type")
  kC : PySem.W.keepIn K (.ref C) = true
theorem OexB.cd {K : PySem.W.Frag} {C : Addr} (T : OexB K C) : ∃ cd, PySem.W.clsIn K C = some cd ∧ cd.hasDict = true := PySem.W.any_some T.hd
theorem taker_none {K : PySem.W.Frag} {C : Addr} {f : Str} (h : PySem.W.findIn K (.ref C) f = some none) : PySem.W.takerIn K C f = some none := by
  unfold PySem.W.takerIn
  rw [h]
  rfl
variable {prog : Program} {w : World} {A : Around} {R : Result → Shared → Prop} {hp : Heap} {g : Array GenState} {d : Drawn} {t : Nat} {os : OsState} {K : PySem.W.Frag} {name : Str} {tk : Tok} {v : Value} {x C : Addr} {fv : Array Value}
theorem sa_first (T : OexB K C) (X : K.In hp) (hx : hp.get? x = some { cls := .ref C, data := .fields fv }) (ha : PySem.W.findIn K (.ref C) name = some none)
    (hq : ∀ h' tk' dx, (∀ b o, b ≠ x → hp.get? b = some o → h'.get? b = some o) → hp.objs.size ≤ dx → dx ≠ x → h'.get? x = some { cls := .ref C, dict := some dx, data := .fields fv } → h'.Ns1 dx (fun y => if y = name then some v else none) → R (.ok (.ret .none)) ⟨h', g, d, tk', os⟩) :
    codeAny (model prog w) A (.call (.builtin "object.__setattr__") ⟨[.ref x, .str name tk, v], []⟩) R ⟨hp, g, d, t, os⟩ := by
  obtain ⟨TT, bmT, SF, ov⟩ := T.st
  obtain ⟨cd, hcd, hdd⟩ := T.cd
  have I : PySem.W.InstAt hp x { cls := .ref C, data := .fields fv } C none := ⟨hx, rfl, rfl, trivial⟩
  have hxs : x ≠ hp.objs.size := Nat.ne_of_lt (Heap.lt_size hx)
  refine PySem.W.osa_openX SF X I ov (taker_none ha) (fun b => ?_)
  have lc : PySem.W.Looks (model prog w) hp (classData C) cd := PySem.W.looks_clsIn X hcd
  obtain ⟨z1, z2, z3, z4, z5, z6, z7, z8, z9, z10, z11⟩ := cd
  dsimp only at hdd
  subst hdd
  show wpAny _ _ (storeInOwnDict (.ref x) (.ref C) (.str name tk) name v b) _ _ _
  unfold storeInOwnDict ownDictForStores
  cases b <;>
  · repeat (first | with_reducible refine PySem.HandSPX.store_in_new ?_ ?_ | with_reducible refine wpAny_loadPart_at hx ?_ | with_reducible refine lc.at ?_ | wp_step)
    · exact ⟨_, #[], _, (Heap.get?_update_ne _ _ _ _ hxs.symm).trans (Heap.get?_push_at rfl rfl), rfl, fun e he => absurd he (by simp), fun _ => rfl⟩
    · intro h' tk' hn' hs
      have hx1 : (hp.push { cls := .type "dict", data := .dict #[] }).get? x = some { cls := .ref C, data := .fields fv } := Heap.get?_push_of_some _ hx
      refine hq h' tk' hp.objs.size ?_ (Nat.le_refl _) hxs.symm ?_ hn'
      · intro b o hb ho
        have e1 := hs.2 b (Nat.ne_of_lt (Heap.lt_size ho))
        rw [e1, Heap.get?_update_ne _ _ _ _ hb]
        exact Heap.get?_push_of_some _ ho
      · rw [hs.2 x hxs]
        exact Heap.get?_update_self _ hx1 rfl
theorem sa_further {dx : Addr} {m0 : Str → Option Value} {nl : List Str} (T : OexB K C) (X : K.In hp) (hx : hp.get? x = some { cls := .ref C, dict := some dx, data := .fields fv }) (hns : hp.Ns1 dx m0) (hw : Within m0 nl) (hz : nl.length ≤ 1000) (ha : PySem.W.findIn K (.ref C) name = some none)
    (hq : ∀ h' tk', (∀ b o, b ≠ dx → hp.get? b = some o → h'.get? b = some o) → h'.Ns1 dx (fun y => if y = name then some v else m0 y) → R (.ok (.ret .none)) ⟨h', g, d, tk', os⟩) :
    codeAny (model prog w) A (.call (.builtin "object.__setattr__") ⟨[.ref x, .str name tk, v], []⟩) R ⟨hp, g, d, t, os⟩ := by
  obtain ⟨TT, bmT, SF, ov⟩ := T.st
  obtain ⟨cd, hcd, hdd⟩ := T.cd
  obtain ⟨oD, _, _, hoD, _, _⟩ := hns.count hw
  have I : PySem.W.InstAt hp x { cls := .ref C, dict := some dx, data := .fields fv } C (some oD) := ⟨hx, rfl, rfl, hoD⟩
  refine PySem.W.osa_openX SF X I ov (taker_none ha) (fun b => ?_)
  have lc : PySem.W.Looks (model prog w) hp (classData C) cd := PySem.W.looks_clsIn X hcd
  obtain ⟨z1, z2, z3, z4, z5, z6, z7, z8, z9, z10, z11⟩ := cd
  dsimp only at hdd
  subst hdd
  show wpAny _ _ (storeInOwnDict (.ref x) (.ref C) (.str name tk) name v b) _ _ _
  unfold storeInOwnDict ownDictForStores
  cases b <;>
  · repeat (first | with_reducible refine PySem.OEX.store_in_old hns hw hz ?_ | with_reducible refine wpAny_loadPart_at hx ?_ | with_reducible refine lc.at ?_ | wp_step)
    intro h' tk' hn' hs
    exact hq h' tk' (fun b o hb ho => (hs.2 b hb).trans ho) hn'
end
section
variable {X : Cx} {pins : List (Addr × Obj)} {σ : L2.St} {H : Hp} {s : Shared} {a C dx : Addr} {f : Str} {y : V} {u : Value} {fs : List (Str × V)} {Q : Unit → Shared → Prop} {E : Value → Shared → Prop} {A : Around}
theorem put_first (T : OexB X.K C) (I : Inv X pins σ H s) (e : H a = some (exo a C none)) (hno : PySem.W.findIn X.K (.ref C) f = some none) (ry : RelV y u)
    (h : ∀ dx s', H dx = none → dx ≠ a → Inv X pins σ (upd (upd H dx (exd dx [(f, y)])) a (exo a C (some dx))) s' → Q () s') : wpAny (model X.prog X.w) A (setAttr (.ref a) f u) Q E s := by
  obtain ⟨t1, ho⟩ := exo_at I.hok e
  obtain ⟨hp, g, d, t, os⟩ := s
  refine PySem.W.set_plain I.kIn (od := none) ⟨ho, rfl, rfl, trivial⟩ T.sa (sa_first T I.kIn ho hno ?_)
  intro h' tk' dx k big ne hx hn
  have fresh : H dx = none := I.hok.fresh big
  have notd : ∀ {b : Addr} {o : Obj}, hp.get? b = some o → b ≠ dx := by
    intro b o q
    exact Nat.ne_of_lt (Nat.lt_of_lt_of_le (Heap.lt_size q) big)
  have nota : ∀ {b : Addr}, H b = none → b ≠ a := by
    intro b n z
    rw [z, e] at n
    cases n
  have step : Un X.fs [] H (upd (upd H dx (exd dx [(f, y)])) a (exo a C (some dx))) hp h' := by
    constructor
    case keep => exact fun b o q n _ _ => k b o (nota n) q
    case slot => exact fun b o q n _ _ => ⟨o.slots, k b o (nota n) q⟩
    case free =>
      intro b o q n _
      rw [upd_ne (nota n), upd_ne (notd q)]
      exact n
    case there =>
      intro b o q _
      by_cases hb : b = a
      · subst hb
        exact ⟨_, hx⟩
      · exact ⟨o, k b o hb q⟩
    case tups =>
      intro b xs q
      rw [upd_ne (at_ne e q exo_tup), upd_ne (ne_of_none q fresh)]
      exact q
    case frzs =>
      intro b o v q
      rw [upd_ne (at_ne e q exo_frz), upd_ne (ne_of_none q fresh)]
      exact q
    case tbls =>
      intro b ps q
      refine ⟨#[], ?_⟩
      rw [upd_ne (at_ne e q exo_tbl), upd_ne (ne_of_none q fresh), q]
      simp
  refine h dx _ fresh ne (I.un (t' := tk') step ?_)
  intro b o q
  by_cases hb : b = a
  · subst hb
    rw [upd_same] at q
    cases q
    exact exo_ok hx
  rw [upd_ne hb] at q
  by_cases hd : b = dx
  · subst hd
    rw [upd_same] at q
    cases q
    exact exd_ok hn (relO_put (fs := []) ry fun _ => True.intro)
  rw [upd_ne hd] at q
  refine (I.hok b o q).stay (fun c v hc z => k c v ?_ z) (fun c hc => ?_) (fun c xs hc => ?_)
  · rcases hc with rfl | hc
    · exact hb
    · exact at_ne e hc exo_own
  · rw [upd_ne (at_ne e hc exo_own), upd_ne (ne_of_none hc fresh)]
    exact hc
  · rw [upd_ne (at_ne e hc exo_tup), upd_ne (ne_of_none hc fresh)]
    exact hc
theorem put_further (T : OexB X.K C) (I : Inv X pins σ H s) (e : H a = some (exo a C (some dx))) (ed : H dx = some (exd dx fs)) (hl : fs.length ≤ 900) (hno : PySem.W.findIn X.K (.ref C) f = some none) (ry : RelV y u)
    (h : ∀ s', Inv X pins σ (upd H dx (exd dx ((f, y) :: fs))) s' → Q () s') : wpAny (model X.prog X.w) A (setAttr (.ref a) f u) Q E s := by
  obtain ⟨t1, ho⟩ := exo_at I.hok e
  obtain ⟨mA, hns, rel⟩ := exd_at I.hok ed
  have hw := within_of rel
  obtain ⟨hp, g, d, t, os⟩ := s
  obtain ⟨oD, _, _, hoD, _, _⟩ := hns.count hw
  refine PySem.W.set_plain I.kIn (od := some oD) ⟨ho, rfl, rfl, hoD⟩ T.sa (sa_further T I.kIn ho hns hw ?_ hno ?_)
  · rw [List.length_map]
    omega
  · intro h' tk' k hn
    have there : ∃ o, h'.get? dx = some o := by
      obtain ⟨o, _, _, e', _⟩ := hn
      exact ⟨o, e'⟩
    refine h _ (I.write (t' := tk') (x := dx) (e := dx) (o := exd dx ((f, y) :: fs)) ?_ (.inl rfl) k there (exd_ok hn (relO_put ry rel)))
    rw [ed]
    exact True.intro
end
/-- self.f = y in the __init__ of an exception -/
def tPut (K : PySem.W.Frag) (f : Str) (to te : TE) : TS := fun D σ H => te σ H fun y H1 => to σ H1 fun x H2 => ∃ a C : Addr, x = .ref a ∧ OexB K C ∧ PySem.W.findIn K (.ref C) f = some none ∧
  ((H2 a = some (exo a C none) ∧ ∀ dx, H2 dx = none → dx ≠ a → D.nx σ (upd (upd H2 dx (exd dx [(f, y)])) a (exo a C (some dx)))) ∨
    ∃ (dx : Addr) (fs : List (Str × V)), H2 a = some (exo a C (some dx)) ∧ H2 dx = some (exd dx fs) ∧ fs.length ≤ 900 ∧ D.nx σ (upd H2 dx (exd dx ((f, y) :: fs))))
section
variable {X : Cx} {o e : Expr} {es : List Expr} {to te : TE} {ta : TA} {f : Str} {p p' pos : Pos}
theorem ps_put (ho : PE X o to) (he : PE X e te) (hs : swapsWith e (some (.Attribute o f p')) pos.line X.env = pure false := by rfl) : PS X (.Assign [.Attribute o f p'] e pos) (tPut X.K f to te) := by
  constructor
  intro pins s σ H D I h
  refine plainObj_wpAny_Assign_Attribute (thn (he.run pins s σ H _ I h) ?_) hs
  rintro v s1 ⟨y, H1, I1, r1, q1⟩
  refine thn (ho.run pins s1 σ H1 _ I1 q1) ?_
  rintro u s2 ⟨x, H2, I2, r2, a, C, rfl, T, hno, q⟩
  obtain rfl : u = Value.ref a := r2
  rcases q with ⟨ea, q⟩ | ⟨dx, fs, ea, ed, hl, q⟩
  · exact put_first T I2 ea hno r1 fun dx s' n ne J => ⟨σ, _, J, q dx n ne⟩
  · exact put_further T I2 ea ed hl hno r1 fun s' J => ⟨σ, _, J, q⟩
/-- C(e, ..) of such a class, to be raised -/
theorem pmk_oexB {CX : CXT} {x : Str} {C fI : Addr} {k : Nat} {fd : FuncData} {ps : List Str} {sp : Sp} (T : OexB X.K C) (iC : PySem.W.findIn X.K (.ref C) "__init__" = some (some (.ref fI))) (tI : PySem.W.typeIn X.K (.ref fI) = some (.type "function"))
    (G : FnOk X.prog X.w X.K X.mg X.base CX k fI fd ps sp) (hr : Room (k + 1) X.A) (hb : Binds X.K fd ps []) (hx : Passes CX X (fun _ _ _ => False)) (hg : Gl X x) (hm : X.mg x = some (.ref C)) (ha : PA X (e :: es) ta)
    (hdb : (x == ("__debug__" : Str)) = false := by decide) (he : starEach (e :: es) X.env = (false, eval e X.env) :: starEach es X.env := by rfl) (hpl : (backTo pos (starEach es X.env)).any (·.1) = false := by rfl) :
    PMk X (.Call (.Name x p) (e :: es) [] pos) (tMkO C sp [] ta) := by
  intro pins s σ H Q I h
  obtain ⟨B, newId, initId, bmB, bm, nm, qn, N, bs, hdct, sn, sub, ab, col, dd, k0, k1, k2, k3, k5, FB, hT, hC0⟩ := T.made
  refine wpAny_Call_Name_kw (ld_glob I hg hm ?_ hdb)
  refine PySem.W.callWith_K (h₀ := X.base) I.ok.mod.kin T.kC (thn (ha.run pos pins s σ H _ I h) ?_) he hpl
  rintro us s1 ⟨vs, H1, I1, r1, hz, q1⟩
  refine ⟨I1.kIn, ?_⟩
  show wpAny _ _ (call (.ref C) us) _ _ _
  obtain ⟨hp, g, dr, tk, os⟩ := s1
  have hC := I1.kIn _ _ hC0
  let A1 := hp.objs.size + 1
  let hp2 := (hp.push (PySem.W.kdv_tup us)).push (PySem.HandSPX.excO C hp.objs.size)
  have big : hp.objs.size ≤ A1 := Nat.le_succ _
  have q2 := q1 A1 (I1.hok.fresh big)
  have kk : ∀ b o, hp.get? b = some o → hp2.get? b = some o := fun b o e => Heap.get?_push_of_some _ (Heap.get?_push_of_some _ e)
  have got : hp2.get? A1 = some (PySem.HandSPX.excO C hp.objs.size) := by
    show ((hp.push (PySem.W.kdv_tup us)).push (PySem.HandSPX.excO C hp.objs.size)).get? (hp.objs.size + 1) = _
    heap_get
  have I2 : Inv X pins σ (upd H1 A1 (exo A1 C none)) ⟨hp2, g, dr, tk, os⟩ := I1.laid (t' := tk) (a := A1) (o := exo A1 C none) (h' := hp2) kk big (exo_ok got)
  have r2 : Vals (V.ref A1 :: (vs ++ [])) (Value.ref A1 :: us) := by
    rw [List.append_nil]
    exact .cons rfl r1
  have hlen : (Value.ref A1 :: us).length = ps.length := by
    rw [← r2.length]
    exact G.len _ _ _ _ q2
  have hus : us.length ≤ sizeLine := by
    rw [← Paired.length r1, sizeLine_eq]
    omega
  have bd := hb ⟨hp2, g, dr, tk, os⟩ (Value.ref A1 :: us) I2.kIn (by rw [List.append_nil]; exact hlen)
  rw [List.append_nil] at bd
  refine wpAny_call (mk_call FB hT hC (PySem.W.looks_findIn I1.kIn iC) (fun self => PySem.W.bind_fn I1.kIn self tI) hus ?_)
  refine codeAny_mono (G.run _ X.stack _ _ ⟨Value.ref A1 :: us, []⟩ (Value.ref A1 :: us) _ _ (fun _ _ _ => False) (hr.make C us []) (I2.env0.make C us []) bd r2 q2) ?_
  intro r s' hq'
  match r, hq' with
  | .error er, hq' => exact hx pins σ _ _ er s' I2 hq'
  | .ok (.ret u), ⟨v, H2, os2, bare2, un2, hok2, rv, ev, d, fs, ea, ed, hd1, q3⟩ =>
    subst ev
    obtain ⟨h2, g2, d2, t2, os'⟩ := s'
    exact ⟨rv, mk_end (raises_own T.exC T.tyC) I1 big kk un2 hok2 os2 bare2 ea ed hd1 q3⟩
end
/-! ### a kept exception, looked at -/
/-- at a stands a kept exception of the class C with these fields -/
def KeptE (H : Hp) (a C : Addr) (fs : List (Str × V)) : Prop := ∃ dd : Addr, H a = some (keptX (.ref C) (some dd) a) ∧ H dd = some (.xd fs)
theorem keptE_inst {X : Cx} {pins : List (Addr × Obj)} {σ : L2.St} {H : Hp} {s : Shared} {a C : Addr} {fs : List (Str × V)} (I : Inv X pins σ H s) (h : KeptE H a C fs) : ∃ (ox od : Obj), PySem.W.InstAt s.heap a ox C (some od) ∧
    ∀ f, ∃ u, RelO (fs.lookup f) u ∧ PySem.W.lookIn f od = some u := by
  obtain ⟨dd, ea, ed⟩ := h
  obtain ⟨oe, vs, ho, hz, hd⟩ := keptX_at I.hok ea
  have hx : ObjOk X.prog X.w H s.heap dd (.xd fs) := I.hok dd _ ed
  obtain ⟨mA, hns, hr⟩ := hx
  obtain ⟨od, h1, hl⟩ := lookIn_ns hns
  refine ⟨oe, od, ⟨ho, hz.1, ?_, ?_⟩, fun f => ⟨mA f, hr f, hl f⟩⟩
  · unfold PySem.W.notCls
    rw [hd] <;> rfl
  · rw [hz.2]
    exact h1
/-- e.f, e a kept exception -/
def tFldX (K : PySem.W.Frag) (f : Str) (te : TE) : TE := fun σ H Q => te σ H fun x H1 => ∃ (a C : Addr) (fs : List (Str × V)) (v : V), x = .ref a ∧ XfC K C ∧ PySem.W.findIn K (.ref C) f = some none ∧ KeptE H1 a C fs ∧ fs.lookup f = some v ∧ Q v H1
theorem pe_fldX {X : Cx} {e : Expr} {te : TE} {pos : Pos} {n : Str} (he : PE X e te) (hb : attributeBase e n X.env (eval e X.env) = eval e X.env := by rfl) : PE X (.Attribute e n pos) (tFldX X.K n te) := by
  constructor
  intro pins s σ H Q I h
  refine attr_of hb (thn (he.run pins s σ H _ I h) ?_)
  rintro u s1 ⟨x, H1, I1, rx, a, C, fs, v, rfl, T, hno, hk, l, q⟩
  obtain rfl : u = Value.ref a := rx
  obtain ⟨ox, od, J, look⟩ := keptE_inst I1 hk
  obtain ⟨m, r, hl⟩ := look n
  obtain ⟨u, hu, ru⟩ := RelO.some_of (v := v) (o := m) (by rw [← l]; exact r)
  exact HandSPX.exc_get I1.kIn J T.ga T.gg T.exC (PySem.W.findObj_own T.hdC hno rfl (by rw [hl, hu])) (handed_of ru) ⟨v, H1, I1.tok _, ru, q⟩
theorem keptE_kit {K : PySem.W.Frag} {a C : Addr} {od : Option Obj} {ox : Obj} (T : ExcC K C) : PySem.W.KitX K (.ref a) (.ref C) (fun h => PySem.W.InstAt h a ox C od) := by
  obtain ⟨cd, hc, _⟩ := PySem.W.any_some T.hd
  exact PySem.W.kitx_exc (by rw [hc]; rfl) T.hg T.hk T.hs T.ha T.hn T.ht T.hm
/-- isinstance(e, c) of a kept exception, or of what the layer knows already -/
def rIsO (K : PySem.W.Frag) : List V → Hp → VK → Prop := fun xs H Q => rIsi K xs H Q ∨ ∃ (a C : Addr) (fs : List (Str × V)) (c : V) (u : Value) (b : Bool), xs = [.ref a, c] ∧ KeptE H a C fs ∧ ExcC K C ∧ ClsV c u ∧ PySem.W.kitOne K (.ref C) u = some b ∧ Q (.bl b) H
theorem call_isO {X : Cx} : CallR X (.builtin "isinstance") (rIsO X.K) := by
  intro pins s σ H xs us Q I r h
  rcases h with h | ⟨a, C, fs, c, u, b, rfl, hk, T, k, e, q⟩
  · exact call_isi pins s σ H xs us Q I r h
  obtain ⟨u1, u2, rfl, r1, r2⟩ := vals2 r
  obtain rfl : u1 = Value.ref a := r1
  have e2 := k.eq r2
  subst e2
  obtain ⟨ox, od, J, _⟩ := keptE_inst I hk
  exact PySem.W.kia_one (keptE_kit T) I.kIn J e (fun z => nomatch z) fun tk => ⟨.bl b, H, I.tok tk, rfl, q⟩
/-- isinstance(e, (c1, c2, ..)) of a kept exception, or of what the layer knows already -/
def rIsOT (K : PySem.W.Frag) : List V → Hp → VK → Prop := fun xs H Q => rIsiT K xs H Q ∨ ∃ (a C : Addr) (fs : List (Str × V)) (tp : Addr) (cs : List V) (us : List Value) (b : Bool), xs = [.ref a, .ref tp] ∧ KeptE H a C fs ∧ ExcC K C ∧ H tp = some (.tup cs) ∧ Paired ClsV cs us ∧
  PySem.W.kitAny K (.ref C) us = some b ∧ Q (.bl b) H
theorem call_isOT {X : Cx} : CallR X (.builtin "isinstance") (rIsOT X.K) := by
  intro pins s σ H xs us Q I r h
  rcases h with h | ⟨a, C, fs, tp, cs, ws, b, rfl, hk, T, hT, k, e, q⟩
  · exact call_isiT pins s σ H xs us Q I r h
  obtain ⟨u1, u2, rfl, r1, r2⟩ := vals2 r
  obtain rfl : u1 = Value.ref a := r1
  obtain rfl : u2 = Value.ref tp := r2
  obtain ⟨ox, od, J, _⟩ := keptE_inst I hk
  have ht : ObjOk X.prog X.w H s.heap tp (.tup cs) := I.hok tp _ hT
  obtain ⟨_, its, rv, o, h1, h2, n, h3⟩ := ht
  have e3 := ClsV.all k rv
  subst e3
  obtain ⟨oc, od', dt, sl⟩ := o
  simp only at h2 h3
  subst h2 h3
  exact PySem.W.kia_tup (keptE_kit T) I.kIn J h1 e (fun z => nomatch z) fun tk => ⟨.bl b, H, I.tok tk, rfl, q⟩
/-! ### an object made that may refuse -/
section
variable {X : Cx} {CX : CXT} {k : Nat} {f C : Addr} {fd : FuncData} {ps : List Str} {sp : Sp} {dvs : List V} {ds : List Value} {E : L2.St → XK} {x : Str} {p pos : Pos} {e : Expr} {es : List Expr} {t : TA}
def tMakeS (C : Addr) (sp : Sp) (dvs : List V) (E : L2.St → XK) (t : TA) : TE := fun σ H Q => t σ H fun vs H1 => ∀ x dx, H1 x = none → H1 dx = none → dx ≠ x → sp (.ref x :: (vs ++ dvs)) (upd (upd H1 dx (.own x)) x (.ins C dx [])) (fun v H2 => v = .non ∧ Q (.ref x) H2) (E σ)
theorem pe_makeS (M : Mk X.K C f) (G : FnOk X.prog X.w X.K X.mg X.base CX k f fd ps sp) (hr : Room (k + 1) X.A) (hg : Gl X x) (hm : X.mg x = some (.ref C)) (hb : Binds X.K fd ps ds) (hd : Vals dvs ds) (hx : ∀ σ, PassesAt CX X σ (E σ))
    (ha : PA X (e :: es) t) (hdb : (x == ("__debug__" : Str)) = false := by decide) (he : starEach (e :: es) X.env = (false, eval e X.env) :: starEach es X.env := by rfl) (hpl : (backTo pos (starEach es X.env)).any (·.1) = false := by rfl) :
    PE X (.Call (.Name x p) (e :: es) [] pos) (tMakeS C sp dvs E t) := by
  constructor
  intro pins s σ H Q I h
  refine wpAny_Call_Name_kw (ld_glob I hg hm ?_ hdb)
  refine PySem.W.callWith_K (h₀ := X.base) I.ok.mod.kin M.kp (thn (ha.run pos pins s σ H _ I h) ?_) he hpl
  rintro us s1 ⟨vs, H1, I1, r, q⟩
  refine ⟨I1.kIn, ?_⟩
  have q2 := q (s1.heap.objs.size + 1) s1.heap.objs.size (I1.hok.fresh (Nat.le_succ _)) (I1.hok.fresh (Nat.le_refl _)) (Nat.ne_of_lt (Nat.lt_succ_self _))
  have J := Inv.made (C := C) I1
  have r2 : Vals (V.ref (s1.heap.objs.size + 1) :: (vs ++ dvs)) (Value.ref (s1.heap.objs.size + 1) :: (us ++ ds)) := .cons rfl (r.append hd)
  have hl : (Value.ref (s1.heap.objs.size + 1) :: us ++ ds).length = ps.length := by
    have e := r2.length
    rw [G.len _ _ _ _ q2] at e
    exact e.symm
  refine wpAny_call (make_map (f := f) I1.kIn M.makes M.init (beq_iff_eq.mp M.fn) (codeAny_mono (G.run _ X.stack _ _ ⟨Value.ref (s1.heap.objs.size + 1) :: us, []⟩ (Value.ref (s1.heap.objs.size + 1) :: (us ++ ds)) _ _ (E σ) (hr.make C us [])
    (J.env0.make C us []) (hb _ (Value.ref (s1.heap.objs.size + 1) :: us) J.kIn hl) r2 q2) ?_))
  intro r s' hq
  match r, hq with
  | .error er, hq => exact hx σ pins _ _ er s' J hq
  | .ok (.ret u), hq =>
    obtain ⟨v, H', I3, rv, ev, q3⟩ := J.after hq
    subst ev
    exact ⟨rv, ⟨V.ref (s1.heap.objs.size + 1), H', I3, rfl, q3⟩⟩
end
theorem oex_of {K : PySem.W.Frag} {B newId initId : String} {nm q : Str} {C N : Addr} {bs bm : List Value} {sn : List Str} {sub : List Value} {ab : Bool} {col : Option Bool} {dd : Option Addr} {m0 m1 m2 m3 m5 : Option Value}
    (FB : PySem.ExcBaseFacts B newId initId bm) (SF : PySem.StoreFacts B bm "object.__setattr__" "object") (xL : K.lookup C = some (excClassObj nm q C N bs bm true sn sub ab col dd m0 m1 m2 m3 m5 newId)) (ht : PySem.W.excTail bm bm = true)
    (hd : PySem.W.hasDictIn K C = true) (sa : PySem.W.findIn K (.ref C) "__setattr__" = some (some (.builtin "object.__setattr__"))) (exC : PySem.W.subIn K (.ref C) (.type "BaseException") = some true) (tyC : PySem.W.typeIn K (.ref C) = some (.type "type")) (kC : PySem.W.keepIn K (.ref C) = true) : OexB K C := by
  refine ⟨⟨B, newId, initId, bm, bm, nm, q, N, bs, true, sn, sub, ab, col, dd, m0, m1, m2, m3, m5, FB, ⟨FB.hasB, FB.noAttr, FB.noName⟩, xL⟩, ⟨B, bm, SF, ?_⟩, hd, sa, exC, tyC, kC⟩
  unfold PySem.W.excOver PySem.W.clsIn
  rw [xL]
  simp [excClassObj, ht]
/-- KeyError: stores by its own facts, made by LookupError's __new__ -/
abbrev keyTail : List Value := [.type "KeyError", .type "LookupError", .type "Exception", .type "BaseException", .type "object"]
theorem store_KeyError : PySem.StoreFacts "KeyError" keyTail "object.__setattr__" "object" :=
  ⟨by kernel_rfl, .of (n := "__setattr__") (owner := "object") (by rw [typeLookup_type, builtinLookup_eq_fast]; kernel_rfl) (by decide +kernel) (by decide +kernel) (by decide +kernel) (.inl (by decide +kernel)) (by rw [isSubtype_type]; kernel_rfl),
    PySem.F.entry_object_sa, by decide +kernel, by decide +kernel, by decide +kernel, fun a b c => by unfold argsOk; kernel_rfl, fun self => by kernel_rfl⟩
theorem oex_key {K : PySem.W.Frag} {nm q : Str} {C N : Addr} {bs : List Value} {sn : List Str} {sub : List Value} {ab : Bool} {col : Option Bool} {dd : Option Addr} {m0 m1 m2 m3 m5 : Option Value}
    (xL : K.lookup C = some (excClassObj nm q C N bs keyTail true sn sub ab col dd m0 m1 m2 m3 m5 "LookupError.__new__"))
    (hd : PySem.W.hasDictIn K C = true) (sa : PySem.W.findIn K (.ref C) "__setattr__" = some (some (.builtin "object.__setattr__"))) (exC : PySem.W.subIn K (.ref C) (.type "BaseException") = some true) (tyC : PySem.W.typeIn K (.ref C) = some (.type "type")) (kC : PySem.W.keepIn K (.ref C) = true) : OexB K C := by
  refine ⟨⟨"LookupError", _, _, _, keyTail, nm, q, N, bs, true, sn, sub, ab, col, dd, m0, m1, m2, m3, m5, PySem.F.excBase_LookupError, ⟨by decide +kernel, by decide +kernel, by decide +kernel⟩, xL⟩, ⟨"KeyError", keyTail, store_KeyError, ?_⟩, hd, sa, exC, tyC, kC⟩
  unfold PySem.W.excOver PySem.W.clsIn
  rw [xL]
  simp [excClassObj, show PySem.W.excTail keyTail keyTail = true by decide +kernel]
theorem kit_up {K : PySem.W.Frag} {C : Addr} {T : String} (m : PySem.W.kitMeta T = true) (s : PySem.W.subIn K (.ref C) (.type T) = some true) : PySem.W.kitOne K (.ref C) (.type T) = some true := by
  show (if (Value.ref C == Value.type T) = true then some true else if PySem.W.kitMeta T = true then PySem.W.subIn K (.ref C) (.type T) else none) = some true
  rw [if_neg (by intro z; cases z), if_pos m]
  exact s
theorem kit_cls2 {K : PySem.W.Frag} {C D : Addr} {b : Bool} (ic : PySem.W.isClsIn K D = true) (ty : PySem.W.typeIn K (.ref D) = some (.type "type")) (s : PySem.W.subIn K (.ref C) (.ref D) = some b) : PySem.W.kitCls K (.ref C) (.ref D) = some b := by
  have ic' : (PySem.W.clsIn K D).isSome = true := ic
  have e : ((PySem.W.clsIn K D).isSome && PySem.W.typeIn K (.ref D) == some (.type "type")) = true := by rw [ic', ty]; rfl
  show (if ((PySem.W.clsIn K D).isSome && PySem.W.typeIn K (.ref D) == some (.type "type")) = true then PySem.W.subIn K (.ref C) (.ref D) else none) = some b
  rw [if_pos e]
  exact s
theorem kit_other {K : PySem.W.Frag} {C D : Addr} (self : PySem.W.subIn K (.ref C) (.ref C) = some true) (ic : PySem.W.isClsIn K D = true) (ty : PySem.W.typeIn K (.ref D) = some (.type "type")) (s : PySem.W.subIn K (.ref C) (.ref D) = some false) : PySem.W.kitOne K (.ref C) (.ref D) = some false := by
  have ne : ¬ (Value.ref C == Value.ref D) = true := by
    intro z
    have e := eq_of_beq z
    injection e with e
    subst e
    rw [self] at s
    cases s
  show (if (Value.ref C == Value.ref D) = true then some true else PySem.W.kitCls K (.ref C) (.ref D)) = some false
  rw [if_neg ne]
  exact kit_cls2 ic ty s
theorem exm_hit {K : PySem.W.Frag} {C : Addr} (ex : PySem.W.subIn K (.ref C) (.type "BaseException") = some true) (ic : PySem.W.isClsIn K C = true) (ty : PySem.W.typeIn K (.ref C) = some (.type "type")) (s : PySem.W.subIn K (.ref C) (.ref C) = some true) : PySem.W.exmOne K (.ref C) (.ref C) = some true := by
  show (if (PySem.W.subIn K (.ref C) (.type "BaseException") == some true) = true then PySem.W.kitCls K (.ref C) (.ref C) else none) = some true
  rw [if_pos (by rw [ex]; rfl)]
  exact kit_cls2 ic ty s
theorem any_no {K : PySem.W.Frag} {t c : Value} {cs : List Value} (h : PySem.W.kitOne K t c = some false) (r : PySem.W.kitAny K t cs = some false) : PySem.W.kitAny K t (c :: cs) = some false := kitAny_cons h (fun _ => r) (fun z => nomatch z)
/-! ### a block by a reading of one's own -/
theorem pss_imp {X : Cx} {b : List Stmt} {t t' : TS} (h : PSs X b t) (i : ∀ D σ H, t' D σ H → t D σ H) : PSs X b t' := ⟨fun pins s σ H D I z => h.run pins s σ H D I (i _ _ _ z)⟩
/-! ### o.m(e, .., k = v, ..), what is raised wished for at the caller's slots -/
section
variable {X : Cx} {CX : CXT} {k n : Nat} {f C : Addr} {fd : FuncData} {ps ks : List Str} {sp : Sp} {E : L2.St → XK} {m : Str} {apos pos : Pos} {o e : Expr} {es : List Expr} {kws : List Keyword} {ta : TE} {t tk : TA} {g : List Value → List Value → List Value} {gV : List V → List V → List V}
theorem passNo {P : Program} {w : World} {σ : L2.St} (hP : X.prog = P) (hw : X.w = w) : PassesAt (L2.CX P w) X σ E0 := by
  intro pins H s e s' I h
  obtain ⟨_, _, _, _, _, _, _, _, _, _, _, _, z⟩ := h
  exact (show False from z).elim
theorem run_kbn {pins : List (Addr × Obj)} {σ : L2.St} {H : Hp} {s : Shared} {Q : VK} {us ws : List Value} {vs zs : List V} (F : FnOk X.prog X.w X.K X.mg X.base CX k f fd ps sp) (hr : Room k X.A) (hb : KBn X.K fd ps n ks g gV) (hx : PassesAt CX X σ (E σ))
    (I : L2.Inv X pins σ H s) (r : Vals vs us) (rz : Vals zs ws) (l1 : vs.length = n) (l2 : zs.length = ks.length) (h : sp (gV vs zs) H Q (E σ)) : wpAny (model X.prog X.w) X.A (call (.ref f) us (ks.zip ws)) (EP X pins σ Q) X.xe s := by
  have bd := hb.to s us ws I.kIn (r.length.symm.trans l1) (rz.length.symm.trans l2)
  refine wpAny_call (codeAny_mono (F.run X.A X.stack s H ⟨us, ks.zip ws⟩ (g us ws) (gV vs zs) Q (E σ) hr I.env0 bd (hb.rel r rz) h) fun z s' hz => ?_)
  match z, hz with
  | .error er, hz => exact hx pins H s er s' I hz
  | .ok (.ret u), hz => exact I.after hz
  | .ok .next, hz => exact (show False from hz).elim
  | .ok .brk, hz => exact (show False from hz).elim
  | .ok .cont, hz => exact (show False from hz).elim
def tMethA (C : Addr) (m : Str) (n nk : Nat) (sp : Sp) (gV : List V → List V → List V) (E : L2.St → XK) (ta : TE) (t tk : TA) : TE := fun σ H Q => ta σ H fun x H1 => ∃ a dx fs, x = .ref a ∧ H1 a = some (.ins C dx fs) ∧ fs.lookup m = none ∧
  t σ H1 fun vs H2 => tk σ H2 fun zs H3 => vs.length = n ∧ zs.length = nk ∧ sp (gV (.ref a :: vs) zs) H3 Q (E σ)
theorem pe_methA {pl : Sem Bool} (he : PE X o ta) (c : Cls X.K C) (hm : Meth X.K C m f) (F : FnOk X.prog X.w X.K X.mg X.base CX k f fd ps sp) (hr : Room k X.A) (hb : KBn X.K fd ps (n + 1) ks g gV) (hx : ∀ σ, PassesAt CX X σ (E σ))
    (ha : PA X (e :: es) t) (hkw : PK X kws tk) (n1 : (backToKw pos (keywordEach kws X.env)).all (·.1.isSome) = true := by rfl) (n2 : (backToKw pos (keywordEach kws X.env)).filterMap (·.1) = ks := by rfl)
    (n3 : starEach (e :: es) X.env = (false, eval e X.env) :: starEach es X.env := by rfl) (n4 : ((backTo pos (starEach (e :: es) X.env)).any (·.1) || (backToKw pos (keywordEach kws X.env)).any (·.1.isNone)) = false := by rfl)
    (n5 : eval (.Call (.Attribute o m apos) (e :: es) kws pos) X.env = (do
      let ov ← eval o X.env
      standAt apos.atName
      let (f, first) ← holding [ov] (getMethod ov m pl)
      callWith pos f first (backTo pos (starEach (e :: es) X.env)) (backToKw pos (keywordEach kws X.env))) := by rfl) :
    PE X (.Call (.Attribute o m apos) (e :: es) kws pos) (tMethA C m n ks.length sp gV E ta t tk) := by
  constructor
  intro pins s σ H Q I h
  refine PySem.W.methodCall_KW (pl := pl) (thn (he.run pins s σ H _ I h) ?_) n5
  rintro u s1 ⟨x, H1, I1, rx, a, dx, fs, rfl, ea, l, q⟩
  cases (show u = Value.ref a from rx)
  refine getmeth_ok I1 ea c hm l ?_
  refine PySem.W.callWith_KW (first := [.ref a]) (h₀ := X.base) I.ok.mod.kin hm.kp n1 (thn (ha.run pos pins s1 σ H1 _ I1 q) ?_) n4 n3
  rintro us s2 ⟨vs, H2, I2, r, q2⟩
  refine thn (hkw.run pos pins s2 σ H2 _ I2 q2) ?_
  rintro ws s3 ⟨zs, H3, I3, rz, l1, l2, q3⟩
  refine ⟨I3.kIn, ?_⟩
  rw [n2]
  exact run_kbn (us := .ref a :: us) (vs := .ref a :: vs) F hr hb (hx σ) I3 (.cons rfl r) rz (congrArg Nat.succ l1) l2 q3
/-- o.m(k = v, ..) -/
theorem pe_methA0 {pl : Sem Bool} (he : PE X o ta) (c : Cls X.K C) (hm : Meth X.K C m f) (F : FnOk X.prog X.w X.K X.mg X.base CX k f fd ps sp) (hr : Room k X.A) (hb : KBn X.K fd ps 1 ks g gV) (hx : ∀ σ, PassesAt CX X σ (E σ))
    (hkw : PK X kws tk) (n1 : (backToKw pos (keywordEach kws X.env)).all (·.1.isSome) = true := by rfl) (n2 : (backToKw pos (keywordEach kws X.env)).filterMap (·.1) = ks := by rfl)
    (n4 : ((backTo pos (starEach [] X.env)).any (·.1) || (backToKw pos (keywordEach kws X.env)).any (·.1.isNone)) = false := by rfl)
    (n5 : eval (.Call (.Attribute o m apos) [] kws pos) X.env = (do
      let ov ← eval o X.env
      standAt apos.atName
      let (f, first) ← holding [ov] (getMethod ov m pl)
      callWith pos f first (backTo pos (starEach [] X.env)) (backToKw pos (keywordEach kws X.env))) := by rfl) :
    PE X (.Call (.Attribute o m apos) [] kws pos) (tMethA C m 0 ks.length sp gV E ta tNil tk) := by
  constructor
  intro pins s σ H Q I h
  refine PySem.W.methodCall_KW (pl := pl) (thn (he.run pins s σ H _ I h) ?_) n5
  rintro u s1 ⟨x, H1, I1, rx, a, dx, fs, rfl, ea, l, q⟩
  cases (show u = Value.ref a from rx)
  refine getmeth_ok I1 ea c hm l ?_
  refine PySem.W.callWith_KW0 (first := [.ref a]) (h₀ := X.base) I.ok.mod.kin hm.kp n1 ?_ n4
  refine thn (hkw.run pos pins s1 σ H1 _ I1 q) ?_
  rintro ws s3 ⟨zs, H3, I3, rz, l1, l2, q3⟩
  refine ⟨I3.kIn, ?_⟩
  rw [n2]
  exact run_kbn (us := [.ref a]) (vs := [.ref a]) F hr hb (hx σ) I3 (.cons rfl .nil) rz rfl l2 q3
/-- places alone, as a case of both -/
theorem kbn_of {K : Frag} {ds : List Value} {dvs : List V} (hb : L2.Binds K fd ps ds) (hd : Vals dvs ds) (hn : n + ds.length = ps.length) : KBn K fd ps n [] (fun us _ => us ++ ds) (fun vs _ => vs ++ dvs) :=
  ⟨fun s us ws X l1 l2 => hb s us X (by rw [List.length_append, l1, hn]), fun a _ => a.append hd⟩
end
/-! ### max(xs, default=d) of a list of ints -/
section
variable {prog : Program} {w : World} {A : Around} {R : Result → Shared → Prop} {I : Addr} {fp wr : List Addr} {n : Nat} {Pi : Nat → Value → Prop} {St : Nat → Heap → Prop}
theorem max_turns (W : Walks prog w A.in1 I fp wr n Pi St) (bt : Nat → Nat → Bool) (cm : CmpOf prog w A.in1 .Gt Pi bt) (S : Addr) (out : S ∉ fp) (kw : List (Str × Value)) : ∀ (k j : Nat) (s : Shared) (vb : Value) (c : Nat), n - (j + 1) = k → j + 1 ≤ n → St (j + 1) s.heap → Pi (argBest bt j) vb →
    s.heap.get? S = some { cls := .type "list", dict := none, data := .seq #[vb, vb] c, slots := #[] } →
    (∀ v h' tk, Pi (argBest bt (n - 1)) v → (∀ b o, b ∉ wr → b ≠ S → s.heap.get? b = some o → h'.get? b = some o) → R (.ok (.ret v)) { s with heap := h', toks := tk }) → codeAny (model prog w) A (.builtin "max.loop" ⟨[.ref I, .none, .ref S], kw⟩) R s := by
  have outW : S ∉ wr := fun z => out (W.sub _ z)
  have nm : (toString "max" ++ toString ".loop" : String) = "max.loop" := by decide
  intro k
  induction k with
  | zero =>
    intro j s vb c hk hj st hP hS q
    have last : j + 1 = n := by omega
    refine codeAny_builtin PySem.F.entry_max_loop ?_; rw [Around.under_plainId PySem.F.plain_max_loop _]
    show wpAny _ A.in1 (seqItems? (.ref S) >>= _) _ _ s; refine wpAny_bind (wpAny_seqItems hS rfl ?_)
    show wpAny _ A.in1 (tryCatch (pyNext (.ref I)) _ >>= _) _ _ s; refine wpAny_bind (wpAny_tryCatch (W.done s _ _ (last ▸ st) fun h' tk kk => ?_))
    have hS2 := kk S _ outW hS
    show wpAny _ A.in1 (updateSeq S (fun _ => #[]) >>= _) _ _ _; refine wpAny_bind (wpAny_updateSeq hS2 rfl (wpAny_bind (wpAny_letGo (wpAny_pure ?_))))
    exact q vb _ tk (by rw [← last]; exact hP) fun b o nb nS e => (Heap.get?_update_other _ _ (Ne.symm nS)).trans (kk b o nb e)
  | succ k ih =>
    intro j s vb c hk hj st hP hS q
    have more : j + 1 < n := by omega
    refine codeAny_builtin PySem.F.entry_max_loop ?_; rw [Around.under_plainId PySem.F.plain_max_loop _]
    show wpAny _ A.in1 (seqItems? (.ref S) >>= _) _ _ s; refine wpAny_bind (wpAny_seqItems hS rfl ?_)
    show wpAny _ A.in1 (tryCatch (pyNext (.ref I)) _ >>= _) _ _ s; refine wpAny_bind (wpAny_tryCatch (W.item (j + 1) s _ _ more st fun v h' tk hv st2 kk => ?_))
    have hS2 := kk S _ outW hS
    show wpAny _ A.in1 (tryCatch (holding [v, v] (richCompare .Gt v vb >>= _)) _ >>= _) _ _ _; refine wpAny_bind (wpAny_tryCatch (wpAny_holding (wpAny_bind (cm (j + 1) (argBest bt j) v vb _ _ _ hv hP ?_))))
    refine wpAny_bind (wpAny_holding (wpAny_truthy_bool (wpAny_bind (wpAny_letGo (wpAny_pure ?_)))))
    cases hb : bt (j + 1) (argBest bt j) with
    | true =>
      simp only [if_true]; refine wpAny_bind (wpAny_updateSeq hS2 rfl (wpAny_bind (wpAny_letGo ?_))); rw [nm]
      refine wpAny_pure ⟨plainId_quiet PySem.F.plain_max_loop _, ih (j + 1) _ v _ (by omega) more (W.frame _ _ _ st2 fun b nb o e => ?_) (by simp only [argBest, hb, if_true]; exact hv) (Heap.get?_update_self _ hS2 rfl) fun v3 h3 tk3 hv3 kk3 => ?_⟩
      · exact (Heap.get?_update_other _ _ (fun z : S = b => out (by rw [z]; exact nb))).trans e
      · exact q v3 h3 tk3 hv3 fun b o nb nS e => kk3 b o nb nS ((Heap.get?_update_other _ _ (Ne.symm nS)).trans (kk b o nb e))
    | false =>
      simp only [Bool.false_eq_true, if_false]; refine wpAny_bind (wpAny_letGo ?_); rw [nm]
      refine wpAny_pure ⟨plainId_quiet PySem.F.plain_max_loop _, ih (j + 1) _ vb c (by omega) more st2 (by simp only [argBest, hb, Bool.false_eq_true, if_false]; exact hP) hS2 fun v3 h3 tk3 hv3 kk3 => ?_⟩
      exact q v3 h3 tk3 hv3 fun b o nb nS e => kk3 b o nb nS (kk b o nb e)
theorem max_first (W : Walks prog w A.in1 I fp wr n Pi St) (bt : Nat → Nat → Bool) (cm : CmpOf prog w A.in1 .Gt Pi bt) (S : Addr) (out : S ∉ fp) (kw : List (Str × Value)) (hn : 0 < n) {s : Shared} {c : Nat} (st : St 0 s.heap)
    (hS : s.heap.get? S = some { cls := .type "list", dict := none, data := .seq #[] c, slots := #[] })
    (q : ∀ v h' tk, Pi (argBest bt (n - 1)) v → (∀ b o, b ∉ wr → b ≠ S → s.heap.get? b = some o → h'.get? b = some o) → R (.ok (.ret v)) { s with heap := h', toks := tk }) : codeAny (model prog w) A (.builtin "max.loop" ⟨[.ref I, .none, .ref S], kw⟩) R s := by
  have outW : S ∉ wr := fun z => out (W.sub _ z)
  have nm : (toString "max" ++ toString ".loop" : String) = "max.loop" := by decide
  refine codeAny_builtin PySem.F.entry_max_loop ?_; rw [Around.under_plainId PySem.F.plain_max_loop _]
  show wpAny _ A.in1 (seqItems? (.ref S) >>= _) _ _ s; refine wpAny_bind (wpAny_seqItems hS rfl ?_)
  show wpAny _ A.in1 (tryCatch (pyNext (.ref I)) _ >>= _) _ _ s; refine wpAny_bind (wpAny_tryCatch (W.item 0 s _ _ hn st fun v h' tk hv st2 kk => ?_))
  have hS2 := kk S _ outW hS
  show wpAny _ A.in1 (updateSeq S (fun _ => #[v, v]) >>= _) _ _ _; refine wpAny_bind (wpAny_updateSeq hS2 rfl ?_); rw [nm]
  refine wpAny_pure ⟨plainId_quiet PySem.F.plain_max_loop _, max_turns W bt cm S out kw _ 0 _ v _ rfl hn (W.frame _ _ _ st2 fun b nb o e => ?_) hv (Heap.get?_update_self _ hS2 rfl) fun v3 h3 tk3 hv3 kk3 => ?_⟩
  · exact (Heap.get?_update_other _ _ (fun z : S = b => out (by rw [z]; exact nb))).trans e
  · exact q v3 h3 tk3 hv3 fun b o nb nS e => kk3 b o nb nS ((Heap.get?_update_other _ _ (Ne.symm nS)).trans (kk b o nb e))
theorem max_empty (W : Walks prog w A.in1 I fp wr 0 Pi St) (S : Addr) (out : S ∉ fp) (d : Value) {s : Shared} {c : Nat} (st : St 0 s.heap)
    (hS : s.heap.get? S = some { cls := .type "list", dict := none, data := .seq #[] c, slots := #[] })
    (q : ∀ h' tk, (∀ b o, b ∉ wr → s.heap.get? b = some o → h'.get? b = some o) → R (.ok (.ret d)) { s with heap := h', toks := tk }) : codeAny (model prog w) A (.builtin "max.loop" ⟨[.ref I, .none, .ref S], [(Str.ofString "default", d)]⟩) R s := by
  refine codeAny_builtin PySem.F.entry_max_loop ?_; rw [Around.under_plainId PySem.F.plain_max_loop _]
  show wpAny _ A.in1 (seqItems? (.ref S) >>= _) _ _ s; refine wpAny_bind (wpAny_seqItems hS rfl ?_)
  show wpAny _ A.in1 (tryCatch (pyNext (.ref I)) _ >>= _) _ _ s; refine wpAny_bind (wpAny_tryCatch (W.done s _ _ st fun h' tk kk => ?_))
  refine wpAny_bind (wpAny_rule ?_)
  exact wpAny_pure (q h' tk kk)
end
section
variable {prog : Program} {w : World} {A : Around} {E : Value → Shared → Prop} {s : Shared} {l : Addr} {its : List Value} {ns : List Int} {Q : Value → Shared → Prop}
theorem max_args (a v : Value) : argsOk "max" ⟨[a], [(Str.ofString "default", v)]⟩ := by unfold argsOk; kernel_rfl
theorem max_dflt (d : Value) (hh : A.handled = none) (hl : s.heap.IsList l its.toArray) (hi : IntsAre its ns)
    (q0 : ns = [] → ∀ h' tk, (∀ b o, s.heap.get? b = some o → h'.get? b = some o) → Q d { s with heap := h', toks := tk })
    (q1 : ∀ h' tk M t', (∀ b o, s.heap.get? b = some o → h'.get? b = some o) → M ∈ ns → (∀ a, a ∈ ns → a ≤ M) → Q (.int M t') { s with heap := h', toks := tk }) : wpAny (model prog w) A (call (.builtin "max") [.ref l] [(Str.ofString "default", d)]) Q E s := by
  obtain ⟨xs, e⟩ := hi.allInts.items
  have hn : numsOf (intItems xs).toList = ns := by rw [← e]; exact hi.numsOf
  rw [nums_intItems] at hn
  subst hn
  rw [e] at hl
  have nm : (toString "max" ++ toString ".loop" : String) = "max.loop" := by decide
  refine kmk_tree PySem.F.kind_max PySem.F.plain_max PySem.F.entry_max (max_args _ _) ?_
  show wpAny _ A.in1 (Builtin.Builtins.bindParams "max" ["key", "default"] 0 ⟨[], [(Str.ofString "default", d)]⟩ >>= _) _ _ s
  refine wpAny_bind (wpAny_of_eq (show Builtin.Builtins.bindParams "max" ["key", "default"] 0 ⟨[], [(Str.ofString "default", d)]⟩ = pure [none, some d] from rfl) (wpAny_bind (wpAny_pure (wpAny_bind ?_))))
  refine iter_intList hl fun s₂ es st hfp hlI => ?_
  subst es
  refine wpAny_bind (wpAny_newObj_type ?_); rw [nm]
  have out : (s.heap.push { cls := .type "list_iterator", data := .fields #[.ref l, .int 0 0] }).objs.size ∉ [s.heap.objs.size, l] := fun z => Nat.lt_irrefl _ (hfp _ z)
  have W := Walks.list (prog := prog) (w := w) (A := A.in1) hh s.heap.objs.size l hlI (intItems xs)
  have hsz : (intItems xs).size = xs.size := by simp [intItems]
  rcases Nat.eq_zero_or_pos xs.size with z | z
  · have ez : (xs.toList.map (·.1)) = [] := by
      have : xs = #[] := Array.eq_empty_of_size_eq_zero z
      rw [this]; rfl
    rw [hsz, z] at W
    refine wpAny_pure ⟨plainId_quiet PySem.F.plain_max_loop _, max_empty W _ out d (W.frame _ _ _ st fun b _ o e => Heap.get?_push_of_some _ e) (Heap.get?_push_size _ rfl) fun h' tk kk => ?_⟩
    exact q0 ez h' tk (old_kept fun b o nb e => kk b o nb (Heap.get?_push_of_some _ e))
  · refine wpAny_pure ⟨plainId_quiet PySem.F.plain_max_loop _, max_first W _ (CmpOf.ints_gt (numAt xs) (fun _ _ => intItems_at)) _ out _ (by rw [hsz]; exact z) (W.frame _ _ _ st fun b _ o e => Heap.get?_push_of_some _ e) (Heap.get?_push_size _ rfl) fun v h' tk hv kk => ?_⟩
    rw [hsz] at hv
    obtain ⟨t, rfl⟩ := intItems_at hv
    obtain ⟨h1, h2⟩ := argBest_gt (numAt xs) (xs.size - 1)
    refine q1 h' tk _ t (old_kept fun b o nb e => kk b o nb (Nat.ne_of_lt (Heap.lt_size e)) (Heap.get?_push_of_some _ e)) ?_ fun a ha => ?_
    · rw [numAt_eq]; exact PySem.getD_mem (by rw [List.length_map, Array.length_toList]; omega)
    · obtain ⟨j, hj, rfl⟩ := mem_getD ha
      rw [List.length_map, Array.length_toList] at hj
      rw [← numAt_eq]; exact h2 j (by omega)
/-- max(xs, default=d): d of none -/
def rDmax (K : PySem.W.Frag) : List V → List V → Hp → VK → Prop := fun vs zs H Q => ∃ (a : Addr) (ns : List Int) (d : V), vs = [V.ref a] ∧ zs = [d] ∧ SqL K H a (ns.map V.int) ∧ (ns = [] → Q d H) ∧ ∀ M, M ∈ ns → (∀ a, a ∈ ns → a ≤ M) → Q (.int M) H
theorem call_Dmax {X : Cx} (hc : X.calm = true) : CallRK X (.builtin "max") ["default"] (rDmax X.K) := by
  intro pins s σ H xs zs us ws Q I r rz h
  obtain ⟨a, ns, d, rfl, rfl, hs, q0, q1⟩ := h
  obtain ⟨its, rv, hl, _⟩ := I.list hs
  obtain ⟨ud, rfl, rd⟩ := Vals.one rz
  rw [Vals.ref1 r]
  exact max_dflt ud (I.ok.hd hc) hl.isList rv.ints (fun e h' tk hk => ⟨d, H, I.kept hk, rd, q0 e⟩) fun h' tk M t' hk h1 h2 => ⟨.int _, H, I.kept hk, ⟨_, rfl⟩, q1 M h1 h2⟩
end
/-! ### min(xs, default=d) of a list of ints -/
section
variable {prog : Program} {w : World} {A : Around} {R : Result → Shared → Prop} {I : Addr} {fp wr : List Addr} {n : Nat} {Pi : Nat → Value → Prop} {St : Nat → Heap → Prop}
theorem min_turns (W : Walks prog w A.in1 I fp wr n Pi St) (bt : Nat → Nat → Bool) (cm : CmpOf prog w A.in1 .Lt Pi bt) (S : Addr) (out : S ∉ fp) (kw : List (Str × Value)) : ∀ (k j : Nat) (s : Shared) (vb : Value) (c : Nat), n - (j + 1) = k → j + 1 ≤ n → St (j + 1) s.heap → Pi (argBest bt j) vb →
    s.heap.get? S = some { cls := .type "list", dict := none, data := .seq #[vb, vb] c, slots := #[] } →
    (∀ v h' tk, Pi (argBest bt (n - 1)) v → (∀ b o, b ∉ wr → b ≠ S → s.heap.get? b = some o → h'.get? b = some o) → R (.ok (.ret v)) { s with heap := h', toks := tk }) → codeAny (model prog w) A (.builtin "min.loop" ⟨[.ref I, .none, .ref S], kw⟩) R s := by
  have outW : S ∉ wr := fun z => out (W.sub _ z)
  have nm : (toString "min" ++ toString ".loop" : String) = "min.loop" := by decide
  intro k
  induction k with
  | zero =>
    intro j s vb c hk hj st hP hS q
    have last : j + 1 = n := by omega
    refine codeAny_builtin PySem.F.entry_min_loop ?_; rw [Around.under_plainId PySem.F.plain_min_loop _]
    show wpAny _ A.in1 (seqItems? (.ref S) >>= _) _ _ s; refine wpAny_bind (wpAny_seqItems hS rfl ?_)
    show wpAny _ A.in1 (tryCatch (pyNext (.ref I)) _ >>= _) _ _ s; refine wpAny_bind (wpAny_tryCatch (W.done s _ _ (last ▸ st) fun h' tk kk => ?_))
    have hS2 := kk S _ outW hS
    show wpAny _ A.in1 (updateSeq S (fun _ => #[]) >>= _) _ _ _; refine wpAny_bind (wpAny_updateSeq hS2 rfl (wpAny_bind (wpAny_letGo (wpAny_pure ?_))))
    exact q vb _ tk (by rw [← last]; exact hP) fun b o nb nS e => (Heap.get?_update_other _ _ (Ne.symm nS)).trans (kk b o nb e)
  | succ k ih =>
    intro j s vb c hk hj st hP hS q
    have more : j + 1 < n := by omega
    refine codeAny_builtin PySem.F.entry_min_loop ?_; rw [Around.under_plainId PySem.F.plain_min_loop _]
    show wpAny _ A.in1 (seqItems? (.ref S) >>= _) _ _ s; refine wpAny_bind (wpAny_seqItems hS rfl ?_)
    show wpAny _ A.in1 (tryCatch (pyNext (.ref I)) _ >>= _) _ _ s; refine wpAny_bind (wpAny_tryCatch (W.item (j + 1) s _ _ more st fun v h' tk hv st2 kk => ?_))
    have hS2 := kk S _ outW hS
    show wpAny _ A.in1 (tryCatch (holding [v, v] (richCompare .Lt v vb >>= _)) _ >>= _) _ _ _; refine wpAny_bind (wpAny_tryCatch (wpAny_holding (wpAny_bind (cm (j + 1) (argBest bt j) v vb _ _ _ hv hP ?_))))
    refine wpAny_bind (wpAny_holding (wpAny_truthy_bool (wpAny_bind (wpAny_letGo (wpAny_pure ?_)))))
    cases hb : bt (j + 1) (argBest bt j) with
    | true =>
      simp only [if_true]; refine wpAny_bind (wpAny_updateSeq hS2 rfl (wpAny_bind (wpAny_letGo ?_))); rw [nm]
      refine wpAny_pure ⟨plainId_quiet PySem.F.plain_min_loop _, ih (j + 1) _ v _ (by omega) more (W.frame _ _ _ st2 fun b nb o e => ?_) (by simp only [argBest, hb, if_true]; exact hv) (Heap.get?_update_self _ hS2 rfl) fun v3 h3 tk3 hv3 kk3 => ?_⟩
      · exact (Heap.get?_update_other _ _ (fun z : S = b => out (by rw [z]; exact nb))).trans e
      · exact q v3 h3 tk3 hv3 fun b o nb nS e => kk3 b o nb nS ((Heap.get?_update_other _ _ (Ne.symm nS)).trans (kk b o nb e))
    | false =>
      simp only [Bool.false_eq_true, if_false]; refine wpAny_bind (wpAny_letGo ?_); rw [nm]
      refine wpAny_pure ⟨plainId_quiet PySem.F.plain_min_loop _, ih (j + 1) _ vb c (by omega) more st2 (by simp only [argBest, hb, Bool.false_eq_true, if_false]; exact hP) hS2 fun v3 h3 tk3 hv3 kk3 => ?_⟩
      exact q v3 h3 tk3 hv3 fun b o nb nS e => kk3 b o nb nS (kk b o nb e)
theorem min_first (W : Walks prog w A.in1 I fp wr n Pi St) (bt : Nat → Nat → Bool) (cm : CmpOf prog w A.in1 .Lt Pi bt) (S : Addr) (out : S ∉ fp) (kw : List (Str × Value)) (hn : 0 < n) {s : Shared} {c : Nat} (st : St 0 s.heap)
    (hS : s.heap.get? S = some { cls := .type "list", dict := none, data := .seq #[] c, slots := #[] })
    (q : ∀ v h' tk, Pi (argBest bt (n - 1)) v → (∀ b o, b ∉ wr → b ≠ S → s.heap.get? b = some o → h'.get? b = some o) → R (.ok (.ret v)) { s with heap := h', toks := tk }) : codeAny (model prog w) A (.builtin "min.loop" ⟨[.ref I, .none, .ref S], kw⟩) R s := by
  have outW : S ∉ wr := fun z => out (W.sub _ z)
  have nm : (toString "min" ++ toString ".loop" : String) = "min.loop" := by decide
  refine codeAny_builtin PySem.F.entry_min_loop ?_; rw [Around.under_plainId PySem.F.plain_min_loop _]
  show wpAny _ A.in1 (seqItems? (.ref S) >>= _) _ _ s; refine wpAny_bind (wpAny_seqItems hS rfl ?_)
  show wpAny _ A.in1 (tryCatch (pyNext (.ref I)) _ >>= _) _ _ s; refine wpAny_bind (wpAny_tryCatch (W.item 0 s _ _ hn st fun v h' tk hv st2 kk => ?_))
  have hS2 := kk S _ outW hS
  show wpAny _ A.in1 (updateSeq S (fun _ => #[v, v]) >>= _) _ _ _; refine wpAny_bind (wpAny_updateSeq hS2 rfl ?_); rw [nm]
  refine wpAny_pure ⟨plainId_quiet PySem.F.plain_min_loop _, min_turns W bt cm S out kw _ 0 _ v _ rfl hn (W.frame _ _ _ st2 fun b nb o e => ?_) hv (Heap.get?_update_self _ hS2 rfl) fun v3 h3 tk3 hv3 kk3 => ?_⟩
  · exact (Heap.get?_update_other _ _ (fun z : S = b => out (by rw [z]; exact nb))).trans e
  · exact q v3 h3 tk3 hv3 fun b o nb nS e => kk3 b o nb nS ((Heap.get?_update_other _ _ (Ne.symm nS)).trans (kk b o nb e))
theorem min_empty (W : Walks prog w A.in1 I fp wr 0 Pi St) (S : Addr) (out : S ∉ fp) (d : Value) {s : Shared} {c : Nat} (st : St 0 s.heap)
    (hS : s.heap.get? S = some { cls := .type "list", dict := none, data := .seq #[] c, slots := #[] })
    (q : ∀ h' tk, (∀ b o, b ∉ wr → s.heap.get? b = some o → h'.get? b = some o) → R (.ok (.ret d)) { s with heap := h', toks := tk }) : codeAny (model prog w) A (.builtin "min.loop" ⟨[.ref I, .none, .ref S], [(Str.ofString "default", d)]⟩) R s := by
  refine codeAny_builtin PySem.F.entry_min_loop ?_; rw [Around.under_plainId PySem.F.plain_min_loop _]
  show wpAny _ A.in1 (seqItems? (.ref S) >>= _) _ _ s; refine wpAny_bind (wpAny_seqItems hS rfl ?_)
  show wpAny _ A.in1 (tryCatch (pyNext (.ref I)) _ >>= _) _ _ s; refine wpAny_bind (wpAny_tryCatch (W.done s _ _ st fun h' tk kk => ?_))
  refine wpAny_bind (wpAny_rule ?_)
  exact wpAny_pure (q h' tk kk)
end
section
variable {prog : Program} {w : World} {A : Around} {E : Value → Shared → Prop} {s : Shared} {l : Addr} {its : List Value} {ns : List Int} {Q : Value → Shared → Prop}
theorem min_args (a v : Value) : argsOk "min" ⟨[a], [(Str.ofString "default", v)]⟩ := by unfold argsOk; kernel_rfl
theorem min_dflt (d : Value) (hh : A.handled = none) (hl : s.heap.IsList l its.toArray) (hi : IntsAre its ns)
    (q0 : ns = [] → ∀ h' tk, (∀ b o, s.heap.get? b = some o → h'.get? b = some o) → Q d { s with heap := h', toks := tk })
    (q1 : ∀ h' tk M t', (∀ b o, s.heap.get? b = some o → h'.get? b = some o) → M ∈ ns → (∀ a, a ∈ ns → M ≤ a) → Q (.int M t') { s with heap := h', toks := tk }) : wpAny (model prog w) A (call (.builtin "min") [.ref l] [(Str.ofString "default", d)]) Q E s := by
  obtain ⟨xs, e⟩ := hi.allInts.items
  have hn : numsOf (intItems xs).toList = ns := by rw [← e]; exact hi.numsOf
  rw [nums_intItems] at hn
  subst hn
  rw [e] at hl
  have nm : (toString "min" ++ toString ".loop" : String) = "min.loop" := by decide
  refine kmk_tree PySem.F.kind_min PySem.F.plain_min PySem.F.entry_min (min_args _ _) ?_
  show wpAny _ A.in1 (Builtin.Builtins.bindParams "min" ["key", "default"] 0 ⟨[], [(Str.ofString "default", d)]⟩ >>= _) _ _ s
  refine wpAny_bind (wpAny_of_eq (show Builtin.Builtins.bindParams "min" ["key", "default"] 0 ⟨[], [(Str.ofString "default", d)]⟩ = pure [none, some d] from rfl) (wpAny_bind (wpAny_pure (wpAny_bind ?_))))
  refine iter_intList hl fun s₂ es st hfp hlI => ?_
  subst es
  refine wpAny_bind (wpAny_newObj_type ?_); rw [nm]
  have out : (s.heap.push { cls := .type "list_iterator", data := .fields #[.ref l, .int 0 0] }).objs.size ∉ [s.heap.objs.size, l] := fun z => Nat.lt_irrefl _ (hfp _ z)
  have W := Walks.list (prog := prog) (w := w) (A := A.in1) hh s.heap.objs.size l hlI (intItems xs)
  have hsz : (intItems xs).size = xs.size := by simp [intItems]
  rcases Nat.eq_zero_or_pos xs.size with z | z
  · have ez : (xs.toList.map (·.1)) = [] := by
      have : xs = #[] := Array.eq_empty_of_size_eq_zero z
      rw [this]; rfl
    rw [hsz, z] at W
    refine wpAny_pure ⟨plainId_quiet PySem.F.plain_min_loop _, min_empty W _ out d (W.frame _ _ _ st fun b _ o e => Heap.get?_push_of_some _ e) (Heap.get?_push_size _ rfl) fun h' tk kk => ?_⟩
    exact q0 ez h' tk (old_kept fun b o nb e => kk b o nb (Heap.get?_push_of_some _ e))
  · refine wpAny_pure ⟨plainId_quiet PySem.F.plain_min_loop _, min_first W _ (CmpOf.ints_lt (numAt xs) (fun _ _ => intItems_at)) _ out _ (by rw [hsz]; exact z) (W.frame _ _ _ st fun b _ o e => Heap.get?_push_of_some _ e) (Heap.get?_push_size _ rfl) fun v h' tk hv kk => ?_⟩
    rw [hsz] at hv
    obtain ⟨t, rfl⟩ := intItems_at hv
    obtain ⟨h1, h2⟩ := argBest_lt (numAt xs) (xs.size - 1)
    refine q1 h' tk _ t (old_kept fun b o nb e => kk b o nb (Nat.ne_of_lt (Heap.lt_size e)) (Heap.get?_push_of_some _ e)) ?_ fun a ha => ?_
    · rw [numAt_eq]; exact PySem.getD_mem (by rw [List.length_map, Array.length_toList]; omega)
    · obtain ⟨j, hj, rfl⟩ := mem_getD ha
      rw [List.length_map, Array.length_toList] at hj
      rw [← numAt_eq]; exact h2 j (by omega)
/-- min(xs, default=d): d of none -/
def rDmin (K : PySem.W.Frag) : List V → List V → Hp → VK → Prop := fun vs zs H Q => ∃ (a : Addr) (ns : List Int) (d : V), vs = [V.ref a] ∧ zs = [d] ∧ SqL K H a (ns.map V.int) ∧ (ns = [] → Q d H) ∧ ∀ M, M ∈ ns → (∀ a, a ∈ ns → M ≤ a) → Q (.int M) H
theorem call_Dmin {X : Cx} (hc : X.calm = true) : CallRK X (.builtin "min") ["default"] (rDmin X.K) := by
  intro pins s σ H xs zs us ws Q I r rz h
  obtain ⟨a, ns, d, rfl, rfl, hs, q0, q1⟩ := h
  obtain ⟨its, rv, hl, _⟩ := I.list hs
  obtain ⟨ud, rfl, rd⟩ := Vals.one rz
  rw [Vals.ref1 r]
  exact min_dflt ud (I.ok.hd hc) hl.isList rv.ints (fun e h' tk hk => ⟨d, H, I.kept hk, rd, q0 e⟩) fun h' tk M t' hk h1 h2 => ⟨.int _, H, I.kept hk, ⟨_, rfl⟩, q1 M h1 h2⟩
end
/-! ### a stable sort, as a plain function -/
section
open SrtO (Swo Srtd Stb)
variable {α β : Type} {lt : α → α → Bool}
def ins (lt : α → α → Bool) (x : α) : List α → List α
  | [] => [x]
  | y :: r => if lt x y = true then x :: y :: r else y :: ins lt x r
def iSort (lt : α → α → Bool) (l : List α) : List α := l.foldl (fun acc x => ins lt x acc) []
theorem ins_perm (x : α) : ∀ l : List α, (ins lt x l).Perm (x :: l)
  | [] => List.Perm.refl _
  | y :: r => by
    unfold ins
    split
    · exact List.Perm.refl _
    · exact ((ins_perm x r).cons y).trans (List.Perm.swap x y r)
theorem ins_srtd (O : Swo lt) (x : α) : ∀ l : List α, Srtd lt l → Srtd lt (ins lt x l)
  | [], _ => List.pairwise_singleton _ _
  | y :: r, h => by
    have hy := List.pairwise_cons.mp h
    unfold ins
    split
    · rename_i c
      refine List.pairwise_cons.mpr ⟨fun z hz => ?_, h⟩
      rcases List.mem_cons.mp hz with rfl | hz
      · exact O.asym _ _ c
      · exact O.tr x y z (O.asym _ _ c) (hy.1 z hz)
    · rename_i c
      refine List.pairwise_cons.mpr ⟨fun z hz => ?_, ins_srtd O x r hy.2⟩
      rcases List.mem_cons.mp ((ins_perm x r).mem_iff.mp hz) with rfl | hz
      · exact Bool.eq_false_iff.mpr c
      · exact hy.1 z hz
theorem filt_none {p : α → Bool} {l : List α} (h : ∀ x ∈ l, p x = false) : l.filter p = [] := List.filter_eq_nil_iff.mpr fun x hx z => by rw [h x hx] at z; cases z
/-- past what isn't above it, in a class of its own place -/
theorem ins_cls (O : Swo lt) (x z : α) : ∀ l : List α, Srtd lt l → (ins lt x l).filter (SrtO.eqv lt z) = l.filter (SrtO.eqv lt z) ++ [x].filter (SrtO.eqv lt z)
  | [], _ => rfl
  | y :: r, h => by
    have hy := List.pairwise_cons.mp h
    unfold ins
    split
    · rename_i c
      by_cases hx : SrtO.eqv lt z x = true
      · have e := SrtO.eqv_iff.mp hx
        have no : ∀ w ∈ y :: r, SrtO.eqv lt z w = false := fun w hw => by
          apply Bool.eq_false_iff.mpr
          intro q
          have q2 := SrtO.eqv_iff.mp q
          have xw : lt x w = true := by
            rcases List.mem_cons.mp hw with rfl | hw
            · exact c
            · exact O.ltle c (hy.1 w hw)
          have := O.tr w z x q2.1 e.2
          rw [xw] at this; cases this
        rw [List.filter_cons_of_pos hx, filt_none no, List.nil_append, List.filter_cons_of_pos hx]; rfl
      · rw [List.filter_cons_of_neg hx, List.filter_cons_of_neg (l := []) hx]
        simp
    · by_cases hyz : SrtO.eqv lt z y = true
      · rw [List.filter_cons_of_pos hyz, List.filter_cons_of_pos hyz, ins_cls O x z r hy.2]; rfl
      · rw [List.filter_cons_of_neg hyz, List.filter_cons_of_neg hyz, ins_cls O x z r hy.2]
theorem iSort_go (O : Swo lt) : ∀ (l acc : List α), Srtd lt acc → Srtd lt (l.foldl (fun acc x => ins lt x acc) acc) ∧ Stb lt (l.foldl (fun acc x => ins lt x acc) acc) (acc ++ l)
  | [], acc, h => ⟨h, Stb.of_eq (by rw [List.append_nil]; rfl)⟩
  | x :: l, acc, h => by
    obtain ⟨a, b⟩ := iSort_go O l (ins lt x acc) (ins_srtd O x acc h)
    refine ⟨a, b.trans ?_⟩
    have : Stb lt (ins lt x acc) (acc ++ [x]) := ⟨(ins_perm x acc).trans (List.perm_append_comm (l₁ := [x]) (l₂ := acc)), fun z => by rw [ins_cls O x z acc h, List.filter_append]⟩
    have e : acc ++ x :: l = (acc ++ [x]) ++ l := by rw [List.append_assoc]; rfl
    rw [e]
    exact this.app (Stb.refl l)
theorem iSort_ok (O : Swo lt) (l : List α) : Srtd lt (iSort lt l) ∧ Stb lt (iSort lt l) l := iSort_go O l [] List.Pairwise.nil
theorem srt_one (O : Swo lt) : ∀ (l m : List α), Srtd lt l → Srtd lt m → Stb lt l m → l = m
  | [], m, _, _, h => (List.perm_nil.mp h.perm.symm).symm
  | x :: l, [], _, _, h => absurd h.perm.length_eq (by simp)
  | x :: l, y :: m, hl, hm, h => by
    have hx := List.pairwise_cons.mp hl
    have hy := List.pairwise_cons.mp hm
    have yl : y ∈ x :: l := h.perm.mem_iff.mpr List.mem_cons_self
    have xm : x ∈ y :: m := h.perm.mem_iff.mp List.mem_cons_self
    have a : lt y x = false := by
      rcases List.mem_cons.mp yl with rfl | z
      · exact O.refl _
      · exact hx.1 y z
    have b : lt x y = false := by
      rcases List.mem_cons.mp xm with rfl | z
      · exact O.refl _
      · exact hy.1 x z
    have c := h.cls x
    rw [List.filter_cons_of_pos (SrtO.eqv_iff.mpr ⟨O.refl x, O.refl x⟩), List.filter_cons_of_pos (SrtO.eqv_iff.mpr ⟨b, a⟩)] at c
    have exy : x = y := (List.cons.inj c).1
    subst exy
    refine congrArg (x :: ·) (srt_one O l m hx.2 hy.2 ⟨List.Perm.cons_inv h.perm, fun z => ?_⟩)
    have d := h.cls z
    by_cases q : SrtO.eqv lt z x = true
    · rw [List.filter_cons_of_pos q, List.filter_cons_of_pos q] at d
      exact (List.cons.inj d).2
    · rw [List.filter_cons_of_neg q, List.filter_cons_of_neg q] at d
      exact d
theorem srt_iSort (O : Swo lt) {out l : List α} (a : Srtd lt out) (b : Stb lt out l) : out = iSort lt l := by
  obtain ⟨c, d⟩ := iSort_ok O l
  exact srt_one O _ _ a c (b.trans ⟨d.perm.symm, fun z => (d.cls z).symm⟩)
/-- lists side by side are sorted side by side -/
theorem ins_two {lt' : β → β → Bool} {R : α → β → Prop} (hR : ∀ a b a' b', R a b → R a' b' → lt a a' = lt' b b') {x : α} {y : β} (hx : R x y) : ∀ {l : List α} {m : List β}, Paired R l m → Paired R (ins lt x l) (ins lt' y m)
  | _, _, .nil => .cons hx .nil
  | _, _, .cons (a := a) (b := b) r t => by
    unfold ins
    rw [hR _ _ _ _ hx r]
    split
    · exact .cons hx (.cons r t)
    · exact .cons r (ins_two hR hx t)
theorem iSort_two {lt' : β → β → Bool} {R : α → β → Prop} (hR : ∀ a b a' b', R a b → R a' b' → lt a a' = lt' b b') {l : List α} {m : List β} (h : Paired R l m) : Paired R (iSort lt l) (iSort lt' m) := by
  have go : ∀ {l : List α} {m : List β}, Paired R l m → ∀ {acc : List α} {bcc : List β}, Paired R acc bcc → Paired R (l.foldl (fun acc x => ins lt x acc) acc) (m.foldl (fun acc x => ins lt' x acc) bcc) := by
    intro l m h
    induction h with
    | nil => exact fun h => h
    | cons r _ ih => exact fun h2 => ih (ins_two hR r h2)
  exact go h .nil
theorem ins_at (x : α) : ∀ (l : List α) (k : Nat), k ≤ l.length → (∀ j y, j < k → l[j]? = some y → lt x y = false) → (∀ y, l[k]? = some y → lt x y = true) → ins lt x l = l.take k ++ [x] ++ l.drop k
  | [], 0, _, _, _ => rfl
  | [], k + 1, h, _, _ => absurd h (by simp)
  | y :: r, 0, _, _, h => by
    unfold ins
    rw [if_pos (h y rfl)]; rfl
  | y :: r, k + 1, hk, h1, h2 => by
    unfold ins
    rw [if_neg (by rw [h1 0 y (Nat.succ_pos k) rfl]; decide), ins_at x r k (by simpa using hk) (fun j z hj e => h1 (j + 1) z (by omega) e) (fun z e => h2 z e)]
    rfl
theorem srtd_at (O : Swo lt) : ∀ {l : List α}, Srtd lt l → ∀ {i j : Nat} {x y : α}, i < j → l[i]? = some x → l[j]? = some y → lt y x = false
  | [], _, _, _, _, _, _, e, _ => by cases e
  | a :: r, h, 0, 0, _, _, hij, _, _ => absurd hij (by decide)
  | a :: r, h, 0, j + 1, x, y, _, e1, e2 => by
    cases e1
    exact (List.pairwise_cons.mp h).1 y (List.mem_of_getElem? e2)
  | a :: r, h, i + 1, 0, _, _, hij, _, _ => absurd hij (by omega)
  | a :: r, h, i + 1, j + 1, x, y, hij, e1, e2 => srtd_at O (List.pairwise_cons.mp h).2 (i := i) (j := j) (by omega) e1 e2
theorem iSort_succ {l : List α} {i : Nat} {x : α} (h : l[i]? = some x) : iSort lt (l.take (i + 1)) = ins lt x (iSort lt (l.take i)) := by
  unfold iSort
  rw [List.take_succ, h, List.foldl_append]; rfl
theorem ins_len (x : α) (l : List α) : (ins lt x l).length = l.length + 1 := by rw [(ins_perm x l).length_eq]; rfl
theorem iSort_len (l : List α) : (iSort lt l).length = l.length := by
  have go : ∀ (l acc : List α), (l.foldl (fun acc x => ins lt x acc) acc).length = acc.length + l.length := by
    intro l
    induction l with
    | nil => intro acc; rfl
    | cons x r ih => intro acc; rw [List.foldl_cons, ih, ins_len, List.length_cons]; omega
  have := go l []
  unfold iSort
  simpa using this
theorem iSort_mem {x : α} : ∀ {l : List α}, x ∈ iSort lt l ↔ x ∈ l := by
  have go : ∀ (l acc : List α), x ∈ l.foldl (fun acc x => ins lt x acc) acc ↔ x ∈ acc ∨ x ∈ l := by
    intro l
    induction l with
    | nil => intro acc; simp
    | cons y r ih =>
      intro acc
      rw [List.foldl_cons, ih, (ins_perm y acc).mem_iff, List.mem_cons, List.mem_cons]
      constructor
      · rintro ((h | h) | h)
        · exact .inr (.inl h)
        · exact .inl h
        · exact .inr (.inr h)
      · rintro (h | h | h)
        · exact .inl (.inr h)
        · exact .inl (.inl h)
        · exact .inr h
  intro l
  have := go l []
  unfold iSort
  rw [this]; simp
end
/-! ### sorted(xs, key=f), f any callable -/
set_option maxHeartbeats 8000000
section
open SrtO (Swo Srtd Stb lt2 swo2 SortableO)
open PySem.Builtin
/-- from s to s', as behind a call: what stood at s stands, but what is tracked -/
structure Gone (X : Cx) (H : Hp) (s : Shared) (H' : Hp) (s' : Shared) : Prop where
  os : s'.os = s.os
  bare : AllBare s'.gens
  un : Un (frs X.stack) [] H H' s.heap s'.heap
  hok : HOk X.prog X.w H' s'.heap
variable {X : Cx} {pins : List (Addr × Obj)} {σ : L2.St} {H H1 H2 : Hp} {s s1 s2 : Shared}
theorem Gone.refl (I : Inv X pins σ H s) : Gone X H s H s := ⟨rfl, I.bare, Un.refl, I.hok⟩
theorem Gone.inv (I : Inv X pins σ H s) (g : Gone X H s H1 s1) : Inv X pins σ H1 s1 := I.call' g.os g.un g.hok g.bare fun b z => absurd z (by simp)
theorem Gone.on (g : Gone X H s H1 s1) (g2 : Gone X H1 s1 H2 s2) : Gone X H s H2 s2 := ⟨g2.os.trans g.os, g2.bare, g.un.trans g2.un, g2.hok⟩
theorem un_poke {fs ex : List Addr} {h h1 h2 : Heap} {a : Addr} (u : Un fs ex H H1 h h1) (na : h.objs.size ≤ a) (k : ∀ b o, b ≠ a → h1.get? b = some o → h2.get? b = some o) : Un fs ex H H1 h h2 := by
  have ne : ∀ {b : Addr} {o : Obj}, h.get? b = some o → b ≠ a := fun e => Nat.ne_of_lt (Nat.lt_of_lt_of_le (Heap.lt_size e) na)
  exact ⟨fun b o e n f x => k b o (ne e) (u.keep b o e n f x), fun b o e n f x => let ⟨sl, z⟩ := u.slot b o e n f x; ⟨sl, k b _ (ne e) z⟩, u.free, fun b o e x => let ⟨o', z⟩ := u.there b o e x; ⟨o', k b _ (ne e) z⟩, u.tups, u.frzs, u.tbls⟩
theorem hok_poke {P : Program} {w : World} {h1 h2 : Heap} {a : Addr} (x : HOk P w H h1) (n : H a = none) (k : ∀ b o, b ≠ a → h1.get? b = some o → h2.get? b = some o) : HOk P w H h2 := fun b o e =>
  (x b o e).stay (fun c v hc q => k c v (fun z => by
    subst z
    rcases hc with rfl | hc
    · rw [n] at e; cases e
    · rw [n] at hc; cases hc) q) (fun _ q => q) fun _ _ q => q
theorem Gone.poke {a : Addr} {h2 : Heap} {t : Nat} (g : Gone X H s H1 s1) (na : s.heap.objs.size ≤ a) (n : H1 a = none) (k : ∀ b o, b ≠ a → s1.heap.get? b = some o → h2.get? b = some o) : Gone X H s H1 { s1 with heap := h2, toks := t } :=
  ⟨g.os, g.bare, un_poke g.un na k, hok_poke g.hok n k⟩
theorem Gone.kept {h2 : Heap} {t : Nat} (g : Gone X H s H1 s1) (k : ∀ b o, s1.heap.get? b = some o → h2.get? b = some o) : Gone X H s H1 { s1 with heap := h2, toks := t } :=
  ⟨g.os, g.bare, g.un.trans (Un.kept k), g.hok.kept k⟩
theorem nostk (I : Inv X pins σ H s) {a : Addr} (na : s.heap.objs.size ≤ a) : a ∉ frs X.stack := fun z => by
  rcases List.mem_cons.mp (I.stkSub a z) with e | e
  · exact absurd I.lt (by rw [← e]; exact Nat.not_lt.mpr na)
  · exact I.nofs na e
/-- a call of the key, and what stands apart from it -/
def Keyed1 (X : Cx) (A : Around) (q : Value) (v : Value) (H1 : Hp) (s1 : Shared) (R : Hp → Value → Prop) : Prop :=
  wpAny (model X.prog X.w) A (call q [v]) (fun u s2 => ∃ H2, Gone X H1 s1 H2 s2 ∧ R H2 u) (fun _ _ => False) s1
section
variable {a kS : Addr} {q : Value} {vs : List Value} {A : Around} {Pq : PySem.Fin → Shared → Prop} {E : Value → Shared → Prop} {R : Nat → Hp → List Value → Prop} {ltv : Value → Value → Bool}
theorem sk_tail {st : SortSt} {keys : List Value} {e e1 : Nat} (I : Inv X pins σ H s) (g : Gone X H s H1 s1) (na : s.heap.objs.size ≤ a) (nk : s.heap.objs.size ≤ kS) (n1 : H1 a = none) (n2 : H1 kS = none) (nak : kS ≠ a)
    (ea : s1.heap.get? a = some (seqObj "list" #[] e1)) (ek : s1.heap.get? kS = some (seqObj "list" keys.toArray e)) (hz : keys.length ≤ sizeLine) (ho : (arrOf st).size ≤ sizeLine) (hf : failedOf st = none)
    (fin : ∀ s2, Gone X H s H1 s2 → (∃ c, s2.heap.get? a = some (seqObj "list" ((arrOf st).toList.map (·.2)).toArray c)) → Pq (.done (.ret .none)) s2) : wpAny (model X.prog X.w) A (ksk_tail a false e1 (.ref kS) st) Pq E s1 := by
  have b1 := Heap.SameBut.update s1.heap kS (Obj.mapSeq fun _ => (#[] : Array Value))
  have a1 : (s1.heap.update kS (Obj.mapSeq fun _ => (#[] : Array Value))).get? a = some (seqObj "list" #[] e1) := (b1.2 a nak.symm).trans ea
  have b2 := Heap.SameBut.update (s1.heap.update kS (Obj.mapSeq fun _ => (#[] : Array Value))) a (Obj.mapSeq fun _ => (arrOf st).map (·.2))
  have g1 := g.poke (t := s1.toks) (h2 := s1.heap.update kS (Obj.mapSeq fun _ => (#[] : Array Value))) nk n2 fun b o nb z => (b1.2 b nb).trans z
  have g2 := g1.poke (t := s1.toks) (h2 := (s1.heap.update kS (Obj.mapSeq fun _ => (#[] : Array Value))).update a (Obj.mapSeq fun _ => (arrOf st).map (·.2))) na n1 fun b o nb z => (b2.2 b nb).trans z
  unfold ksk_tail
  try dsimp only
  refine wpAny_bind (listUpdate_at ek rfl ?_ (by rw [List.size_toArray]; exact hz) (Nat.zero_le _)); refine wpAny_bind (wpAny_letGo ?_); refine wpAny_bind (seqEpoch_at a1 rfl ?_)
  refine wpAny_bind (listUpdate_at a1 rfl ?_ (Nat.zero_le _) (Nat.le_succ_of_le (by rw [if_neg (by decide), Array.size_map]; exact ho)))
  rw [hf]; simp only [bne_self_eq_false, Bool.false_eq_true, if_false]
  obtain ⟨c2, e3⟩ : ∃ c, ((s1.heap.update kS (Obj.mapSeq fun _ => (#[] : Array Value))).update a (Obj.mapSeq fun _ => (arrOf st).map (·.2))).get? a = some (seqObj "list" ((arrOf st).map (·.2)) c) := ⟨_, get?_update_seq a1 fun _ => (arrOf st).map (·.2)⟩
  have e4 : (arrOf st).map (·.2) = ((arrOf st).toList.map (·.2)).toArray := by rw [← Array.toList_map, Array.toArray_toList]
  exact wpAny_pure (fin _ g2 ⟨c2, e3.trans (by rw [e4])⟩)
theorem sk_end {keys : List Value} {e e1 : Nat} (O : Swo ltv) (I : Inv X pins σ H s) (g : Gone X H s H1 s1) (na : s.heap.objs.size ≤ a) (nk : s.heap.objs.size ≤ kS) (n1 : H1 a = none) (n2 : H1 kS = none) (nak : kS ≠ a)
    (ea : s1.heap.get? a = some (seqObj "list" #[] e1)) (ek : s1.heap.get? kS = some (seqObj "list" keys.toArray e)) (hl : keys.length = vs.length) (hz : vs.length ≤ sizeLine) (hS : 2 ≤ keys.length → SortableO X.prog X.w A s1 a keys ltv)
    (fin : ∀ s2 (out : List Keyed), Srtd (lt2 ltv) out → Stb (lt2 ltv) out (keys.zip vs) → Gone X H s H1 s2 → (∃ c, s2.heap.get? a = some (seqObj "list" (out.map (·.2)).toArray c)) → Pq (.done (.ret .none)) s2) : wpAny (model X.prog X.w) A (ksk_end a false vs.toArray e1 (.ref kS) keys.toArray) Pq E s1 := by
  have zl : (keys.toArray.zip vs.toArray).toList = keys.zip vs := by simp [Array.toList_zip]
  have zs : (keys.toArray.zip vs.toArray).size = vs.length := by rw [Array.size_zip, List.size_toArray, List.size_toArray]; omega
  unfold ksk_end
  try dsimp only
  rw [if_neg (by decide)]
  have hsz : vs.toArray.size = vs.length := List.size_toArray ..
  by_cases h2 : vs.toArray.size < 2
  · rw [if_pos h2, if_pos h2]
    refine wpAny_bind (wpAny_pure ?_); rw [StateT.run_pure]; refine wpAny_bind (wpAny_pure ?_)
    try dsimp only
    have ez : arrOf (SortSt.mk' general' (keys.toArray.zip vs.toArray) #[] 7 none) = keys.toArray.zip vs.toArray := rfl
    refine sk_tail (st := SortSt.mk' general' (keys.toArray.zip vs.toArray) #[] 7 none) I g na nk n1 n2 nak ea ek (by omega) (by rw [ez, zs]; exact hz) rfl fun s2 g2 e2 => fin s2 (keys.zip vs) ?_ (Stb.refl _) g2 (by rw [ez, zl] at e2; exact e2)
    rw [hsz] at h2
    match hk : keys.zip vs with
    | [] => exact List.Pairwise.nil
    | [x] => exact List.pairwise_singleton _ _
    | x :: y :: r =>
      have := congrArg List.length hk
      rw [List.length_zip, hl, Nat.min_self, List.length_cons, List.length_cons] at this
      omega
  · rw [if_neg h2, if_neg h2]
    rw [hsz] at h2
    obtain ⟨κ, hk, hT⟩ := hS (by omega) s1.heap fun _ _ _ z => z
    refine wpAny_bind (hk _ _ ?_)
    have all : SrtO.AllL (fun p : Keyed => p.1 ∈ keys) (keys.toArray.zip vs.toArray).toList := fun p hm => by
      rw [zl] at hm
      exact (List.of_mem_zip hm).1
    refine wpAny_bind (wpAny_mono (SrtO.wpS_sortO (st0 := SortSt.mk' κ (keys.toArray.zip vs.toArray) #[] 7 none) (Q := fun _ st' => Srtd (lt2 ltv) (arrOf st').toList ∧ Stb (lt2 ltv) (arrOf st').toList (keys.toArray.zip vs.toArray).toList ∧ failedOf st' = none) (swo2 O) hT rfl all rfl rfl fun st' a1 a2 a3 => ⟨a1, a2, a3⟩) ?_ fun _ _ z => z)
    rintro ⟨⟨⟩, st'⟩ s' ⟨rfl, p1, p2, p3⟩
    try dsimp only
    rw [zl] at p2
    have hlen : (arrOf st').size = vs.length := by
      have := p2.len
      rw [Array.length_toList, List.length_zip, hl, Nat.min_self] at this; exact this
    exact sk_tail I g na nk n1 n2 nak ea ek (by omega) (by rw [hlen]; exact hz) p3 fun s2 g2 e2 => fin s2 _ p1 p2 g2 e2
/-- the keys are asked one by one, then the pairs are sorted -/
theorem sk_rest {e1 : Nat} {Z : (Value → Value → Bool) → List Value → Hp → Prop} (I : Inv X pins σ H s) (g : Gone X H s H1 s1) (na : s.heap.objs.size ≤ a) (nk : s.heap.objs.size ≤ kS) (n1 : H1 a = none) (n2 : H1 kS = none) (nak : kS ≠ a)
    (ea : s1.heap.get? a = some (seqObj "list" #[] e1)) (ek : s1.heap.get? kS = some (seqObj "list" #[] 0)) (hz : vs.length ≤ sizeLine) (R0 : R 0 H1 [])
    (turn : ∀ (j : Nat) (v : Value) (H2 : Hp) (s2 : Shared) (us : List Value), vs[j]? = some v → R j H2 us → Gone X H s H2 s2 → Keyed1 X A q v H2 s2 fun H3 u => R (j + 1) H3 (us ++ [u]))
    (hS : ∀ (H2 : Hp) (s2 : Shared) (us : List Value), R vs.length H2 us → Gone X H s H2 s2 → us.length = vs.length → H2 a = none → (∃ e, s2.heap.get? a = some (seqObj "list" #[] e)) → ∃ ltv, Swo ltv ∧ (2 ≤ us.length → SortableO X.prog X.w A s2 a us ltv) ∧ Z ltv us H2)
    (fin : ∀ (H2 : Hp) (s2 : Shared) (us : List Value) (out : List Keyed) (ltv : Value → Value → Bool), Z ltv us H2 → Swo ltv → R vs.length H2 us → us.length = vs.length → Srtd (lt2 ltv) out → Stb (lt2 ltv) out (us.zip vs) → Gone X H s H2 s2 → H2 a = none → (∃ c, s2.heap.get? a = some (seqObj "list" (out.map (·.2)).toArray c)) → Pq (.done (.ret .none)) s2) :
    wpAny (model X.prog X.w) A (ksk_rest a q false vs.toArray e1 (.ref kS)) Pq E s1 := by
  have na' := nostk I na
  have nk' := nostk I nk
  unfold ksk_rest
  refine wpAny_bind (wpAny_rule ?_)
  rw [List.forIn_toArray]
  refine wpAny_bind (ksk_fold (fun i s2 => ∃ (H2 : Hp) (us : List Value) (e : Nat), Gone X H s H2 s2 ∧ H2 a = none ∧ H2 kS = none ∧ s2.heap.get? a = some (seqObj "list" #[] e1) ∧ s2.heap.get? kS = some (seqObj "list" us.toArray e) ∧ us.length = i ∧ R i H2 us) vs 0 s1 ⟨H1, [], 0, g, n1, n2, ea, ek, rfl, R0⟩ ?step ?done)
  case step =>
    rintro j x s2 hx ⟨H2, us, e, g2, m1, m2, ea2, ek2, hl, hR⟩
    simp only [Nat.zero_add] at hl hR ⊢
    have hj : j < vs.length := (List.getElem?_eq_some_iff.mp hx).1
    refine wpAny_bind (wpAny_attempt (wpAny_mono (turn j x H2 s2 us hx hR g2) (fun u s3 he => ?_) fun _ _ z => z.elim))
    obtain ⟨H3, g23, hR3⟩ := he
    have g3 := g2.on g23
    have m3 := g23.un.free a _ ea2 m1 (by simp)
    have m4 := g23.un.free kS _ ek2 m2 (by simp)
    have ea3 := g23.un.keep a _ ea2 m1 na' (by simp)
    have ek3 := g23.un.keep kS _ ek2 m2 nk' (by simp)
    try dsimp only
    have b1 := Heap.SameBut.update s3.heap kS (Obj.mapSeq (·.push u))
    have g4 := g3.poke (t := s3.toks) (h2 := s3.heap.update kS (Obj.mapSeq (·.push u))) nk m4 fun b o nb z => (b1.2 b nb).trans z
    refine wpAny_bind (listUpdate_at ek3 rfl ?_ (by rw [List.size_toArray]; omega) (by rw [Array.size_push, List.size_toArray]; omega))
    obtain ⟨c5, e5⟩ : ∃ c, (s3.heap.update kS (Obj.mapSeq (·.push u))).get? kS = some (seqObj "list" (us.toArray.push u) c) := ⟨_, get?_update_seq ek3 (·.push u)⟩
    rw [List.push_toArray] at e5
    exact wpAny_pure ⟨rfl, H3, us ++ [u], c5, g4, m3, m4, (b1.2 a nak.symm).trans ea3, e5, by rw [List.length_append, hl]; rfl, hR3⟩
  case done =>
    rintro s2 ⟨H2, us, e, g2, m1, m2, ea2, ek2, hl, hR⟩
    rw [Nat.zero_add] at hl hR
    try dsimp only
    refine wpAny_bind (listItems_at ek2 rfl ?_)
    obtain ⟨ltv, O, hS2, hZ⟩ := hS H2 s2 us hR g2 hl m1 ⟨_, ea2⟩
    exact sk_end O I g2 na nk m1 m2 nak ea2 ek2 hl hz hS2 fun s3 out p1 p2 g3 e3 => fin H2 s3 us out ltv hZ O hR hl p1 p2 g3 m1 e3
/-- sorted(l, key=q) -/
theorem sk_sorted {l q : Addr} {Qq : Value → Shared → Prop} {Z : (Value → Value → Bool) → List Value → Hp → Prop} (I : Inv X pins σ H s) (hl : s.heap.IsList l vs.toArray) (hz : vs.length ≤ sizeLine) (R0 : R 0 H [])
    (turn : ∀ (j : Nat) (v : Value) (H2 : Hp) (s2 : Shared) (us : List Value), vs[j]? = some v → R j H2 us → Gone X H s H2 s2 → Keyed1 X X.A.in1.in1 (.ref q) v H2 s2 fun H3 u => R (j + 1) H3 (us ++ [u]))
    (hS : ∀ (H2 : Hp) (s2 : Shared) (a : Addr) (us : List Value), R vs.length H2 us → Gone X H s H2 s2 → us.length = vs.length → H2 a = none → (∃ e, s2.heap.get? a = some (seqObj "list" #[] e)) → ∃ ltv, Swo ltv ∧ (2 ≤ us.length → SortableO X.prog X.w X.A.in1.in1 s2 a us ltv) ∧ Z ltv us H2)
    (fin : ∀ (a : Addr) (H2 : Hp) (s2 : Shared) (us : List Value) (out : List Keyed) (ltv : Value → Value → Bool), Z ltv us H2 → Swo ltv → s.heap.objs.size ≤ a → R vs.length H2 us → us.length = vs.length → Srtd (lt2 ltv) out → Stb (lt2 ltv) out (us.zip vs) → Gone X H s H2 s2 → H2 a = none → (∃ c, s2.heap.get? a = some (seqObj "list" (out.map (·.2)).toArray c)) → Qq (.ref a) s2) :
    wpAny (model X.prog X.w) X.A (call (.builtin "sorted") [.ref l] [(Str.ofString "key", .ref q)]) Qq E s := by
  refine call_function_entry_kw kind_sorted plain_sorted entry_sorted (by unfold argsOk; kernel_rfl) ?_
  unfold Builtin.«sorted»
  refine wpAny_bind (m := checkCount "sorted" 1 1 _) (wpAny_pure (wpAny_bind (collect_list hl (wpAny_bind (wpAny_newList ?_ hz)) hz)))
  have sz : ((s.heap.push (seqObj "list" #[] 0)).update s.heap.objs.size (Obj.mapSeq (· ++ vs.toArray))).objs.size = s.heap.objs.size + 1 := by rw [Heap.size_update, size_push']
  generalize hh : (s.heap.push (seqObj "list" #[] 0)).update s.heap.objs.size (Obj.mapSeq (· ++ vs.toArray)) = hp at sz
  have k0 : ∀ b o, s.heap.get? b = some o → hp.get? b = some o := fun b o e => by
    have lt : b < s.heap.objs.size := Heap.lt_size e
    rw [← hh, Heap.get?_update_ne _ _ _ _ (Nat.ne_of_lt lt), Heap.get?_push_ne _ _ _ (Nat.ne_of_lt lt)]; exact e
  show wpAny _ _ _ _ _ { s with heap := hp.push (seqObj "list" vs.toArray 0) }
  rw [sz]
  have oA : (hp.push (seqObj "list" vs.toArray 0)).get? (s.heap.objs.size + 1) = some (seqObj "list" vs.toArray 0) := by rw [← sz]; exact Heap.get?_push_size _ rfl
  refine wpAny_bind (wpAny_holding (wpAny_call_entry_kw slot_list_sort ⟨_, oA, rfl⟩ entry_list_sort ?_ (ksk_l1 _ _)))
  rw [ksk_t1]
  have ba := Heap.SameBut.update (hp.push (seqObj "list" vs.toArray 0)) (s.heap.objs.size + 1) (Obj.mapSeq fun _ => (#[] : Array Value))
  obtain ⟨e1, oA1⟩ : ∃ e1, ((hp.push (seqObj "list" vs.toArray 0)).update (s.heap.objs.size + 1) (Obj.mapSeq fun _ => (#[] : Array Value))).get? (s.heap.objs.size + 1) = some (seqObj "list" #[] e1) := ⟨_, get?_update_seq oA fun _ => #[]⟩
  have sz2 : ((hp.push (seqObj "list" vs.toArray 0)).update (s.heap.objs.size + 1) (Obj.mapSeq fun _ => (#[] : Array Value))).objs.size = s.heap.objs.size + 2 := by rw [Heap.size_update, size_push', sz]
  have k1 : ∀ b o, s.heap.get? b = some o → ((hp.push (seqObj "list" vs.toArray 0)).update (s.heap.objs.size + 1) (Obj.mapSeq fun _ => (#[] : Array Value))).get? b = some o := fun b o e =>
    (ba.2 b (Nat.ne_of_lt (Nat.lt_succ_of_lt (Heap.lt_size e)))).trans (Heap.get?_push_of_some _ (k0 b o e))
  let hq := (hp.push (seqObj "list" vs.toArray 0)).update (s.heap.objs.size + 1) (Obj.mapSeq fun _ => (#[] : Array Value))
  have k2 : ∀ b o, s.heap.get? b = some o → ((hq.push (seqObj "tuple" vs.toArray 0)).push (seqObj "list" #[] 0)).get? b = some o := fun b o e => Heap.get?_push_of_some _ (Heap.get?_push_of_some _ (k1 b o e))
  have sz3 : (hq.push (seqObj "tuple" vs.toArray 0)).objs.size = s.heap.objs.size + 3 := by rw [size_push', sz2]
  have g0 : Gone X H s H { s with heap := (hq.push (seqObj "tuple" vs.toArray 0)).push (seqObj "list" #[] 0) } := (Gone.refl I).kept (t := s.toks) k2
  have eA : ((hq.push (seqObj "tuple" vs.toArray 0)).push (seqObj "list" #[] 0)).get? (s.heap.objs.size + 1) = some (seqObj "list" #[] e1) := Heap.get?_push_of_some _ (Heap.get?_push_of_some _ oA1)
  have eK : ((hq.push (seqObj "tuple" vs.toArray 0)).push (seqObj "list" #[] 0)).get? (s.heap.objs.size + 3) = some (seqObj "list" #[] 0) := by rw [← sz3]; exact Heap.get?_push_size _ rfl
  unfold ksk_tree
  refine wpAny_bind (listItems_at oA rfl (wpAny_bind (listUpdate_at oA rfl ?_ (by rw [List.size_toArray]; exact hz) (Nat.zero_le _))))
  refine wpAny_bind (seqEpoch_at oA1 rfl (wpAny_bind (wpAny_newTuple (wpAny_bind (wpAny_newList (wpAny_holding ?_) (Nat.zero_le _))) hz)))
  show wpAny _ _ (ksk_rest (s.heap.objs.size + 1) (.ref q) false vs.toArray e1 (.ref (hq.push (seqObj "tuple" vs.toArray 0)).objs.size)) _ _ { s with heap := (hq.push (seqObj "tuple" vs.toArray 0)).push (seqObj "list" #[] 0) }
  rw [sz3]
  refine sk_rest (Z := Z) I g0 (Nat.le_succ _) (Nat.le_add_right _ 3) (I.hok.fresh (Nat.le_succ _)) (I.hok.fresh (Nat.le_add_right _ 3)) (show s.heap.objs.size + 3 ≠ s.heap.objs.size + 1 by omega) eA eK hz R0 turn (fun H2 s2 us r g l1 n z => hS H2 s2 _ us r g l1 n z) fun H2 s2 us out ltv z o r l1 p1 p2 g n e => ⟨_, rfl, ?_⟩
  exact wpAny_pure ⟨_, rfl, fin _ H2 s2 us out ltv z o (Nat.le_succ _) r l1 p1 p2 g n e⟩
end
end
/-! ### sorted(xs, key=f) over the layer -/
section
open SrtO (Swo Srtd Stb lt2 swo2 SortableO)
variable {X : Cx} {pins : List (Addr × Obj)} {σ : L2.St} {H HJ : Hp} {s sJ : Shared}
/-- what has been made meanwhile is told to the ledger -/
theorem inv_track {a : Addr} {o : HO} (J : Inv X pins σ HJ sJ) (ge : sJ.heap.objs.size ≤ a) (I : Inv X pins σ H s) (na : H a = none) (ok : ObjOk X.prog X.w (upd H a o) s.heap a o) : Inv X pins σ (upd H a o) s := by
  have ne : ∀ {b : Addr} {o : Obj}, sJ.heap.get? b = some o → b ≠ a := fun e => Nat.ne_of_lt (Nat.lt_of_lt_of_le (Heap.lt_size e) ge)
  have n0 : ∀ {b : Addr} {o : Obj}, X.s_0.heap.get? b = some o → b ≠ a := fun e => Nat.ne_of_lt (Nat.lt_of_lt_of_le (Heap.lt_size e) (Nat.le_trans J.sz ge))
  have bs : Un X.fs X.ex X.H_0 (upd H a o) X.s_0.heap s.heap := {
    keep := I.base.keep
    slot := I.base.slot
    there := I.base.there
    free := fun b o e n q => by rw [upd_ne (n0 e)]; exact I.base.free b o e n q
    tups := fun b xs e => by
      have z := I.base.tups b xs e
      rw [upd_ne (ne_of_none z na)]; exact z
    frzs := fun b o u e => by
      have z := I.base.frzs b o u e
      rw [upd_ne (ne_of_none z na)]; exact z
    tbls := fun b ps e => by
      obtain ⟨m, z⟩ := I.base.tbls b ps e
      exact ⟨m, by rw [upd_ne (ne_of_none z na)]; exact z⟩ }
  have fr : X.env.locals ≠ a := by
    obtain ⟨m, ⟨o, es, ep, ho, _⟩, _⟩ := J.loc
    exact ne ho
  refine ⟨I.ok, I.os, I.bare, bs, I.loc, I.cell, by rw [upd_ne fr]; exact I.free, fun x c e => ?_, fun p hp => ?_, fun b o e => ?_, I.len⟩
  · obtain ⟨v, o, ho, _⟩ := J.cell x c e
    rw [upd_ne (ne ho)]; exact I.freeC x c e
  · obtain ⟨e, n, r⟩ := I.pin p hp
    exact ⟨e, by rw [upd_ne (ne (J.pin p hp).1)]; exact n, r⟩
  · by_cases hb : b = a
    · subst hb
      rw [upd_same] at e; cases e; exact ok
    · rw [upd_ne hb] at e
      exact (I.hok b o e).stay (fun c v _ q => q) (fun c q => by rw [upd_ne (ne_of_none q na)]; exact q) fun c xs q => by rw [upd_ne (ne_of_none q na)]; exact q
/-- keys: how they stand in the heap, and their order -/
structure KeyOk (X : Cx) {α : Type} (KR : Hp → V → α → Prop) (lt : α → α → Bool) : Prop where
  keep : ∀ {H H' : Hp} {v : V} {k : α}, KR H v k → Same H H' → KR H' v k
  sort : ∀ {pins : List (Addr × Obj)} {σ : L2.St} {H : Hp} {s : Shared} {A : Around} {b : Addr} {ys : List V} {us : List Value} {ks : List α}, Inv X pins σ H s → H b = none → (∃ e, s.heap.get? b = some (seqObj "list" #[] e)) → Paired (KR H) ys ks → Vals ys us →
    ∃ ltv, Swo ltv ∧ (2 ≤ us.length → SortableO X.prog X.w A s b us ltv) ∧ ∀ p ∈ us.zip ks, ∀ q ∈ us.zip ks, ltv p.1 q.1 = lt p.2 q.2
theorem paired_mono {α β : Type} {F G : α → β → Prop} (f : ∀ a b, F a b → G a b) : ∀ {l : List α} {m : List β}, Paired F l m → Paired G l m
  | _, _, .nil => .nil
  | _, _, .cons r t => .cons (f _ _ r) (paired_mono f t)
theorem paired_snoc {α β : Type} {F : α → β → Prop} {x : α} {y : β} (r : F x y) : ∀ {l : List α} {m : List β}, Paired F l m → Paired F (l ++ [x]) (m ++ [y])
  | _, _, .nil => .cons r .nil
  | _, _, .cons q t => .cons q (paired_snoc r t)
theorem paired_zip {α : Type} {xs : List V} {vs us : List Value} {ks : List α} (r : Vals xs vs) (l1 : us.length = vs.length) (l2 : ks.length = xs.length) : Paired (fun (p : Value × Value) (q : α × V) => (p.1, q.1) ∈ us.zip ks ∧ RelV q.2 p.2) (us.zip vs) (ks.zip xs) := by
  have go : ∀ (us0 : List Value) (ks0 : List α) (us : List Value) (ks : List α) (vs : List Value) (xs : List V), Vals xs vs → us.length = vs.length → ks.length = xs.length → (∀ p ∈ us.zip ks, p ∈ us0.zip ks0) → Paired (fun (p : Value × Value) (q : α × V) => (p.1, q.1) ∈ us0.zip ks0 ∧ RelV q.2 p.2) (us.zip vs) (ks.zip xs) := by
    intro us0 ks0 us
    induction us with
    | nil =>
      intro ks vs xs r l1 l2 _
      cases r with
      | nil => rw [List.zip_nil_right, List.zip_nil_right]; exact .nil
      | cons _ _ => cases l1
    | cons u us ih =>
      intro ks vs xs r l1 l2 hm
      cases r with
      | nil => cases l1
      | cons r1 r2 =>
        cases ks with
        | nil => cases l2
        | cons k ks => exact .cons ⟨hm _ List.mem_cons_self, r1⟩ (ih ks _ _ r2 (by simpa using l1) (by simpa using l2) fun p hp => hm p (List.mem_cons_of_mem _ hp))
  exact go us ks us ks vs xs r l1 l2 fun _ h => h
theorem vals_snd {α : Type} {P : Value × Value → α × V → Prop} : ∀ {l : List (Value × Value)} {m : List (α × V)}, Paired (fun p q => P p q ∧ RelV q.2 p.2) l m → Vals (m.map (·.2)) (l.map (·.2))
  | _, _, .nil => .nil
  | _, _, .cons r t => .cons r.2 (vals_snd t)
/-- the list by the keys ks -/
def byKeys {α : Type} (lt : α → α → Bool) (ks : List α) (xs : List V) : List V := (iSort (fun a b : α × V => lt a.1 b.1) (ks.zip xs)).map (·.2)
theorem key_sorted {α : Type} {KR : Hp → V → α → Prop} {lt : α → α → Bool} (KO : KeyOk X KR lt) {l q : Addr} {xs : List V} {ks : List α} {Q : VK} {E : Value → Shared → Prop} (I : Inv X pins σ H s) (hs : SqL X.K H l xs) (hk : ks.length = xs.length)
    (turn : ∀ (j : Nat) (x : V) (k : α) (H2 : Hp) (s2 : Shared) (u : Value), xs[j]? = some x → ks[j]? = some k → Gone X H s H2 s2 → Same H H2 → RelV x u →
      wpAny (model X.prog X.w) X.A.in1.in1 (call (.ref q) [u]) (fun r s3 => ∃ H3, Gone X H2 s2 H3 s3 ∧ Same H2 H3 ∧ ∃ y, RelV y r ∧ KR H3 y k) (fun _ _ => False) s2)
    (fin : ∀ H2 p, Same H H2 → H2 p = none → Q (.ref p) (upd H2 p (.lst (byKeys lt ks xs)))) :
    wpAny (model X.prog X.w) X.A (call (.builtin "sorted") [.ref l] [(Str.ofString "key", .ref q)]) (EP X pins σ Q) E s := by
  obtain ⟨vs, rv, hl, hz⟩ := I.list hs
  have lv := rv.length
  refine sk_sorted (Z := fun ltv us H2 => Swo ltv ∧ ∀ p ∈ us.zip ks, ∀ q ∈ us.zip ks, ltv p.1 q.1 = lt p.2 q.2) (R := fun j H2 us => Same H H2 ∧ ∃ ys, Vals ys us ∧ Paired (KR H2) ys (ks.take j)) I hl.isList (by omega) ⟨fun _ _ e => e, [], .nil, .nil⟩ ?_ ?_ ?_
  · rintro j v H2 s2 us hv ⟨s12, ys, ry, rk⟩ g
    have hj : j < vs.length := (List.getElem?_eq_some_iff.mp hv).1
    obtain ⟨x, hx⟩ : ∃ x, xs[j]? = some x := ⟨_, List.getElem?_eq_getElem (by omega)⟩
    obtain ⟨k, hkj⟩ : ∃ k, ks[j]? = some k := ⟨_, List.getElem?_eq_getElem (by omega)⟩
    obtain ⟨v', hv', rx⟩ := rv.get hx
    rw [hv] at hv'; cases hv'
    refine wpAny_mono (turn j x k H2 s2 v hx hkj g s12 rx) (fun r s3 h => ?_) fun _ _ z => z
    obtain ⟨H3, g3, s23, y, ry2, hK⟩ := h
    refine ⟨H3, g3, s12.trans s23, ys ++ [y], paired_snoc ry2 ry, ?_⟩
    rw [List.take_add_one, hkj]
    exact paired_snoc hK (paired_mono (fun a b z => KO.keep z s23) rk)
  · rintro H2 s2 a us ⟨s12, ys, ry, rk⟩ g l1 ha hb
    rw [List.take_of_length_le (by omega)] at rk
    have I2 := g.inv I
    obtain ⟨ltv, O, h1, h2⟩ := KO.sort (A := X.A.in1.in1) (b := a) I2 ha hb rk ry
    exact ⟨ltv, O, h1, O, h2⟩
  · rintro a H2 s2 us out ltv ⟨O, hag⟩ _ ha ⟨s12, ys, ry, rk⟩ l1 p1 p2 g n ⟨c, ec⟩
    have e : out = iSort (lt2 ltv) (us.zip vs) := srt_iSort (swo2 O) p1 p2
    have pz := paired_zip (us := us) (ks := ks) rv l1 hk
    have ps := iSort_two (lt := lt2 ltv) (lt' := fun a b : α × V => lt a.1 b.1) (fun a b a' b' h1 h2 => hag _ h1.1 _ h2.1) pz
    rw [← e] at ps
    have vz := vals_snd (P := fun p q => (p.1, q.1) ∈ us.zip ks) ps
    have zl : (byKeys lt ks xs).length ≤ sizeLine := by
      have h1 := vz.length
      have h2 := p2.len
      rw [List.length_map, List.length_map, h2, List.length_zip, l1, Nat.min_self] at h1
      show ((iSort _ _).map _).length ≤ _
      rw [List.length_map, h1]; omega
    have I2 := g.inv I
    exact ⟨.ref a, upd H2 a (.lst (byKeys lt ks xs)), inv_track I ha I2 n ⟨zl, _, c, vz, ec⟩, rfl, fin H2 a s12 n⟩
end
/-! ### keys: ints, texts, pairs of ints -/
section
open SrtO (Swo Srtd Stb lt2 swo2 SortableO ltIv swo_int ints_sortable iv)
variable {X : Cx}
def KI (_ : Hp) (v : V) (k : Int) : Prop := v = .int k
def ltI (a b : Int) : Bool := decide (a < b)
theorem ki_ints {H : Hp} : ∀ {ys : List V} {us : List Value} {ks : List Int}, Paired (KI H) ys ks → Vals ys us → IntsAre us ks
  | _, _, _, .nil, .nil => .nil
  | _, _, _, .cons e t, .cons r q => by
    cases e
    obtain ⟨z, rfl⟩ := r
    exact .cons _ _ (ki_ints t q)
theorem ints_agree : ∀ {us : List Value} {ks : List Int}, IntsAre us ks → ∀ p ∈ us.zip ks, iv p.1 = p.2
  | _, _, .nil, p, h => by cases h
  | _, _, .cons n t r, p, h => by
    rcases List.mem_cons.mp h with rfl | h
    · rfl
    · exact ints_agree r p h
theorem keyI : KeyOk X KI ltI := ⟨fun h _ => h, fun {pins σ H s A b ys us ks} I _ _ rk ry => by
  have hI := ki_ints rk ry
  refine ⟨ltIv, swo_int, fun h2 => ints_sortable hI h2, fun p hp q hq => ?_⟩
  show decide (iv p.1 < iv q.1) = decide (p.2 < q.2)
  rw [ints_agree hI p hp, ints_agree hI q hq]⟩
theorem swo_ltI : Swo ltI := ⟨fun x y h => decide_eq_false (by have := of_decide_eq_true h; omega), fun x y z h1 h2 => decide_eq_false (by have := of_decide_eq_false h1; have := of_decide_eq_false h2; omega)⟩
def KS (_ : Hp) (v : V) (k : Str) : Prop := v = .str k
def ltS (a b : Str) : Bool := decide (a.cps.toList < b.cps.toList)
def sv : Value → Str
  | .str x _ => x
  | _ => Str.empty
def ltSv (v u : Value) : Bool := ltS (sv v) (sv u)
theorem swo_ltS : Swo ltS := by
  refine ⟨fun x y h => ?_, fun x y z h1 h2 => ?_⟩
  · have a : x.cps.toList < y.cps.toList := of_decide_eq_true h
    exact decide_eq_false (fun b => absurd (List.lt_trans a b) (List.lt_irrefl _))
  · have a : ¬ y.cps.toList < x.cps.toList := of_decide_eq_false h1
    have b : ¬ z.cps.toList < y.cps.toList := of_decide_eq_false h2
    refine decide_eq_false (fun c => ?_)
    have a' := List.not_lt.mp a
    have b' := List.not_lt.mp b
    exact absurd c (List.not_lt.mpr (List.le_trans a' b'))
theorem ks_strs {H : Hp} : ∀ {ys : List V} {us : List Value} {ks : List Str}, Paired (KS H) ys ks → Vals ys us → StrsAre us ks
  | _, _, _, .nil, .nil => .nil
  | _, _, _, .cons e t, .cons r q => by
    cases e
    obtain ⟨z, rfl⟩ := r
    exact .cons _ _ (ks_strs t q)
theorem strs_agree : ∀ {us : List Value} {ks : List Str}, StrsAre us ks → ∀ p ∈ us.zip ks, ∃ t, p.1 = .str p.2 t
  | _, _, .nil, p, h => by cases h
  | _, _, .cons n t r, p, h => by
    rcases List.mem_cons.mp h with rfl | h
    · exact ⟨_, rfl⟩
    · exact strs_agree r p h
theorem strs_mem : ∀ {us : List Value} {ks : List Str}, StrsAre us ks → ∀ u ∈ us, ∃ x t, u = .str x t
  | _, _, .nil, p, h => by cases h
  | _, _, .cons n t r, p, h => by
    rcases List.mem_cons.mp h with rfl | h
    · exact ⟨_, _, rfl⟩
    · exact strs_mem r p h
theorem keyS : KeyOk X KS ltS := ⟨fun h _ => h, fun {pins σ H s A b ys us ks} I _ _ rk ry => by
  have hS := ks_strs rk ry
  refine ⟨ltSv, ⟨fun x y => swo_ltS.asym _ _, fun x y z => swo_ltS.tr _ _ _⟩, fun h2 h' _ => ⟨oneType', fun Q E hq => ?_, fun p q hp hq => ?_⟩, fun p hp q hq => ?_⟩
  · match us, hS, h2 with
    | v1 :: v2 :: rest, hS, _ =>
      rw [keyKind_strs hS]
      exact wpAny_pure hq
    | [], _, h => exact absurd h (by decide)
    | [v], _, h => exact absurd h (by simp)
  · obtain ⟨x, t, e1⟩ := strs_mem hS _ hp
    obtain ⟨y, u, e2⟩ := strs_mem hS _ hq
    show wpAny _ A (keyLt' oneType' p.1 q.1) (fun r s' => s' = _ ∧ r = ltSv p.1 q.1) (fun _ _ => False) _
    rw [e1, e2, keyLt'_oneType]
    exact oneLt_str ⟨rfl, rfl⟩
  · obtain ⟨t, e1⟩ := strs_agree hS p hp
    obtain ⟨u, e2⟩ := strs_agree hS q hq
    rw [e1, e2]; rfl⟩
/-- a tuple of two ints -/
def KP (H : Hp) (v : V) (k : Int × Int) : Prop := ∃ t, v = .ref t ∧ H t = some (.tup [.int k.1, .int k.2])
theorem kp_pairs {P : Program} {w : World} {H : Hp} {h : Heap} (ok : HOk P w H h) : ∀ {ys : List V} {us : List Value} {ks : List (Int × Int)}, Paired (KP H) ys ks → Vals ys us → ∀ p ∈ us.zip ks, Srt.IsPair h p.1 p.2.1 p.2.2
  | _, _, _, .nil, .nil, p, hp => by cases hp
  | _, _, _, .cons (b := k) e t, .cons r q, p, hp => by
    rcases List.mem_cons.mp hp with rfl | hp
    · obtain ⟨a, rfl, ha⟩ := e
      cases r
      obtain ⟨_, its, rv, o, ho, hc, n, hd⟩ := ok a _ ha
      match its, rv, hd with
      | [u1, u2], .cons ⟨t1, e1⟩ (.cons ⟨t2, e2⟩ .nil), hd =>
        subst e1 e2
        exact ⟨a, o, t1, t2, n, rfl, ho, hc, hd⟩
    · exact kp_pairs ok t q p hp
theorem isPair_one {h : Heap} {v : Value} {a b c d : Int} (x : Srt.IsPair h v a b) (y : Srt.IsPair h v c d) : a = c ∧ b = d := by
  obtain ⟨p, o, t, u, n, rfl, ho, _, hd⟩ := x
  obtain ⟨p', o', t', u', n', e, ho', _, hd'⟩ := y
  cases e
  rw [ho] at ho'
  cases ho'
  rw [hd] at hd'
  cases hd'
  exact ⟨rfl, rfl⟩
open Classical in
noncomputable def pairOf (h : Heap) (v : Value) : Int × Int := if z : ∃ k : Int × Int, Srt.IsPair h v k.1 k.2 then Classical.choose z else (0, 0)
theorem pairOf_eq {h : Heap} {v : Value} {k : Int × Int} (x : Srt.IsPair h v k.1 k.2) : pairOf h v = k := by
  have z : ∃ k : Int × Int, Srt.IsPair h v k.1 k.2 := ⟨k, x⟩
  unfold pairOf
  rw [dif_pos z]
  have := isPair_one (Classical.choose_spec z) x
  exact Prod.ext this.1 this.2
theorem keyP : KeyOk X KP SrtO.lexB := ⟨fun ⟨t, e, h⟩ s => ⟨t, e, s _ _ h⟩, fun {pins σ H s A b ys us ks} I _ ⟨e, hb⟩ rk ry => by
  have hp := kp_pairs I.hok rk ry
  have hm : ∀ u ∈ us, ∃ k, (u, k) ∈ us.zip ks := by
    have : us.length = ks.length := by rw [← ry.length]; exact Paired.length rk
    intro u hu
    obtain ⟨i, hi, rfl⟩ := List.getElem_of_mem hu
    exact ⟨ks[i]'(by omega), by
      have : (us.zip ks)[i]'(by rw [List.length_zip]; omega) = (us[i], ks[i]'(by omega)) := List.getElem_zip
      rw [← this]; exact List.getElem_mem _⟩
  refine ⟨fun v u => SrtO.lexB (pairOf s.heap v) (pairOf s.heap u), SrtO.swo_lex _, fun h2 => SrtO.pairs_sortableO (by omega) (fun v hv => ?_) (fun o ho => ?_), fun p hpz q hqz => ?_⟩
  · obtain ⟨k, hk⟩ := hm v hv
    rw [pairOf_eq (hp _ hk)]; exact hp _ hk
  · rw [hb] at ho; cases ho; exact fun z => absurd (Value.type.inj z) (by decide)
  · show SrtO.lexB (pairOf s.heap p.1) (pairOf s.heap q.1) = _
    rw [pairOf_eq (hp _ hpz), pairOf_eq (hp _ hqz)]⟩
end
/-! ### lambdas with parameters, told to the ledger -/
section
open LamX (CodeO TabS Tabs ExtN TabB inv_table among_app codeO_ne)
/-- at f: the function of a lambda without captured names, its code object at c -/
def LamO (f : Addr) (qual : Str) (params : Arguments) (body : Expr) (scope : Scope) (c : Addr) : HO := .ext fun h => ∃ pm ctv, h.get? f = some (PySem.W.kla_obj "<lambda>" qual params body scope [] pm c ctv)
variable {X : Cx} {pins : List (Addr × Obj)} {σ : L2.St} {H : Hp} {s : Shared}
theorem lamO_ok {P : Program} {w : World} {h : Heap} {f c : Addr} {qual : Str} {params : Arguments} {body : Expr} {scope : Scope} {pm ctv : Value} (e : h.get? f = some (PySem.W.kla_obj "<lambda>" qual params body scope [] pm c ctv)) : ObjOk P w H h f (LamO f qual params body scope c) :=
  ⟨⟨pm, ctv, e⟩, ⟨_, e⟩, fun h1 h2 ⟨a, b, z⟩ k => ⟨a, b, k _ z⟩⟩
theorem lamO_at {P : Program} {w : World} {h : Heap} {f c : Addr} {qual : Str} {params : Arguments} {body : Expr} {scope : Scope} (ok : HOk P w H h) (e : H f = some (LamO f qual params body scope c)) : ∃ pm ctv, h.get? f = some (PySem.W.kla_obj "<lambda>" qual params body scope [] pm c ctv) := by
  have x : ObjOk P w H h f (.ext fun h => ∃ pm ctv, h.get? f = some (PySem.W.kla_obj "<lambda>" qual params body scope [] pm c ctv)) := ok f _ e
  exact x.1
theorem codeO_at {P : Program} {w : World} {h : Heap} {c : Addr} {q : Str} (ok : HOk P w H h) (e : H c = some (CodeO c q)) : ∃ (oc : Obj) (vs : Array Value) (t : Tok), h.get? c = some oc ∧ oc.data = .fields vs ∧ vs[1]? = some (.str q t) := by
  have x : ObjOk P w H h c (.ext fun h => ∃ (oc : Obj) (vs : Array Value) (t : Tok), h.get? c = some oc ∧ oc.data = .fields vs ∧ vs[1]? = some (.str q t)) := ok c _ e
  exact x.1
theorem lamO_ne {f c : Addr} {qual : Str} {params : Arguments} {body : Expr} {scope : Scope} (ps : Array Value) : LamO f qual params body scope c ≠ .tbl ps := fun z => by
  unfold LamO at z
  cases z
/-- the tables, over a heap in which nothing of them changes but P's own -/
theorem tabs_snoc {T : List (Addr × Str)} {P c : Addr} {q : Str} {ps : Array Value} {pos : Pos} (hT : Tabs T H) (hu : ∀ p ∈ T, p.1 = P → p.2 = q) (hP : H P = some (.tbl ps)) (ht : TriplesOk ps.toList) (nc : H c = none)
    (old : ∀ (p : Pos) (cv : Value), codeAmong p ps.toList = some cv → ∃ c0, cv = .ref c0 ∧ H c0 = some (CodeO c0 q)) (E : ExtN H (upd (upd H P (.tbl (ps ++ #[rawInt pos.line, rawInt pos.col, .ref c]))) c (CodeO c q))) :
    Tabs T (upd (upd H P (.tbl (ps ++ #[rawInt pos.line, rawInt pos.col, .ref c]))) c (CodeO c q)) := by
  intro p hp
  have el : (ps ++ #[rawInt pos.line, rawInt pos.col, .ref c]).toList = ps.toList ++ [rawInt pos.line, rawInt pos.col, .ref c] := by simp
  by_cases hb : p.1 = P
  · rw [hu p hp hb, hb]
    refine ⟨_, by rw [upd_ne (ne_of_none hP nc), upd_same], by rw [el]; exact PySem.TriplesOk_snoc _ _ _ _ ht, fun p' cv h => ?_⟩
    rw [el] at h
    rcases among_app _ ht h with z | z
    · obtain ⟨c0, e1, e2⟩ := old p' cv z
      exact ⟨c0, e1, E _ _ e2 codeO_ne⟩
    · exact ⟨c, z, upd_same⟩
  · obtain ⟨ps', a1, a2, a3⟩ := hT p hp
    refine ⟨ps', by rw [upd_ne (ne_of_none a1 nc), upd_ne hb]; exact a1, a2, fun p' cv h => ?_⟩
    obtain ⟨c0, e1, e2⟩ := a3 p' cv h
    exact ⟨c0, e1, E _ _ e2 codeO_ne⟩
theorem extN_table {P c : Addr} {ps qs : Array Value} {o : HO} (hP : H P = some (.tbl ps)) (nc : H c = none) : ExtN H (upd (upd H P (.tbl qs)) c o) := fun b u e n => by
  rw [upd_ne (ne_of_none e nc), upd_ne (fun z => n ps (Option.some.inj (e.symm.trans (by rw [z]; exact hP))))]
  exact e
theorem extN_new {H1 : Hp} {f : Addr} {o : HO} (E : ExtN H H1) (n : H1 f = none) : ExtN H (upd H1 f o) := fun b u e q => by
  rw [upd_ne (ne_of_none (E b u e q) n)]; exact E b u e q
theorem tabs_new {T : List (Addr × Str)} {f : Addr} {o : HO} (hT : Tabs T H) (n : H f = none) : Tabs T (upd H f o) := hT.ext fun b u e => by rw [upd_ne (ne_of_none e n)]; exact e
theorem upd_none {H : Hp} {p b : Addr} {o : HO} (h : upd H p o b = none) : H b = none := by
  by_cases c : b = p
  · subst c; rw [upd_same] at h; cases h
  · rw [upd_ne c] at h; exact h
theorem lam_make3 {T : List (Addr × Str)} {c P : Addr} {params : Arguments} {body : Expr} {scope : Scope} {pos : Pos} {E : Value → Shared → Prop} {Q : Value → Shared → Prop} (I : Inv X pins σ H s) (B : TabB X.base X.mg c P) (code : X.env.code = .ref c)
    (hm : (P, X.env.qual ++ "<lambda>") ∈ T) (hu : ∀ p ∈ T, p.1 = P → p.2 = X.env.qual ++ "<lambda>") (hT : Tabs T H) (hd : defaultsOf params X.env = ([], [])) (hcl : closureFor scope X.env = pure []) 
    (h : ∀ (f c' : Addr) (H1 : Hp) (s' : Shared), Inv X pins σ H1 s' → ExtN H H1 → Tabs T H1 → (∀ b, H1 b = none → H b = none) → H1 f = some (LamO f (X.env.qual ++ "<lambda>") params body scope c') → H1 c' = some (CodeO c' (X.env.qual ++ "<lambda>")) → Q (.ref f) s') :
    wpAny (model X.prog X.w) X.A (eval (.Lambda params body scope pos) X.env) Q E s := by
  obtain ⟨ps, hP, ht, ha⟩ := hT _ hm
  refine PySem.W.kla_eval hd ?_
  have bP : s.heap.BuiltinsAt X.mg P := B.bm.keeps I.bk
  have oP : s.heap.get? P = some { cls := .none, data := .fields ps } := I.hok P _ hP
  cases hc : codeAmong pos ps.toList with
  | some cv =>
    obtain ⟨c', e, hco⟩ := ha pos cv hc
    subst e
    refine PySem.W.kla_makeFunctionHit (mg := X.mg) (c := c) (P := P) (ps := ps) hcl I.ok.glob (I.mod.glob.keeps I.bk) code (B.code.keeps I.bk) oP ht hc bP fun ctv h' tk hx hsz => ?_
    have I1 : Inv X pins σ H { s with heap := h', toks := tk } := I.kept hx
    have nf : H h'.objs.size = none := I.hok.fresh hsz
    have I2 := I1.laid (a := h'.objs.size) (o := LamO h'.objs.size (X.env.qual ++ "<lambda>") params body scope c') (t' := tk) (h' := h'.push (PySem.W.kla_obj "<lambda>" (X.env.qual ++ "<lambda>") params body scope [] ((X.mg "__name__").getD .none) c' ctv))
      (fun b o e => Heap.get?_push_of_some _ e) (Nat.le_refl _) (lamO_ok (Heap.get?_push_size _ rfl))
    exact h _ c' _ _ I2 (extN_new (ExtN.refl H) nf) (tabs_new hT nf) (fun b => upd_none) upd_same (by rw [upd_ne (ne_of_none hco nf)]; exact hco)
  | none =>
    refine PySem.W.kla_makeFunction (mg := X.mg) (c := c) (P := P) (ps := ps) hcl I.ok.glob (I.mod.glob.keeps I.bk) code (B.code.keeps I.bk) oP ht hc B.gP bP fun c' ctv h' tk hx hge hlt hrec htb => ?_
    obtain ⟨c2, oc, vs, t, e2, hoc, hd2, hv⟩ := hrec
    cases e2
    have nc : H c' = none := I.hok.fresh hge
    have ee := extN_table (qs := ps ++ #[rawInt pos.line, rawInt pos.col, .ref c']) (o := CodeO c' (X.env.qual ++ "<lambda>")) hP nc
    have t1 := tabs_snoc (pos := pos) hT hu hP ht nc ha ee
    have I1 := inv_table (t' := tk) (q := X.env.qual ++ "<lambda>") (more := #[rawInt pos.line, rawInt pos.col, .ref c']) (h' := h') I hP (fun b o hb e => hx b o hb e) htb hge ⟨oc, vs, t, hoc, hd2, hv⟩
    have hsz : s.heap.objs.size ≤ h'.objs.size := Nat.le_trans hge (Nat.le_of_lt hlt)
    have nf : (upd (upd H P (.tbl (ps ++ #[rawInt pos.line, rawInt pos.col, .ref c']))) c' (CodeO c' (X.env.qual ++ "<lambda>"))) h'.objs.size = none := by
      rw [upd_ne (Nat.ne_of_gt hlt), upd_ne (Nat.ne_of_gt (Nat.lt_of_lt_of_le (Heap.lt_size oP) hsz))]
      exact I.hok.fresh hsz
    have I2 := I1.laid (a := h'.objs.size) (o := LamO h'.objs.size (X.env.qual ++ "<lambda>") params body scope c') (t' := tk) (h' := h'.push (PySem.W.kla_obj "<lambda>" (X.env.qual ++ "<lambda>") params body scope [] ((X.mg "__name__").getD .none) c' ctv))
      (fun b o e => Heap.get?_push_of_some _ e) (Nat.le_refl _) (lamO_ok (Heap.get?_push_size _ rfl))
    exact h _ c' _ _ I2 (extN_new ee nf) (tabs_new t1 nf) (fun b z => upd_none (upd_none (upd_none z))) upd_same (by rw [upd_ne (ne_of_none upd_same nf)]; exact upd_same)
end
/-! ### the law's end, where defs make lambdas: their code objects' tables are told from the start -/
section
open LamX (TabB)
variable {P : Program} {w : World} {K : PySem.W.Frag} {mg mb : Str → Option Value} {k : Nat} {fa a : Addr} {fd : FuncData} {x : Str} {sp : Sp} {s₁ : Shared} {vs : List Value} {ns : List Int}
/-- tables alone, and the script -/
def OnlyT (ts : List Addr) (H : Hp) : Prop := ∀ b, H b = none ∨ (b ∈ ts ∧ H b = some (.tbl #[])) ∨ ∃ o xs, H b = some (.frz o (.lst xs))
theorem lawT0 {cs : List (Addr × Addr)} (KX : K.In s₁.heap) (g1 : s₁.heap.Ns mainGlobals mg) (g2 : s₁.heap.Ns builtinsNs mb) (g3 : ∀ x : Str, x ≠ "__name__" → mb x = bootBuiltins x) (g4 : s₁.heap.NoLimit) (g5 : s₁.gens = #[])
    (g6 : ∃ (bm : Addr) (ob : Obj), mg "__builtins__" = some (.ref bm) ∧ bm ≠ builtinsNs ∧ s₁.heap.get? bm = some ob ∧ ob.cls = .type "module" ∧ ob.dict = some builtinsNs ∧ ob.data = .plain)
    (hT : ∀ p ∈ cs, s₁.heap.get? p.2 = some { cls := .none, data := .fields #[] }) (hC : ∀ p ∈ cs, PySem.W.CodeHd s₁.heap p.1 p.2)
    (ha : s₁.heap.get? a = some { cls := .type "list", data := .seq vs.toArray }) (hr : Room k callerA)
    (F : ∀ base : Heap, K.In base → base.Ns mainGlobals mg → (∀ p ∈ cs, TabB base mg p.1 p.2) → FnOkG P w K mg base CX0 k fa fd [x] sp) (bd : ∀ (s : Shared) (u : Value), BindsTo s fd ⟨[u], []⟩ [(x, u)])
    (H : Hp) (hO : OnlyT (cs.map (·.2)) H) (want : sp [.ref a] H (fun v _ => v = .bl true) fun _ _ _ => False) (ok : HOk P w H s₁.heap) (hA : ∀ b, H b ≠ none → b = a ∨ b ∈ cs.map (·.2)) (hK : ∀ b, H b ≠ none → K.lookup b = none) :
    codeAny (model P w) callerA (.call (.ref fa) ⟨[.ref a], []⟩) (fun r s' => r = .ok (.ret (.bool true)) ∧ OldK s₁.heap s'.heap ∧ s'.os = s₁.os ∧ AllBare s'.gens) s₁ := by
  have tab : ∀ b, b ∈ cs.map (·.2) → ∃ p ∈ cs, p.2 = b ∧ s₁.heap.get? b = some { cls := .none, data := .fields #[] } := by
    intro b hb
    obtain ⟨p, hp, rfl⟩ := List.mem_map.mp hb
    exact ⟨p, hp, rfl, hT p hp⟩
  have free : ∀ {b : Addr} {o : Obj}, s₁.heap.get? b = some o → (∀ us n, o.data ≠ .seq us n) → o.data ≠ .fields #[] → H b = none := by
    intro b o e h1 h2
    apply Classical.byContradiction
    intro z
    rcases hA b z with rfl | hb
    · rw [ha] at e; cases e; exact h1 _ _ rfl
    · obtain ⟨_, _, _, e2⟩ := tab b hb
      rw [e2] at e; cases e; exact h2 rfl
  have nsK : ∀ {b : Addr} {m : Str → Option Value}, s₁.heap.Ns b m → (hidT s₁.heap H).Ns b m := by
    rintro b m ⟨o, es, ep, e, d, r⟩
    exact ⟨o, es, ep, hidT_get e (free e (fun _ _ z => by rw [d] at z; cases z) fun z => by rw [d] at z; cases z), d, r⟩
  have kb : K.In (hidT s₁.heap H) := by
    intro b o e
    refine hidT_get (KX b o e) (Classical.byContradiction fun z => ?_)
    rw [hK b z] at e; cases e
  have M : Mod K mg (hidT s₁.heap H) := by
    obtain ⟨mc, h1, h2⟩ := g4
    exact ⟨kb, nsK g1, ⟨mb, nsK g2, g3⟩, ⟨mc, nsK h1, h2⟩⟩
  have gne : ∀ p ∈ cs, mainGlobals ≠ p.2 := by
    intro p hp z
    obtain ⟨o, es, ep, e, d, _⟩ := g1
    rw [z, hT p hp] at e; cases e; cases d
  have B : ∀ p ∈ cs, TabB (hidT s₁.heap H) mg p.1 p.2 := by
    intro p hp
    refine ⟨?_, ?_, gne p hp⟩
    · obtain ⟨o, us, file, tf, flags, tg, inF, text, tt, e1, r1, r2, r3, r⟩ := hC p hp
      refine ⟨o, us, file, tf, flags, tg, inF, text, tt, hidT_get e1 (free e1 (fun _ _ z => by rw [r2] at z; cases z) fun z => ?_), r1, r2, r3, r⟩
      rw [r2] at z; cases z; simp at r3
    · obtain ⟨bm, ob, b1, b2, b3, b4, b5, b6⟩ := g6
      refine ⟨bm, ob, b1, b2, ?_, ?_, hidT_get b3 (free b3 (fun _ _ z => by rw [b6] at z; cases z) fun z => by rw [b6] at z; cases z), b4, b5, b6⟩
      · intro z
        obtain ⟨o, es, ep, e, d, _⟩ := g1
        rw [z, e] at b3; cases b3; rw [d] at b6; cases b6
      · intro z
        rw [z, hT p hp] at b3; cases b3; cases b6
  have e0 : Env0 P w K mg (hidT s₁.heap H) callerA [] s₁ H :=
    { frames := rfl, mod := M, bs := fun b o e => of_hidT e, bsz := Nat.le_of_eq (hidT_size _ _), funs := trivial, frf := fun b z => absurd (show b ∈ ([] : List Addr) from z) (by simp), hok := ok, bare := .of_eq g5 }
  have run := (F _ kb (nsK g1) B).goes callerA [] s₁ H ⟨[.ref a], []⟩ [.ref a] [.ref a] _ _ rfl hr e0 (bd s₁ (.ref a)) (.cons rfl .nil) want
  refine codeAny_mono run fun r s' h => ?_
  match r, h with
  | .error e, h => exact (show False from h).elim
  | .ok .next, h => exact (show False from h).elim
  | .ok .brk, h => exact (show False from h).elim
  | .ok .cont, h => exact (show False from h).elim
  | .ok (.ret u), ⟨v, H', os, bare, un, ok', rv, (qv : v = .bl true)⟩ =>
    cases qv
    cases (show u = Value.bool true from rv)
    have same : ∀ b o, H b = none → s₁.heap.get? b = some o → s'.heap.get? b = some o := fun b o q e => un.keep b o e q (fun z => absurd (show b ∈ ([] : List Addr) from z) (by simp)) (by simp)
    have key : ∀ b o, s₁.heap.get? b = some o → s'.heap.get? b = some o ∨ (b ∈ cs.map (·.2) ∧ ∃ more : Array Value, s'.heap.get? b = some { cls := .none, data := .fields more }) := by
      intro b o e
      rcases hO b with z | ⟨hb, z⟩ | ⟨ob, xs, z⟩
      · exact .inl (same b o z e)
      · obtain ⟨more, z2⟩ := un.tbls b _ z
        exact .inr ⟨hb, _, ok' b _ z2⟩
      · have f1 := (ok b _ z).1
        have f2 := (ok' b _ (un.frzs b ob _ z)).1
        rw [f1] at e; cases e
        exact .inl f2
    refine ⟨rfl, ⟨fun b o e => ?_, fun b o e => ?_⟩, os, bare⟩
    · rcases key b o e with z | ⟨hb, more, z⟩
      · exact .inl z
      · obtain ⟨p, hp, rfl, et⟩ := tab b hb
        rw [et] at e; cases e
        exact .inr (.inl ⟨((hC p hp).tab et).isCodeTable, rfl, #[], more, rfl, by rw [Array.empty_append]; exact z⟩)
    · rcases key b o e with z | ⟨_, more, z⟩
      · exact ⟨_, z⟩
      · exact ⟨_, z⟩
theorem lawT {cs : List (Addr × Addr)} (KX : K.In s₁.heap) (g1 : s₁.heap.Ns mainGlobals mg) (g2 : s₁.heap.Ns builtinsNs mb) (g3 : ∀ x : Str, x ≠ "__name__" → mb x = bootBuiltins x) (g4 : s₁.heap.NoLimit) (g5 : s₁.gens = #[])
    (g6 : ∃ (bm : Addr) (ob : Obj), mg "__builtins__" = some (.ref bm) ∧ bm ≠ builtinsNs ∧ s₁.heap.get? bm = some ob ∧ ob.cls = .type "module" ∧ ob.dict = some builtinsNs ∧ ob.data = .plain)
    (hT : ∀ p ∈ cs, s₁.heap.get? p.2 = some { cls := .none, data := .fields #[] }) (hC : ∀ p ∈ cs, PySem.W.CodeHd s₁.heap p.1 p.2) (nT : ∀ p ∈ cs, K.lookup p.2 = none)
    (ha : s₁.heap.get? a = some { cls := .type "list", data := .seq vs.toArray }) (hi : IntsAre vs ns) (hl : ns.length ≤ sizeLine) (hr : Room k callerA)
    (F : ∀ base : Heap, K.In base → base.Ns mainGlobals mg → (∀ p ∈ cs, TabB base mg p.1 p.2) → FnOkG P w K mg base CX0 k fa fd [x] sp) (bd : ∀ (s : Shared) (u : Value), BindsTo s fd ⟨[u], []⟩ [(x, u)])
    (want : ∀ H : Hp, (∀ p ∈ cs, H p.2 = some (.tbl #[])) → SqL K H a (ns.map V.int) → sp [.ref a] H (fun v _ => v = .bl true) fun _ _ _ => False) :
    codeAny (model P w) callerA (.call (.ref fa) ⟨[.ref a], []⟩) (fun r s' => r = .ok (.ret (.bool true)) ∧ OldK s₁.heap s'.heap ∧ s'.os = s₁.os ∧ AllBare s'.gens) s₁ := by
  have rv := vals_ints hi
  have tab : ∀ b, b ∈ cs.map (·.2) → s₁.heap.get? b = some { cls := .none, data := .fields #[] } ∧ K.lookup b = none := by
    intro b hb
    obtain ⟨p, hp, rfl⟩ := List.mem_map.mp hb
    exact ⟨hT p hp, nT p hp⟩
  have na : a ∉ cs.map (·.2) := fun z => by
    have := (tab a z).1
    rw [ha] at this
    cases this
  have tok : ∀ {H : Hp} {b : Addr}, b ∈ cs.map (·.2) → ObjOk P w H s₁.heap b (.tbl #[]) := fun hb => (tab _ hb).1
  by_cases hk : K.lookup a = none
  · let H : Hp := fun b => if b = a then some (.frz { cls := .type "list", data := .seq vs.toArray } (.lst (ns.map V.int))) else if b ∈ cs.map (·.2) then some (.tbl #[]) else none
    have Ha : H a = some (.frz { cls := .type "list", data := .seq vs.toArray } (.lst (ns.map V.int))) := if_pos rfl
    have Ht : ∀ b ∈ cs.map (·.2), H b = some (.tbl #[]) := fun b hb => (if_neg fun z => na (by rw [← z]; exact hb)).trans (if_pos hb)
    have Hn : ∀ b, b ≠ a → b ∉ cs.map (·.2) → H b = none := fun b n m => (if_neg n).trans (if_neg m)
    have hA : ∀ b, H b ≠ none → b = a ∨ b ∈ cs.map (·.2) := fun b z => Classical.byContradiction fun q => z (Hn b (fun y => q (.inl y)) fun y => q (.inr y))
    refine lawT0 KX g1 g2 g3 g4 g5 g6 hT hC ha hr F bd H (fun b => ?_) (want H (fun p hp => Ht _ (List.mem_map.mpr ⟨p, hp, rfl⟩)) (.inl (.inr ⟨_, Ha⟩))) (fun b u z => ?_) hA (fun b z => ?_)
    · by_cases e : b = a
      · exact .inr (.inr ⟨_, _, e ▸ Ha⟩)
      · by_cases m : b ∈ cs.map (·.2)
        · exact .inr (.inl ⟨m, Ht b m⟩)
        · exact .inl (Hn b e m)
    · rcases hA b (by rw [z]; intro y; cases y) with rfl | m
      · rw [Ha] at z; cases z
        exact ⟨ha, by rw [List.length_map]; exact hl, vs, _, rv, ha⟩
      · rw [Ht b m] at z; cases z
        exact tok m
    · rcases hA b z with rfl | m
      · exact hk
      · exact (tab b m).2
  · obtain ⟨o, ho⟩ := Option.ne_none_iff_exists'.mp hk
    have e := KX a o ho
    rw [ha] at e
    cases e
    let H : Hp := fun b => if b ∈ cs.map (·.2) then some (.tbl #[]) else none
    have Ht : ∀ b ∈ cs.map (·.2), H b = some (.tbl #[]) := fun b hb => if_pos hb
    have hA : ∀ b, H b ≠ none → b ∈ cs.map (·.2) := fun b z => Classical.byContradiction fun q => z (if_neg q)
    refine lawT0 KX g1 g2 g3 g4 g5 g6 hT hC ha hr F bd H (fun b => ?_) (want H (fun p hp => Ht _ (List.mem_map.mpr ⟨p, hp, rfl⟩)) (.inr ⟨_, vs.toArray, _, ho, rfl, rfl, rfl, by rw [List.size_toArray, hi.length]; exact hl, by simpa using rv⟩)) (fun b u z => ?_) (fun b z => .inr (hA b z)) fun b z => (tab b (hA b z)).2
    · by_cases m : b ∈ cs.map (·.2)
      · exact .inr (.inl ⟨m, Ht b m⟩)
      · exact .inl (if_neg m)
    · have m := hA b (by rw [z]; intro y; cases y)
      rw [Ht b m] at z; cases z
      exact tok m
end
/-- ts: the tables of all defs that make lambdas -/
theorem walkM {l : PySem.W.OpenLaw} {n k : Nat} {q : Program} {loose : List Str} {XP : (Str → Option Value) → Heap → Prop} {YP : World → Heap → Prop} {d : DefRec} {K : Params → PySem.W.Frag} {x : Str} {ts : List Addr}
    (hn : l.most = some n) (hn2 : n ≤ sizeLine) (hdf : d.params.defaults = []) (hr : Room k callerA) (hY : ∀ (w : World) (h : Heap), YP w h → (K w.params).In h) (hT : ∀ (w : World) (h : Heap), YP w h → ∀ P ∈ ts, h.get? P = some (tabObj #[]))
    (F : ∀ (w : World) (mg : Str → Option Value) (fa : Addr) (h : Heap), (K w.params).In h → h.Ns mainGlobals mg → mg d.name = some (.ref fa) →
      ∃ (fd : FuncData) (cs : List (Addr × Addr)) (sp : Sp), (∀ t ∈ cs, t.2 ∈ ts ∧ PySem.W.codeHdIn (K w.params) t.1 t.2 = true ∧ (K w.params).lookup t.2 = none) ∧ (∀ (s : Shared) (u : Value), BindsTo s fd ⟨[u], []⟩ [(x, u)]) ∧
        (∀ (H : Hp) (a : Addr) (ns : List Int), ns.length ≤ n → (∀ t ∈ cs, H t.2 = some (.tbl #[])) → SqL (K w.params) H a (ns.map V.int) → sp [.ref a] H (fun v _ => v = .bl true) fun _ _ _ => False) ∧
        ∀ base : Heap, (K w.params).In base → base.Ns mainGlobals mg → (∀ t ∈ cs, LamX.TabB base mg t.1 t.2) → FnOkG l.prog w (K w.params) mg base CX0 k fa fd [x] sp) :
    PySem.W.WalkO q loose XP YP l.row.toRowW d [] (fun f vs => PySem.call f vs) := by
  apply Att.attach_call hn hdf
  intro w s₀ s₁ mg mb fa o pm cd doc a vs ns G Y ho hd hcd hmg hobj hints hlen hg
  have KX := hY w _ Y
  obtain ⟨fd, cs, sp, hcs, bd, want, hF⟩ := F w mg fa _ KX G.T.g hmg
  exact lawT (cs := cs) KX G.T.g G.T.b G.T.builtins G.T.nolimit hg G.T.bmain (fun p hp => hT w _ Y _ (hcs p hp).1) (fun p hp => PySem.W.codeHd_of_K KX (hcs p hp).2.1) (fun p hp => (hcs p hp).2.2) hobj hints (Nat.le_trans hlen hn2) hr hF bd fun H hH hS => want H a ns hlen hH hS
/-! ### lambdas made and called; sorted by them -/
section
open LamX (CodeO TabS Tabs ExtN TabB)
variable {X : Cx}
def tLamE (TT : List (Addr × Str)) (qual : Str) (params : Arguments) (body : Expr) (scope : Scope) : TE := fun _ H Q => Tabs TT H ∧ ∀ f c H1, ExtN H H1 → Tabs TT H1 → (∀ b, H1 b = none → H b = none) → H1 f = some (LamO f qual params body scope c) → H1 c = some (CodeO c qual) → Q (.ref f) H1
theorem pe_lam3 {TT : List (Addr × Str)} {c P : Addr} {params : Arguments} {body : Expr} {scope : Scope} {pos : Pos} (B : TabB X.base X.mg c P) (code : X.env.code = .ref c) (hm : (P, X.env.qual ++ "<lambda>") ∈ TT) (hu : ∀ p ∈ TT, p.1 = P → p.2 = X.env.qual ++ "<lambda>")
    (hd : defaultsOf params X.env = ([], []) := by rfl) (hcl : closureFor scope X.env = pure [] := by rfl) : PE X (.Lambda params body scope pos) (tLamE TT (X.env.qual ++ "<lambda>") params body scope) := by
  refine ⟨fun pins s σ H Q I h => ?_⟩
  obtain ⟨hT, q⟩ := h
  exact lam_make3 I B code hm hu hT hd hcl fun f c' H1 s' I1 e1 t1 h0 h1 h2 => ⟨.ref f, H1, I1, rfl, q f c' H1 e1 t1 h0 h1 h2⟩
theorem CE.gone {H : Hp} {s s' : Shared} {Q : VK} {u : Value} (h : CE X.stack X.prog X.w H s Q u s') : ∃ v H', Gone X H s H' s' ∧ RelV v u ∧ Q v H' := by
  obtain ⟨v, H', os, bare, un, hok, r, q⟩ := h
  exact ⟨v, H', ⟨os, bare, un, hok⟩, r, q⟩
theorem inv_env1 {pins : List (Addr × Obj)} {σ : L2.St} {H : Hp} {s : Shared} (I : L2.Inv X pins σ H s) : Env0 X.prog X.w X.K X.mg X.base X.A.in1.in1 X.stack s H := { I.env0 with frames := I.env0.frames }
section
variable {pins : List (Addr × Obj)} {σ : L2.St} {H : Hp} {s : Shared} {f c : Addr} {qual : Str} {params : Arguments} {body : Expr} {scope : Scope} {N ps : List Str} {tb : TE} {k : Nat} {us : List Value} {vs : List V} {Q : VK}
theorem run_lam3 (I : L2.Inv X pins σ H s) (hf : H f = some (LamO f qual params body scope c)) (hc : H c = some (CodeO c qual)) (S : FnScope N ps scope)
    (bind : ∀ (us : List Value) (pm cv ctv : Value), us.length = ps.length → bindArgs (PySem.W.kla_fn "<lambda>" qual params body scope [] pm cv ctv) ⟨us, []⟩ = pure (ps.zip us)) (hr : Room (k + 1) X.A.in1.in1)
    (hb : ∀ (A : Around) (outer : List Env) (s : Shared) (H : Hp), Room k (A.deeper (envOfC qual scope s.heap.objs.size f (.ref c))) → PE (cxOf CX0 X.prog X.w X.K X.mg X.base N qual scope f (.ref c) A outer s H E0).nox body tb)
    (r : Vals vs us) (hl : vs.length = ps.length) (want : tb (L2.start N vs) H Q) : wpAny (model X.prog X.w) X.A.in1.in1 (call (.ref f) us) (fun u s' => CE X.stack X.prog X.w H s Q u s') (fun _ _ => False) s := by
  obtain ⟨pm, ctv, of⟩ := lamO_at I.hok hf
  obtain ⟨oc, cvs, t, hoc, hdc, hvc⟩ := codeO_at I.hok hc
  have env := (inv_env1 I)
  have lim : s.heap.NoLimit := I.nolimit
  have hul : us.length = ps.length := r.length.symm.trans hl
  have vis : ∀ y ∈ ps.zip us, scope.names.lookup y.1 = some .local ∨ (scope.names.lookup y.1 = some .cell ∧ ((cellsFrom (s.heap.objs.size + 1) scope.names []).lookup y.1).isSome = true) := by
    rintro ⟨n, v⟩ hy
    exact (S.par n (List.of_mem_zip hy).1).elim Or.inl fun z => Or.inr ⟨z, PySem.W.cellsFrom_some _ _ _ (Or.inl z)⟩
  refine wpAny_call (PySem.W.kla_callFunE hr.depth of rfl S.co S.gen rfl ⟨c, oc, cvs, t, rfl, hoc, hdc, hvc⟩ ?_)
  rw [bind us _ _ _ hul]
  refine wpAny_pure (wpAny_newFunctionEnv_cells S.kind vis fun env' he s1 x => ?_)
  cases he
  refine ⟨lim.keeps x.toInCall.keep, PySem.W.kla_codeExpr ?_⟩
  have J : L2.Inv (cxOf CX0 X.prog X.w X.K X.mg X.base N qual scope f (.ref c) X.A.in1.in1 X.stack s H E0) [] (L2.start N vs) H s1 := inv_start S hr.hd env hl r x
  refine wpAny_mono ((hb _ _ s H (hr.deeper _)).run [] s1 _ H Q (J.wish _) want) (fun u s' z => ?_) fun e s' z => z.elim
  obtain ⟨v, H', J', rv, q⟩ := z
  exact ⟨v, H', J'.os, J'.bare, J'.base, J'.hok, rv, q⟩
end
/-- sorted(l, key=lambda ..: ..) -/
def rSortL (K : PySem.W.Frag) {α : Type} (KR : Hp → V → α → Prop) (lt : α → α → Bool) (qual : Str) (params : Arguments) (body : Expr) (scope : Scope) (N : List Str) (tb : TE) : List V → List V → Hp → VK → Prop := fun vs zs H Q =>
  ∃ (l f c : Addr) (xs : List V) (ks : List α), vs = [.ref l] ∧ zs = [.ref f] ∧ H f = some (LamO f qual params body scope c) ∧ H c = some (CodeO c qual) ∧ SqL K H l xs ∧ ks.length = xs.length ∧
    (∀ (j : Nat) (x : V) (k : α) (H2 : Hp), xs[j]? = some x → ks[j]? = some k → Same H H2 → tb (L2.start N [x]) H2 fun y H3 => Same H2 H3 ∧ KR H3 y k) ∧
    ∀ H2 p, Same H H2 → H2 p = none → Q (.ref p) (upd H2 p (.lst (byKeys lt ks xs)))
theorem call_sortL {α : Type} {KR : Hp → V → α → Prop} {lt : α → α → Bool} (KO : KeyOk X KR lt) {qual : Str} {params : Arguments} {body : Expr} {scope : Scope} {N : List Str} {px : Str} {tb : TE} {k : Nat} (S : FnScope N [px] scope)
    (bind : ∀ (us : List Value) (pm cv ctv : Value), us.length = 1 → bindArgs (PySem.W.kla_fn "<lambda>" qual params body scope [] pm cv ctv) ⟨us, []⟩ = pure ([px].zip us)) (hr : Room (k + 3) X.A)
    (hb : ∀ (f c : Addr) (A : Around) (outer : List Env) (s : Shared) (H : Hp), Room k (A.deeper (envOfC qual scope s.heap.objs.size f (.ref c))) → PE (cxOf CX0 X.prog X.w X.K X.mg X.base N qual scope f (.ref c) A outer s H E0).nox body tb) :
    CallRK X (.builtin "sorted") ["key"] (rSortL X.K KR lt qual params body scope N tb) := by
  intro pins s σ H xs zs us ws Q I r rz h
  obtain ⟨l, f, c, ys, ks, rfl, rfl, hf, hc, hs, hk, turn, fin⟩ := h
  obtain ⟨ud, rfl, rd⟩ := Vals.one rz
  obtain rfl : ud = Value.ref f := rd
  rw [Vals.ref1 r]
  refine key_sorted KO I hs hk (fun j x ky H2 s2 u hx hky g s12 rx => ?_) fin
  have I2 := g.inv I
  refine wpAny_mono (run_lam3 (ps := [px]) (vs := [x]) (us := [u]) I2 (s12 _ _ hf) (s12 _ _ hc) S bind hr.in1.in1 (hb f c) (.cons rx .nil) rfl (turn j x ky H2 hx hky s12)) (fun v s3 z => ?_) fun _ _ z => z
  obtain ⟨y, H3, g3, ry, s23, hK⟩ := CE.gone z
  exact ⟨H3, g3, s23, y, ry, hK⟩
/-- sorted(l, key=f), f a def of the module -/
def rSortF (K : PySem.W.Frag) {α : Type} (KR : Hp → V → α → Prop) (lt : α → α → Bool) (f : Addr) (sp : Sp) : List V → List V → Hp → VK → Prop := fun vs zs H Q =>
  ∃ (l : Addr) (xs : List V) (ks : List α), vs = [.ref l] ∧ zs = [.ref f] ∧ SqL K H l xs ∧ ks.length = xs.length ∧
    (∀ (j : Nat) (x : V) (k : α) (H2 : Hp), xs[j]? = some x → ks[j]? = some k → Same H H2 → sp [x] H2 (fun y H3 => Same H2 H3 ∧ KR H3 y k) E0) ∧
    ∀ H2 p, Same H H2 → H2 p = none → Q (.ref p) (upd H2 p (.lst (byKeys lt ks xs)))
theorem call_sortF {α : Type} {KR : Hp → V → α → Prop} {lt : α → α → Bool} (KO : KeyOk X KR lt) {f : Addr} {fd : FuncData} {px : Str} {sp : Sp} {k : Nat} (F : FnOk X.prog X.w X.K X.mg X.base CX0 k f fd [px] sp) (hb : L2.Binds X.K fd [px] []) (hr : Room (k + 2) X.A) :
    CallRK X (.builtin "sorted") ["key"] (rSortF X.K KR lt f sp) := by
  intro pins s σ H xs zs us ws Q I r rz h
  obtain ⟨l, ys, ks, rfl, rfl, hs, hk, turn, fin⟩ := h
  obtain ⟨ud, rfl, rd⟩ := Vals.one rz
  obtain rfl : ud = Value.ref f := rd
  rw [Vals.ref1 r]
  refine key_sorted KO I hs hk (fun j x ky H2 s2 u hx hky g s12 rx => ?_) fin
  have I2 := g.inv I
  have bd := hb s2 [u] I2.kIn rfl
  rw [List.append_nil] at bd
  refine wpAny_call (codeAny_mono (F.run X.A.in1.in1 X.stack s2 H2 ⟨[u], []⟩ [u] [x] _ E0 hr.in1.in1 (inv_env1 I2) bd (.cons rx .nil) (turn j x ky H2 hx hky s12)) fun z s3 hz => ?_)
  match z, hz with
  | .error er, hz => exact (show False from hz).elim
  | .ok (.ret v), hz =>
    obtain ⟨y, H3, g3, ry, s23, hK⟩ := CE.gone hz
    exact ⟨H3, g3, s23, y, ry, hK⟩
  | .ok .next, hz => exact (show False from hz).elim
  | .ok .brk, hz => exact (show False from hz).elim
  | .ok .cont, hz => exact (show False from hz).elim
end
/-! ### calls by places and names, defaults -/
def nthL {α : Type} : List α → Nat → List α
  | [], _ => []
  | a :: _, 0 => [a]
  | _ :: l, n + 1 => nthL l n
def pickL {α : Type} (l : List α) : List Nat → List α
  | [] => []
  | i :: r => nthL l i ++ pickL l r
theorem nthL_vals : ∀ {vs : List V} {us : List Value} (i : Nat), Vals vs us → Vals (nthL vs i) (nthL us i)
  | _, _, _, .nil => .nil
  | _, _, 0, .cons r _ => .cons r .nil
  | _, _, i + 1, .cons _ t => nthL_vals i t
theorem pickL_vals {vs : List V} {us : List Value} (h : Vals vs us) : ∀ is : List Nat, Vals (pickL vs is) (pickL us is)
  | [] => .nil
  | i :: r => (nthL_vals i h).append (pickL_vals h r)
theorem kbD {K : PySem.W.Frag} {x qual : Str} {params : Arguments} {body : List Stmt} {scope : Scope} {dvs : List V} {kws : List (Str × V)} {f : Addr} {fd : FuncData} {ps : List Str} (F : FunD K x qual params body scope dvs kws f fd) (n : Nat) (ks : List Str) (is : List Nat) (hd : dvs ≠ [])
    (h : ∀ (T : Addr) (kV doc pm : Value) (an : Option Addr) (cdv ct : Value) (us its ws : List Value), us.length = n → its.length = dvs.length → ws.length = ks.length →
      ∃ k, bindArgs (PySem.W.fnOf x qual params body scope (.ref T) kV doc pm an cdv ct) ⟨us, ks.zip ws⟩ = seqItems? (.ref T) >>= k ∧ k (some its.toArray) = pure (ps.zip (pickL (us ++ its ++ ws) is))) :
    ∃ its : List Value, KBn K fd ps n ks (fun us ws => pickL (us ++ its ++ ws) is) (fun vs zs => pickL (vs ++ dvs ++ zs) is) :=
  FunD.kbindsD F n ks (fun us its ws => pickL (us ++ its ++ ws) is) hd (fun a b c => pickL_vals ((a.append b).append c) is) h
theorem kbF {K : PySem.W.Frag} {x qual : Str} {st : Stmt} {f : Addr} {fd : FuncData} {ps : List Str} (F : Fun K x qual st f fd) (n : Nat) (ks : List Str) (is : List Nat)
    (h : ∀ (kV doc pm : Value) (an : Option Addr) (cdv ct : Value) (us ws : List Value), us.length = n → ws.length = ks.length → bindArgs (PySem.W.fnOf x qual (defArgs st) (defBody st) (defScope st) .none kV doc pm an cdv ct) ⟨us, ks.zip ws⟩ = pure (ps.zip (pickL (us ++ ws) is))) :
    KBn K fd ps n ks (fun us ws => pickL (us ++ ws) is) (fun vs zs => pickL (vs ++ zs) is) := by
  obtain ⟨oc, od, kV, doc, pm, an, cdv, ct, osl, rfl, lk, hcd⟩ := F.ex
  exact ⟨fun s us ws _ h1 h2 => .of_eq (h kV doc pm an cdv ct us ws h1 h2), fun a b => pickL_vals (a.append b) is⟩
section
variable {X : Cx} {CX : CXT} {k : Nat} {f : Addr} {fd : FuncData} {ps ks : List Str} {sp : Sp} {E : XK} {x : Str} {p pos : Pos} {kws : List Keyword} {tk : TA} {g : List Value → List Value → List Value} {gV : List V → List V → List V}
/-- f(k = v, ..) -/
theorem pe_callN0 (F : FnOk X.prog X.w X.K X.mg X.base CX k f fd ps sp) (hr : Room k X.A) (hg : Gl X x) (hm : X.mg x = some (.ref f)) (hk : PySem.W.keepIn X.K (.ref f) = true) (hb : KBn X.K fd ps 0 ks g gV) (hx : Passes CX X E)
    (hkw : PK X kws tk) (hall : (backToKw pos (keywordEach kws X.env)).all (·.1.isSome) = true := by rfl) (hks : (backToKw pos (keywordEach kws X.env)).filterMap (·.1) = ks := by rfl)
    (hdb : (x == ("__debug__" : Str)) = false := by decide)
    (hpl : ((backTo pos (starEach [] X.env)).any (·.1) || (backToKw pos (keywordEach kws X.env)).any (·.1.isNone)) = false := by rfl) :
    PE X (.Call (.Name x p) [] kws pos) (tCallN 0 ks.length sp gV E tNil tk) := by
  refine ⟨fun pins s σ H Q I h => ?_⟩
  refine wpAny_Call_Name_kw (ld_glob I hg hm ?_ hdb)
  refine PySem.W.callWith_KW0 (h₀ := X.base) I.ok.mod.kin hk hall ?_ hpl
  refine thn (hkw.run pos pins s σ H _ I h) fun ws s2 ⟨zs, H2, I2, rz, _, l2, q2⟩ => ⟨I2.kIn, ?_⟩
  rw [hks]
  exact run_fnN F hr hb hx I2 .nil rz rfl l2 q2
end
/-! ### == and != of lists of own objects, whatever comes of it -/
set_option maxHeartbeats 8000000
section
open PySem.SeqAt GQ
open AutoSeq1 (wpAny_loadPart')
open MeetsSeq MeetsSeq2 MeetsSeq3 SeqRoads2
section
variable {prog : Program} {w : World} {A : Around} {R : Result → Shared → Prop}
/-- the lists at l and b are read anew at each turn, N items each; the first k are equal, and the k-th, where there is one, is not -/
def ListB (prog : Program) (w : World) (A : Around) (E : Value → Shared → Prop) (l b : Addr) (N k : Nat) (I : Nat → Shared → Prop) : Prop :=
  ∀ i s, I i s → ∃ (items items2 : Array Value) (n n2 : Nat), s.heap.get? l = some { cls := .type "list", data := .seq items n } ∧ s.heap.get? b = some { cls := .type "list", data := .seq items2 n2 } ∧ items.size = N ∧ items2.size = N ∧
    ∀ (h1 : i < items.size) (h2 : i < items2.size), i ≤ k → wpAny (model prog w) A.in1 (eqBool items[i] items2[i]) (fun r s' => r = decide (i < k) ∧ I (i + 1) s') E s
theorem b_loop (l b : Addr) (N k : Nat) (hk : k ≤ N) (I : Nat → Shared → Prop) (hl : ListB prog w A (fun e s' => R (.error e) s') l b N k I) (neg : Bool)
    (fin : ∀ i s, I i s → R (.ok (.ret (.bool (neg != decide (k = N))))) s) (m : Nat) :
    ∀ i : Nat, k - i = m → i ≤ k → ∀ s, I i s →
      wpAny (model prog w) A.in1 (Builtin.«list.__eq__.loop» ⟨[.ref l, .ref b, rawInt i, rawInt (if neg = true then 3 else 2)], []⟩) (FinOf prog w A R) (fun e s' => R (.error e) s') s := by
  induction m with
  | zero =>
    intro i hm hi s h
    obtain ⟨items, items2, n, n2, hl1, hb1, hs1, hs2, turn⟩ := hl _ _ h
    have hi' : i = k := by omega
    subst hi'
    by_cases c : i = N
    · have hR : R (.ok (.ret (.bool (neg != true)))) s := by have := fin _ s h; rw [decide_eq_true c] at this; exact this
      obtain ⟨hp, g, d, tk, os⟩ := s
      have hi1 : items[((i : Nat) : Int).toNat]? = none := by simp; omega
      have hi2 : items2[((i : Nat) : Int).toNat]? = none := by simp; omega
      cases neg with
      | true =>
        rw [if_pos rfl]
        wp_walk using wpAny_loadPart' hl1, wpAny_loadPart' hb1
        rw [hi1, hi2]
        wp_walk using wpAny_loadPart' hl1, wpAny_loadPart' hb1
        show R (.ok (.ret (.bool (items.size != items2.size)))) _
        rw [hs1, hs2]
        simpa using hR
      | false =>
        rw [if_neg (by decide)]
        wp_walk using wpAny_loadPart' hl1, wpAny_loadPart' hb1
        rw [hi1, hi2]
        wp_walk using wpAny_loadPart' hl1, wpAny_loadPart' hb1
        show R (.ok (.ret (.bool (items.size == items2.size)))) _
        rw [hs1, hs2]
        simpa using hR
    · have hlt : i < items.size := by omega
      have hlt2 : i < items2.size := by omega
      have ht := turn hlt hlt2 (Nat.le_refl _)
      rw [decide_eq_false (Nat.lt_irrefl i)] at ht
      have hi1 : items[((i : Nat) : Int).toNat]? = some items[i] := by simp [hlt]
      have hi2 : items2[((i : Nat) : Int).toNat]? = some items2[i] := by simp [hlt2]
      have after : ∀ s2, I (i + 1) s2 → ∃ (js js2 : Array Value) (n n2 : Nat) (x y : Value), s2.heap.get? l = some { cls := .type "list", data := .seq js n } ∧ s2.heap.get? b = some { cls := .type "list", data := .seq js2 n2 } ∧ js[((i : Nat) : Int).toNat]? = some x ∧ js2[((i : Nat) : Int).toNat]? = some y ∧ R (.ok (.ret (.bool (neg != false)))) s2 := by
        intro s2 h2
        obtain ⟨js, js2, n, n2, a1, a2, b1, b2, _⟩ := hl _ _ h2
        have hR := fin _ s2 h2
        rw [decide_eq_false c] at hR
        have z1 : i < js.size := by omega
        have z2 : i < js2.size := by omega
        exact ⟨js, js2, n, n2, js[i], js2[i], a1, a2, by simp [z1], by simp [z2], hR⟩
      obtain ⟨hp, g, d, tk, os⟩ := s
      cases neg with
      | true =>
        rw [if_pos rfl]
        wp_walk using wpAny_loadPart' hl1, wpAny_loadPart' hb1
        rw [hi1, hi2]
        refine wpAny_bind (wpAny_mono ht (fun r s2 h2 => ?_) fun _ _ x => x)
        obtain ⟨hr, h2⟩ := h2
        subst hr
        obtain ⟨js, js2, n, n2, x, y, a1, a2, e1, e2, hR⟩ := after _ h2
        obtain ⟨hp2, g2, d2, tk2, os2⟩ := s2
        wp_walk using wpAny_loadPart' a1, wpAny_loadPart' a2
        rw [e1, e2]
        wp_walk
        exact hR
      | false =>
        rw [if_neg (by decide)]
        wp_walk using wpAny_loadPart' hl1, wpAny_loadPart' hb1
        rw [hi1, hi2]
        refine wpAny_bind (wpAny_mono ht (fun r s2 h2 => ?_) fun _ _ x => x)
        obtain ⟨hr, h2⟩ := h2
        subst hr
        obtain ⟨js, js2, n, n2, x, y, a1, a2, e1, e2, hR⟩ := after _ h2
        obtain ⟨hp2, g2, d2, tk2, os2⟩ := s2
        wp_walk using wpAny_loadPart' a1, wpAny_loadPart' a2
        rw [e1, e2]
        wp_walk
        exact hR
  | succ m ih =>
    intro i hm hi s h
    obtain ⟨items, items2, n, n2, hl1, hb1, hs1, hs2, turn⟩ := hl _ _ h
    have hlt : i < items.size := by omega
    have hlt2 : i < items2.size := by omega
    have ht := turn hlt hlt2 hi
    rw [decide_eq_true (show i < k by omega)] at ht
    obtain ⟨hp, g, d, tk, os⟩ := s
    have hi1 : items[((i : Nat) : Int).toNat]? = some items[i] := by simp [hlt]
    have hi2 : items2[((i : Nat) : Int).toNat]? = some items2[i] := by simp [hlt2]
    have hc : ((i : Int) + 1) = ((i + 1 : Nat) : Int) := by omega
    cases neg with
    | true =>
      rw [if_pos rfl] at ih ⊢
      wp_walk using wpAny_loadPart' hl1, wpAny_loadPart' hb1
      rw [hi1, hi2]
      refine wpAny_bind (wpAny_mono ht (fun r s2 h2 => ?_) fun _ _ x => x)
      obtain ⟨hr, h2⟩ := h2
      subst hr
      have hrec := ih (i + 1) (by omega) (by omega) s2 h2
      obtain ⟨hp2, g2, d2, tk2, os2⟩ := s2
      wp_walk
      rw [hc]
      exact ⟨plainId_quiet plain_eq_loop _, codeAny_builtin entry_eq_loop (by
        rw [Around.under_plainId plain_eq_loop _]
        exact hrec)⟩
    | false =>
      rw [if_neg (by decide)] at ih ⊢
      wp_walk using wpAny_loadPart' hl1, wpAny_loadPart' hb1
      rw [hi1, hi2]
      refine wpAny_bind (wpAny_mono ht (fun r s2 h2 => ?_) fun _ _ x => x)
      obtain ⟨hr, h2⟩ := h2
      subst hr
      have hrec := ih (i + 1) (by omega) (by omega) s2 h2
      obtain ⟨hp2, g2, d2, tk2, os2⟩ := s2
      wp_walk
      rw [hc]
      exact ⟨plainId_quiet plain_eq_loop _, codeAny_builtin entry_eq_loop (by
        rw [Around.under_plainId plain_eq_loop _]
        exact hrec)⟩
end
section
variable {prog : Program} {w : World} {A : Around} {R : Result → Shared → Prop}
theorem list_eqB (neg : Bool) (l b : Addr) (N k : Nat) (hk : k ≤ N) (I : Nat → Shared → Prop) (hl : ListB prog w A (fun e s' => R (.error e) s') l b N k I)
    (fin : ∀ i s, I i s → R (.ok (.ret (.bool (neg != decide (k = N))))) s) {s : Shared} (h : I 0 s) :
    wpAny (model prog w) A.in1 ((if neg = true then Builtin.«list.__ne__» else Builtin.«list.__eq__») ⟨[.ref l, .ref b], []⟩) (FinOf prog w A R) (fun e s' => R (.error e) s') s := by
  obtain ⟨items, items2, n, n2, hl1, hb1, hs1, hs2, _⟩ := hl _ _ h
  have hrec := b_loop (A := A) (R := R) l b N k hk I hl neg fin _ 0 rfl (Nat.zero_le _) s h
  obtain ⟨hp, g, d, tk, os⟩ := s
  have f3 := AutoSeq1.sub_list_list
  have hne : ¬ (items.size != items2.size) = true := by simp [hs1, hs2]
  cases neg with
  | true =>
    rw [if_pos rfl] at hrec ⊢
    wp_walk using wpAny_loadPart' hl1, wpAny_loadPart' hb1
    exact ⟨plainId_quiet plain_eq_loop _, codeAny_builtin entry_eq_loop (by
      rw [Around.under_plainId plain_eq_loop _]
      exact hrec)⟩
  | false =>
    rw [if_neg (by decide)] at hrec ⊢
    wp_walk using wpAny_loadPart' hl1, wpAny_loadPart' hb1
    exact ⟨plainId_quiet plain_eq_loop _, codeAny_builtin entry_eq_loop (by
      rw [Around.under_plainId plain_eq_loop _]
      exact hrec)⟩
/-- lists of unlike lengths -/
theorem list_eqL (neg : Bool) (l b : Addr) {items items2 : Array Value} {n n2 : Nat} {s : Shared} (hl1 : s.heap.get? l = some { cls := .type "list", data := .seq items n }) (hb1 : s.heap.get? b = some { cls := .type "list", data := .seq items2 n2 }) (hne : (items.size != items2.size) = true)
    (fin : R (.ok (.ret (.bool neg))) s) :
    wpAny (model prog w) A.in1 ((if neg = true then Builtin.«list.__ne__» else Builtin.«list.__eq__») ⟨[.ref l, .ref b], []⟩) (FinOf prog w A R) (fun e s' => R (.error e) s') s := by
  obtain ⟨hp, g, d, tk, os⟩ := s
  have f3 := AutoSeq1.sub_list_list
  cases neg with
  | true =>
    rw [if_pos rfl]
    wp_walk using wpAny_loadPart' hl1, wpAny_loadPart' hb1
    exact fin
  | false =>
    rw [if_neg (by decide)]
    wp_walk using wpAny_loadPart' hl1, wpAny_loadPart' hb1
    exact fin
end
section
variable {prog : Program} {w : World} {A : Around} {E : Value → Shared → Prop} {s : Shared}
def opB (neg : Bool) : CmpOp := if neg = true then .NotEq else .Eq
theorem rc_listB (neg : Bool) {l b : Addr} {N k : Nat} {Q : Value → Shared → Prop} (hk : k ≤ N) (hu : A.units < cLine) (I : Nat → Shared → Prop) (hl : ListB prog w A E l b N k I)
    (fin : ∀ i s, I i s → Q (.bool (neg != decide (k = N))) s) (h : I 0 s) : wpAny (model prog w) A (richCompare (opB neg) (.ref l) (.ref b)) Q E s := by
  obtain ⟨items, items2, n, n2, hl1, hb1, _, _, _⟩ := hl _ _ h
  have z := list_eqB (prog := prog) (w := w) (A := A) (R := wants (fun v s' => v ≠ .notImplemented ∧ Q v s') E) neg l b N k hk I hl (fun i s' q => ⟨(fun x => nomatch x), fin i s' q⟩) h
  cases neg with
  | true => exact wpAny_richCompare_same_room (op := .NotEq) ⟨_, hl1, rfl⟩ ⟨_, hb1, rfl⟩ F.slot_list_ne (call_here F.slot_list_ne ⟨_, hl1, rfl⟩ F.entry_list_ne (F.args_list_ne_2 _ _) z) hu
  | false => exact wpAny_richCompare_same_room (op := .Eq) ⟨_, hl1, rfl⟩ ⟨_, hb1, rfl⟩ F.slot_list_eq (call_here F.slot_list_eq ⟨_, hl1, rfl⟩ F.entry_list_eq (F.args_list_eq_2 _ _) z) hu
theorem rc_listL (neg : Bool) {l b : Addr} {items items2 : Array Value} {n n2 : Nat} {Q : Value → Shared → Prop} (hu : A.units < cLine) (hl1 : s.heap.get? l = some { cls := .type "list", data := .seq items n }) (hb1 : s.heap.get? b = some { cls := .type "list", data := .seq items2 n2 }) (hne : (items.size != items2.size) = true)
    (fin : Q (.bool neg) s) : wpAny (model prog w) A (richCompare (opB neg) (.ref l) (.ref b)) Q E s := by
  have z := list_eqL (prog := prog) (w := w) (A := A) (R := wants (fun v s' => v ≠ .notImplemented ∧ Q v s') E) neg l b hl1 hb1 hne ⟨(fun x => nomatch x), fin⟩
  cases neg with
  | true => exact wpAny_richCompare_same_room (op := .NotEq) ⟨_, hl1, rfl⟩ ⟨_, hb1, rfl⟩ F.slot_list_ne (call_here F.slot_list_ne ⟨_, hl1, rfl⟩ F.entry_list_ne (F.args_list_ne_2 _ _) z) hu
  | false => exact wpAny_richCompare_same_room (op := .Eq) ⟨_, hl1, rfl⟩ ⟨_, hb1, rfl⟩ F.slot_list_eq (call_here F.slot_list_eq ⟨_, hl1, rfl⟩ F.entry_list_eq (F.args_list_eq_2 _ _) z) hu
end
end
section
open GQ
/-- how two values come out, by the abstract heap -/
abbrev EqvB := V → V → Bool → Hp → Prop
def MonB (D : EqvB) : Prop := ∀ x y b H H', Ext H H' → D x y b H → D x y b H'
def SelfB (D : EqvB) : Prop := ∀ x b H, D x x b H → b = true
def DqB (X : Cx) (n : Nat) (D : EqvB) : Prop :=
  ∀ (A : Around) (pins : List (Addr × Obj)) (s : Shared) (σ : L2.St) (H : Hp) (x y : V) (u v : Value) (b : Bool), Sub X n A → L2.Inv X pins σ H s → RelV x u → RelV y v → D x y b H →
    wpAny (model X.prog X.w) A (eqBool u v) (fun r s' => r = b ∧ ∃ H', L2.Inv X pins σ H' s' ∧ Ext H H') X.xe s
def DcB (X : Cx) (n : Nat) (op : CmpOp) (f : Bool → Bool) (D : EqvB) : Prop :=
  ∀ (A : Around) (pins : List (Addr × Obj)) (s : Shared) (σ : L2.St) (H : Hp) (x y : V) (u v : Value) (b : Bool), Sub X n A → L2.Inv X pins σ H s → RelV x u → RelV y v → D x y b H →
    wpAny (model X.prog X.w) A (richCompare op u v) (fun r s' => r = .bool (f b) ∧ ∃ H', L2.Inv X pins σ H' s' ∧ Ext H H') X.xe s
variable {X : Cx} {n m : Nat} {D D' : EqvB}
theorem DqB.mono (h : DqB X n D) (hn : n ≤ m) : DqB X m D := fun A pins s σ H x y u v b sb => h A pins s σ H x y u v b (sb.mono hn)
theorem DqB.or (h : DqB X n D) (h' : DqB X n D') : DqB X n (fun x y b H => D x y b H ∨ D' x y b H) := fun A pins s σ H x y u v b sb I rx ry d => by
  rcases d with d | d
  · exact h A pins s σ H x y u v b sb I rx ry d
  · exact h' A pins s σ H x y u v b sb I rx ry d
theorem DcB.dqB (h : DcB X n .Eq id D) (hr : ∀ x y b H, D x y b H → ∃ a c, x = .ref a ∧ y = .ref c) (hs : SelfB D) : DqB X n D := by
  intro A pins s σ H x y u v b sb I rx ry d
  obtain ⟨a, c, rfl, rfl⟩ := hr _ _ _ _ d
  cases rx
  cases ry
  by_cases hab : a = c
  · subst hab
    rw [hs _ _ _ d]
    exact SeqAt.EqAt.same (A := A) (s := s) (.ref a) X.prog X.w X.xe _ ⟨rfl, H, I, Ext.rfl'⟩
  · refine GQ.eqBool_refG hab (wpAny_mono (h A pins s σ H (.ref a) (.ref c) _ _ b sb I rfl rfl d) (fun r s' q => ?_) fun _ _ x => x)
    obtain ⟨hr', q⟩ := q
    exact ⟨b, hr', rfl, q⟩
/-- lists: of unlike lengths, or alike up to k, and unlike there -/
def PrsB (D : EqvB) (xs ys : List V) (b : Bool) (H : Hp) : Prop := (xs.length ≠ ys.length ∧ b = false) ∨
  (xs.length = ys.length ∧ ∃ k, k ≤ xs.length ∧ b = decide (k = xs.length) ∧ (∀ (i : Nat) x y, xs[i]? = some x → ys[i]? = some y → i ≤ k → D x y (decide (i < k)) H))
theorem PrsB.mon (hD : MonB D) {xs ys : List V} {b : Bool} {H H' : Hp} (e : Ext H H') (p : PrsB D xs ys b H) : PrsB D xs ys b H' := by
  rcases p with p | ⟨p, k, hk, hb, q⟩
  · exact .inl p
  · exact .inr ⟨p, k, hk, hb, fun i x y h1 h2 h3 => hD _ _ _ _ _ e (q i x y h1 h2 h3)⟩
def DListB (D : EqvB) : EqvB := fun x y b H => ∃ a c xs ys, x = .ref a ∧ y = .ref c ∧ H a = some (.lst xs) ∧ H c = some (.lst ys) ∧ PrsB D xs ys b H
theorem monB_list (hD : MonB D) : MonB (DListB D) := fun x y b H H' e d => by
  obtain ⟨a, c, xs, ys, hx, hy, h1, h2, p⟩ := d
  exact ⟨a, c, xs, ys, hx, hy, e _ _ h1, e _ _ h2, p.mon hD e⟩
theorem selfB_list (hs : SelfB D) : SelfB (DListB D) := fun x b H d => by
  obtain ⟨a, c, xs, ys, rfl, hy, h1, h2, p⟩ := d
  cases hy
  rw [h1] at h2
  cases h2
  rcases p with ⟨p, _⟩ | ⟨_, k, hk, hb, q⟩
  · exact absurd rfl p
  · rw [hb]
    by_cases c : k = xs.length
    · exact decide_eq_true c
    · have hlt : k < xs.length := by omega
      have := hs _ _ _ (q k _ _ (List.getElem?_eq_getElem hlt) (List.getElem?_eq_getElem hlt) (Nat.le_refl _))
      rw [decide_eq_false (Nat.lt_irrefl k)] at this
      cases this
theorem dcB_list (neg : Bool) (hD : MonB D) (h : DqB X n D) : DcB X (n + 1) (opB neg) (fun b => neg != b) (DListB D) := by
  intro A pins s σ H x y u v b sb I rx ry d
  obtain ⟨a, c, xs, ys, rfl, rfl, ha, hb, p⟩ := d
  cases rx
  cases ry
  rcases p with ⟨p, rfl⟩ | ⟨p, k, hk, rfl, q⟩
  · obtain ⟨z, its, k1, r, e⟩ := I.hok a _ ha
    obtain ⟨z2, its2, k2, r2, e2⟩ := I.hok c _ hb
    refine rc_listL neg sb.room.units0 e e2 ?_ ⟨by simp, H, I, Ext.rfl'⟩
    rw [List.size_toArray, List.size_toArray, ← r.length, ← r2.length]
    simpa using p
  · refine rc_listB neg (N := xs.length) (k := k) hk sb.room.units0 (fun _ s' => LoopI X pins σ H s') (fun i s' z => ?_) (fun i s' z => ⟨rfl, z⟩) ⟨H, I, Ext.rfl'⟩
    obtain ⟨H1, I1, e1⟩ := id z
    obtain ⟨z1, its, k1, r, e⟩ := I1.hok a _ (e1 _ _ ha)
    obtain ⟨z2, its2, k2, r2, e2⟩ := I1.hok c _ (e1 _ _ hb)
    refine ⟨its.toArray, its2.toArray, k1, k2, e, e2, by rw [List.size_toArray, ← r.length], by rw [List.size_toArray, ← r2.length, ← p], fun h1 h2 h3 => ?_⟩
    have g1 : its[i]? = some its.toArray[i] := by
      have h1' : i < its.length := by simpa using h1
      rw [List.getElem?_eq_getElem h1'] <;> simp
    have g2 : its2[i]? = some its2.toArray[i] := by
      have h2' : i < its2.length := by simpa using h2
      rw [List.getElem?_eq_getElem h2'] <;> simp
    have l1 : i < xs.length := by rw [r.length]; simpa using h1
    have l2 : i < ys.length := by rw [r2.length]; simpa using h2
    obtain ⟨u, hu, ru⟩ := r.get (List.getElem?_eq_getElem l1)
    obtain ⟨v, hv, rv⟩ := r2.get (List.getElem?_eq_getElem l2)
    rw [g1] at hu
    rw [g2] at hv
    rw [Option.some.inj hu, Option.some.inj hv]
    refine wpAny_mono (h A.in1 pins s' σ H1 _ _ u v _ sb.in1 I1 ru rv (hD _ _ _ _ _ e1 (q i _ _ (List.getElem?_eq_getElem l1) (List.getElem?_eq_getElem l2) h3))) (fun r s2 q => ?_) fun _ _ x => x
    obtain ⟨hr, H2, I2, e2⟩ := q
    exact ⟨hr, H2, I2, e1.trans e2⟩
theorem dqB_list (hD : MonB D) (hs : SelfB D) (h : DqB X n D) : DqB X (n + 1) (DListB D) := by
  have z := dcB_list false hD h
  refine DcB.dqB (D := DListB D) ?_ (fun _ _ _ _ d => let ⟨a, b, _, _, hx, hy, _⟩ := d; ⟨a, b, hx, hy⟩) (selfB_list hs)
  intro A pins s σ H x y u v b sb I rx ry d
  refine wpAny_mono (z A pins s σ H x y u v b sb I rx ry d) (fun r s' q => ?_) fun _ _ x => x
  obtain ⟨e, q⟩ := q
  refine ⟨e.trans ?_, q⟩
  cases b <;> rfl
/-- instances of the class at C with the text's own ==: what R says of the two -/
def DInsB (C : Addr) (R : Addr → Addr → Bool → Hp → Prop) : EqvB := fun x y b H => ∃ a c dx dy fs gs, x = .ref a ∧ y = .ref c ∧ H a = some (.ins C dx fs) ∧ H c = some (.ins C dy gs) ∧ R a c b H
theorem monB_ins {C : Addr} {R : Addr → Addr → Bool → Hp → Prop} (hR : ∀ a c b H H', Ext H H' → R a c b H → R a c b H') : MonB (DInsB C R) := fun x y b H H' e d => by
  obtain ⟨a, c, dx, dy, fs, gs, hx, hy, h1, h2, r⟩ := d
  exact ⟨a, c, dx, dy, fs, gs, hx, hy, e _ _ h1, e _ _ h2, hR a c b H H' e r⟩
/-- what the own == promises: sp tells, of two such, the truth b -/
theorem dcB_ins {CX : CXT} {C f : Addr} {fd : FuncData} {ps : List Str} {sp : Sp} {R : Addr → Addr → Bool → Hp → Prop} {E : XK} (F : FnOk X.prog X.w X.K X.mg X.base CX n f fd ps sp) (hsp : ∀ a c b H (Q : VK), R a c b H → (∀ H', Ext H H' → Q (.bl b) H') → sp [.ref a, .ref c] H Q E)
    (hs : PySem.W.findIn X.K (.ref C) "__eq__" = some (some (.ref f))) (hf : PySem.W.isFn X.K (.ref f) = true) (hb : L2.Binds X.K fd ps []) (hx : Passes CX X E) : DcB X n .Eq id (DInsB C R) := by
  intro A pins s σ H x y u v b sb I rx ry d
  obtain ⟨a, c, dx, dy, fs, gs, rfl, rfl, ha, hb', hr⟩ := d
  cases rx
  cases ry
  obtain ⟨mA, J, _⟩ := ins_get I.hok ha
  obtain ⟨mB, J', _⟩ := ins_get I.hok hb'
  obtain ⟨od, J, _⟩ := J.look
  obtain ⟨od', J', _⟩ := J'.look
  obtain ⟨m, hF⟩ := I.fr
  refine PySem.W.cmp_K (op := .Eq) (tb := .ref C) sb.room.units0 hF I.ok.mod.kin J J'.type (by simp [PySem.W.notFirst]) hs hf ?_
  have hsp2 : sp [.ref a, .ref c] H (fun v H' => v = .bl b ∧ Ext H H') E := hsp a c b H _ hr fun H' e => ⟨rfl, e⟩
  have e0 : Env0 X.prog X.w X.K X.mg X.base A X.stack s H := by
    have e := I.env0
    exact ⟨by rw [sb.fr]; exact e.frames, e.mod, e.bs, e.bsz, e.funs, e.frf, e.hok, e.bare⟩
  have hl := F.len _ _ _ _ hsp2
  have r2 : Vals [V.ref a, V.ref c] [Value.ref a, Value.ref c] := .cons rfl (.cons rfl .nil)
  refine wpAny_call (codeAny_mono (F.run A X.stack s H ⟨[.ref a, .ref c], []⟩ [.ref a, .ref c] [.ref a, .ref c] _ E sb.room e0 (by
    have := hb s [.ref a, .ref c] I.kIn (by simpa using hl)
    simpa using this) r2 hsp2) fun r s' hq => ?_)
  cases r with
  | error e => exact hx pins σ H s e s' I hq
  | ok fl =>
    cases fl with
    | ret w =>
      obtain ⟨z, H', I', rz, ez, ex⟩ := I.after hq
      subst ez
      cases rz
      exact ⟨rfl, H', I', ex⟩
    | next => exact False.elim hq
    | brk => exact False.elim hq
    | cont => exact False.elim hq
theorem dqB_ins {CX : CXT} {C f : Addr} {fd : FuncData} {ps : List Str} {sp : Sp} {R : Addr → Addr → Bool → Hp → Prop} {E : XK} (F : FnOk X.prog X.w X.K X.mg X.base CX n f fd ps sp) (hsp : ∀ a c b H (Q : VK), R a c b H → (∀ H', Ext H H' → Q (.bl b) H') → sp [.ref a, .ref c] H Q E)
    (hs : PySem.W.findIn X.K (.ref C) "__eq__" = some (some (.ref f))) (hf : PySem.W.isFn X.K (.ref f) = true) (hb : L2.Binds X.K fd ps []) (hx : Passes CX X E) (self : ∀ a b H, R a a b H → b = true) : DqB X n (DInsB C R) :=
  (dcB_ins F hsp hs hf hb hx).dqB (fun _ _ _ _ d => let ⟨a, b, _, _, _, _, hx, hy, _⟩ := d; ⟨a, b, hx, hy⟩) fun x b H d => by
    obtain ⟨a, c, _, _, _, _, rfl, hy, _, _, r⟩ := d
    cases hy
    exact self a b H r
/-- x == y, x != y as expressions -/
def rDqB (D : EqvB) (f : Bool → Bool) : R2 := fun x y H Q => ∃ b, D x y b H ∧ ∀ H', Ext H H' → Q (.bl (f b)) H'
theorem op_dqB (neg : Bool) (hD : MonB D) (h : DqB X n D) (hr : Room (n + 1) X.A) : OpR X (compareOp (opB neg)) (rDqB (DListB D) (fun b => neg != b)) := by
  intro pins s σ H x y v u Q I rx ry hq
  obtain ⟨b, d, q⟩ := hq
  have z := dcB_list neg hD h X.A pins s σ H x y v u b ⟨hr, rfl⟩ I rx ry d
  cases neg with
  | true =>
    show wpAny (model X.prog X.w) X.A (richCompare .NotEq v u) (EP X pins σ Q) X.xe s
    refine wpAny_mono z (fun r s' z => ?_) fun _ _ x => x
    obtain ⟨hr', H', I', e⟩ := z
    subst hr'
    exact ⟨.bl _, H', I', rfl, q H' e⟩
  | false =>
    show wpAny (model X.prog X.w) X.A (richCompare .Eq v u) (EP X pins σ Q) X.xe s
    refine wpAny_mono z (fun r s' z => ?_) fun _ _ x => x
    obtain ⟨hr', H', I', e⟩ := z
    subst hr'
    exact ⟨.bl _, H', I', rfl, q H' e⟩
end
/-! ### objects of an own class: their text, ==, !=, whatever stands at the right -/
section
variable {X : Cx} {CX : CXT} {C g : Addr} {n : Nat} {fd : FuncData} {ps : List Str} {sp : Sp} {E : XK}
/-- the callee runs, at whatever place below -/
theorem run_fnA {A : Around} {pins : List (Addr × Obj)} {σ : L2.St} {H : Hp} {s : Shared} {Q : VK} {us : List Value} {vs : List V} (F : FnOk X.prog X.w X.K X.mg X.base CX n g fd ps sp) (hr : Room n A) (e0 : A.frames = X.A.frames) (hb : L2.Binds X.K fd ps [])
    (hx : Passes CX X E) (I : L2.Inv X pins σ H s) (r : Vals vs us) (h : sp vs H Q E) : wpAny (model X.prog X.w) A (call (.ref g) us) (EP X pins σ Q) X.xe s := by
  have hl : (us ++ []).length = ps.length := by rw [List.append_nil, ← r.length]; exact F.len _ _ _ _ h
  have b := hb s us I.kIn hl
  rw [List.append_nil] at b
  have e := I.env0
  have e1 : Env0 X.prog X.w X.K X.mg X.base A X.stack s H := ⟨e0.trans e.frames, e.mod, e.bs, e.bsz, e.funs, e.frf, e.hok, e.bare⟩
  refine wpAny_call (codeAny_mono (F.run A X.stack s H ⟨us, []⟩ us vs Q E hr e1 b r h) fun r s' hq => ?_)
  cases r with
  | error e => exact hx pins σ H s e s' I hq
  | ok fl =>
    cases fl with
    | ret u => exact I.after hq
    | next => exact False.elim hq
    | brk => exact False.elim hq
    | cont => exact False.elim hq
theorem inst_of {pins : List (Addr × Obj)} {σ : L2.St} {H : Hp} {s : Shared} {a dx : Addr} {fs : List (Str × V)} (I : L2.Inv X pins σ H s) (h : H a = some (.ins C dx fs)) : ∃ od, PySem.W.InstAt s.heap a (instObj C dx) C (some od) := by
  obtain ⟨_, O1, _⟩ := ins_get I.hok h
  obtain ⟨od, J, _⟩ := O1.look
  exact ⟨od, J⟩
/-- one text comes back -/
def QStr (Q : VK) : VK := fun z H' => ∃ y : Str, z = .str y ∧ Q z H'
theorem strback {pins : List (Addr × Obj)} {σ : L2.St} {Q : VK} {v : Value} {s' : Shared} (h : EP X pins σ (QStr Q) v s') : StrBack (EP X pins σ Q) v s' := by
  obtain ⟨z, H', I', rz, y, rfl, q⟩ := h
  obtain ⟨t, rfl⟩ := (show ∃ t, v = Value.str y t from rz)
  exact ⟨.str y, H', I', ⟨t, rfl⟩, q⟩
def rOwn1 (C : Addr) (sp : Sp) (E : XK) (W : VK → VK) : List V → Hp → VK → Prop := fun xs H Q => ∃ a dx fs, xs = [V.ref a] ∧ H a = some (.ins C dx fs) ∧ sp [.ref a] H (W Q) E
/-- str(o), by o's own __str__ -/
theorem call_strOwn (hs : PySem.W.findIn X.K (.ref C) "__str__" = some (some (.ref g))) (hf : PySem.W.isFn X.K (.ref g) = true) (F : FnOk X.prog X.w X.K X.mg X.base CX n g fd ps sp) (hb : L2.Binds X.K fd ps [])
    (hr : Room (n + 2) X.A) (hx : Passes CX X E) : CallR X (.type "str") (rOwn1 C sp E QStr) := by
  intro pins s σ H vs us Q I r h
  obtain ⟨a, dx, fs, rfl, ha, q⟩ := h
  obtain ⟨u, rfl, ru⟩ := Vals.one r
  cases (show u = Value.ref a from ru)
  obtain ⟨od, J⟩ := inst_of I ha
  have hr2 : Room n X.A.in1.in1 := hr.in1.in1
  refine PySem.W.kso_call hr2.units0 I.kIn J hs hf ?_
  exact wpAny_mono (run_fnA (A := X.A.in1.in1) (us := [.ref a]) (vs := [.ref a]) F hr2 rfl hb hx I (.cons rfl .nil) q) (fun v s' z => strback z) fun _ _ x => x
/-- repr(o), by o's own __repr__ -/
theorem call_reprOwn (hs : PySem.W.findIn X.K (.ref C) "__repr__" = some (some (.ref g))) (hf : PySem.W.isFn X.K (.ref g) = true) (F : FnOk X.prog X.w X.K X.mg X.base CX n g fd ps sp) (hb : L2.Binds X.K fd ps [])
    (hr : Room (n + 1) X.A) (hx : Passes CX X E) : CallR X (.builtin "repr") (rOwn1 C sp E QStr) := by
  intro pins s σ H vs us Q I r h
  obtain ⟨a, dx, fs, rfl, ha, q⟩ := h
  obtain ⟨u, rfl, ru⟩ := Vals.one r
  cases (show u = Value.ref a from ru)
  obtain ⟨od, J⟩ := inst_of I ha
  have hr2 : Room n X.A.in1 := hr.in1
  obtain ⟨m, hF⟩ := I.fr
  refine PySem.W.repr_K hr2.units0 hF I.ok.mod.kin J hs hf ?_
  exact wpAny_mono (run_fnA (A := X.A.in1) (us := [.ref a]) (vs := [.ref a]) F hr2 rfl hb hx I (.cons rfl .nil) q) (fun v s' z => strback z) fun _ _ x => x
/-- o == y, by o's own __eq__, whatever y is -/
def rOwnY (K : PySem.W.Frag) (C : Addr) (sp : Sp) (E : XK) (W : VK → VK) : R2 := fun x y H Q => ∃ a dx fs t, x = .ref a ∧ H a = some (.ins C dx fs) ∧ TyX K H y t ∧ PySem.W.notFirst K C t = true ∧ sp [x, y] H (W Q) E
theorem op_eqY (hs : PySem.W.findIn X.K (.ref C) "__eq__" = some (some (.ref g))) (hf : PySem.W.isFn X.K (.ref g) = true) (F : FnOk X.prog X.w X.K X.mg X.base CX n g fd ps sp) (hb : L2.Binds X.K fd ps [])
    (hr : Room n X.A) (hx : Passes CX X E) : OpR X (compareOp .Eq) (rOwnY X.K C sp E id) := by
  intro pins s σ H x y v u Q I rx ry h
  obtain ⟨a, dx, fs, t, rfl, ha, ty, hn, q⟩ := h
  cases (show v = Value.ref a from rx)
  obtain ⟨od, J⟩ := inst_of I ha
  obtain ⟨P, Z, p, _⟩ := kit_of I ry ty
  obtain ⟨m, hF⟩ := I.fr
  show wpAny _ _ (richCompare .Eq _ _) _ _ _
  refine PySem.W.cmp_K (op := .Eq) (tb := t) hr.units0 hF I.ok.mod.kin J (Z.ty _ _ I.kIn p) hn hs hf ?_
  refine wpAny_mono (run_fnA (A := X.A) (us := [.ref a, u]) (vs := [.ref a, y]) F hr rfl hb hx I (.cons rfl (.cons ry .nil)) q) (fun w s' z => ?_) fun _ _ x => x
  obtain ⟨z', H', I', rz, qz⟩ := z
  exact SlX.cmpback rz ⟨z', H', I', rz, qz⟩
end
section
variable {prog : Program} {w : World} {A : Around} {E : Value → Shared → Prop} {s : Shared} {K : PySem.W.Frag} {x C f : Addr} {ox : Obj} {od : Option Obj} {b tb : Value}
open PySem.Builtin in
/-- a special method that is a built-in's, where it may be left unbound -/
theorem ifBoundB {name : Str} {id : String} {args : List Value} {Q : Option Value → Shared → Prop} (X : K.In s.heap) (I : PySem.W.InstAt s.heap x ox C od) (hs : PySem.W.findIn K (.ref C) name = some (some (.builtin id)))
    (hb : ∀ self, bindSpecial (.builtin id) self = pure (.builtin id, [self])) (h : wpAny (model prog w) A (call (.builtin id) (.ref x :: args)) (fun v => Q (some v)) E s) : wpAny (model prog w) A (callSpecialIfBound? (.ref x) name args) Q E s := by
  simp only [callSpecialIfBound?, bindSpecialIfBound?]
  refine wpAny_holding (wpAny_bind (wpAny_bind (wpAny_bind (I.type.here ((looks_findIn X hs).here ?_)))))
  refine wpAny_bind (wpAny_askSetting (wpAny_ite ?_))
  have fin : wpAny (model prog w) A (call (.builtin id) ([.ref x] ++ args) >>= fun v => pure (some v)) Q E s := wpAny_bind (wpAny_mono h (fun v s' h' => wpAny_pure h') fun _ _ h' => h')
  split
  · exact wpAny_bind ((Looks.of_pure (hb _)).here (wpAny_pure (by exact fin)))
  · exact wpAny_tryCatch (wpAny_bind ((Looks.of_pure (hb _)).here (wpAny_pure (by exact fin))))
open PySem.Builtin in
theorem objNe {Q : Value → Shared → Prop} (hu : A.in1.units < cLine) (X : K.In s.heap) (I : PySem.W.InstAt s.heap x ox C od) (hm : PySem.W.mroIn K C (.type "object") = some true) (hs : PySem.W.findIn K (.ref C) "__eq__" = some (some (.ref f))) (hf : PySem.W.isFn K (.ref f) = true)
    (h : wpAny (model prog w) A.in1 (call (.ref f) [.ref x, b]) (fun v s' => ∃ k, v = .bool k ∧ Q (.bool (!k)) s') E s) : wpAny (model prog w) A (call (.builtin "object.__ne__") [.ref x, b]) Q E s := by
  refine wpAny_call (codeAny_call_builtin (by decide +kernel) PySem.F.cmpEntry_ne (check_slot (i := "object.__ne__") (owner := "object") (n := "__ne__") (by decide +kernel) (by decide +kernel) (I.type.andThen (looks_mroIn X hm)) (PySem.F.cmpArgs_ne _ _) ?_))
  unfold Builtin.«object.__ne__»
  refine wpAny_bind (m := slotArgs "__ne__" 1 _) (wpAny_pure ?_)
  refine wpAny_bind (m := cRoomFor _ _) (wpAny_cRoomFor hu ?_)
  refine wpAny_bind (m := callSpecialIfBound? (.ref x) (Str.ofString "__eq__") _) (ifBound_K X I hs hf (wpAny_mono h (fun r s' hq => ?_) fun _ _ y => y))
  obtain ⟨k, rfl, hq⟩ := hq
  exact wpAny_bind (wpAny_truthy_bool (wpAny_pure hq))
/-- o != y, where the class says == alone -/
theorem ne_K {Q : Value → Shared → Prop} (hu : A.in1.units < cLine) (hu0 : A.units < cLine) (X : K.In s.heap) (I : PySem.W.InstAt s.heap x ox C od) (hb : Looks (model prog w) s.heap (typeOf b) tb) (hn : PySem.W.notFirst K C tb = true)
    (hm : PySem.W.mroIn K C (.type "object") = some true) (hne : PySem.W.findIn K (.ref C) "__ne__" = some (some (.builtin "object.__ne__"))) (hs : PySem.W.findIn K (.ref C) "__eq__" = some (some (.ref f))) (hf : PySem.W.isFn K (.ref f) = true)
    (h : wpAny (model prog w) A.in1 (call (.ref f) [.ref x, b]) (fun v s' => ∃ k, v = .bool k ∧ Q (.bool (!k)) s') E s) : wpAny (model prog w) A (richCompare .NotEq (.ref x) b) Q E s := by
  have one : wpAny (model prog w) A (tryCompare (.ref x) "__ne__" b) (fun r s' => ∃ v, r = some v ∧ Q v s') E s := by
    unfold tryCompare
    refine wpAny_bind (ifBoundB X I hne (by intro self; rfl) (objNe hu X I hm hs hf (wpAny_mono h (fun v s' hv => ?_) fun _ _ e => e)))
    obtain ⟨k, rfl, q⟩ := hv
    exact ⟨k, rfl, wpAny_pure ⟨_, rfl, q⟩⟩
  unfold richCompare
  simp only [oneThing_ref]
  refine wpAny_holding (wpAny_bind (wpAny_cRoomFor hu0 ?_))
  refine wpAny_bind (I.type.here (wpAny_bind (hb.here ?_)))
  split
  · rename_i q
    have e : PySem.W.subIn K tb (.ref C) = some false := by
      rcases Bool.or_eq_true_iff.mp hn with e | e
      · rw [beq_iff_eq.mp e] at q; simp at q
      · exact beq_iff_eq.mp e
    refine wpAny_bind ((looks_subIn X e).here ?_)
    simp only [Bool.false_eq_true, if_false]
    refine wpAny_bind (wpAny_mono one (fun r s' z => ?_) fun _ _ e => e)
    obtain ⟨v, rfl, hq⟩ := z
    exact wpAny_pure hq
  · refine wpAny_bind (wpAny_pure ?_)
    simp only [Bool.false_eq_true, if_false]
    refine wpAny_bind (wpAny_mono one (fun r s' z => ?_) fun _ _ e => e)
    obtain ⟨v, rfl, hq⟩ := z
    exact wpAny_pure hq
end
section
variable {X : Cx} {CX : CXT} {C g : Addr} {n : Nat} {fd : FuncData} {ps : List Str} {sp : Sp} {E : XK}
def QNot (Q : VK) : VK := fun z H' => ∃ k : Bool, z = .bl k ∧ Q (.bl (!k)) H'
theorem op_neY (hs : PySem.W.findIn X.K (.ref C) "__eq__" = some (some (.ref g))) (hf : PySem.W.isFn X.K (.ref g) = true) (hm : PySem.W.mroIn X.K C (.type "object") = some true) (hne : PySem.W.findIn X.K (.ref C) "__ne__" = some (some (.builtin "object.__ne__")))
    (F : FnOk X.prog X.w X.K X.mg X.base CX n g fd ps sp) (hb : L2.Binds X.K fd ps []) (hr : Room (n + 1) X.A) (hx : Passes CX X E) : OpR X (compareOp .NotEq) (rOwnY X.K C sp E QNot) := by
  intro pins s σ H x y v u Q I rx ry h
  obtain ⟨a, dx, fs, t, rfl, ha, ty, hn, q⟩ := h
  cases (show v = Value.ref a from rx)
  obtain ⟨od, J⟩ := inst_of I ha
  obtain ⟨P, Z, p, _⟩ := kit_of I ry ty
  show wpAny _ _ (richCompare .NotEq _ _) _ _ _
  have hr2 : Room n X.A.in1 := hr.in1
  refine ne_K (tb := t) hr2.units0 hr.units0 I.kIn J (Z.ty _ _ I.kIn p) hn hm hne hs hf ?_
  refine wpAny_mono (run_fnA (A := X.A.in1) (us := [.ref a, u]) (vs := [.ref a, y]) F hr2 rfl hb hx I (.cons rfl (.cons ry .nil)) q) (fun w s' z => ?_) fun _ _ x => x
  obtain ⟨z', H', I', rz, k, rfl, qz⟩ := z
  cases (show w = Value.bool k from rz)
  exact ⟨k, rfl, .bl (!k), H', I', rfl, qz⟩
end
/-! ### == with the object at the right: the left one's kind declines, the object's own is asked -/
section
variable {prog : Program} {w : World} {A : Around} {E : Value → Shared → Prop} {s : Shared} {K : PySem.W.Frag} {x C f : Addr} {dx : Addr} {od : Option Obj}
open PySem.Builtin
theorem int_decl (b : Int) (u : Tok) : Meets (Builtin.«int.__eq__» ⟨[.int b u, .ref x], []⟩) (fun _ R s => s.heap.get? x = some (instObj C dx) ∧ R (.ok (.ret .notImplemented)) s) :=
  .of_wp fun prog w A R s h => by obtain ⟨hp, g, d, tk, os⟩ := s; obtain ⟨hl, h⟩ := h; wp_walk using AutoSeq1.wpAny_loadPart' hl, wpAny_load hl; exact ⟨_, rfl, h⟩
theorem str_decl (b : Str) (u : Tok) : Meets (Builtin.«str.__eq__» ⟨[.str b u, .ref x], []⟩) (fun _ R s => s.heap.get? x = some (instObj C dx) ∧ R (.ok (.ret .notImplemented)) s) :=
  .of_wp fun prog w A R s h => by obtain ⟨hp, g, d, tk, os⟩ := s; obtain ⟨hl, h⟩ := h; wp_walk using AutoSeq1.wpAny_loadPart' hl, wpAny_load hl; exact ⟨_, rfl, h⟩
theorem none_decl : Meets (Builtin.«NoneType.__eq__» ⟨[.none, .ref x], []⟩) (fun _ R s => s.heap.get? x = some (instObj C dx) ∧ R (.ok (.ret .notImplemented)) s) :=
  .of_wp fun prog w A R s h => by obtain ⟨hp, g, d, tk, os⟩ := s; obtain ⟨hl, h⟩ := h; wp_walk; exact ⟨_, rfl, h⟩
theorem list_decl {l : Addr} {Q : Fin → Shared → Prop} (hi : Looks (model prog w) s.heap (isInstance (.ref x) (.type "list")) false) (h : Q (.done (.ret .notImplemented)) s) :
    wpAny (model prog w) A (Builtin.«list.__eq__» ⟨[.ref l, .ref x], []⟩) Q E s := by
  refine wpAny_bind (m := slotArgs "__eq__" 1 _) (wpAny_pure ?_)
  refine wpAny_bind (hi.here ?_)
  exact wpAny_pure h
theorem tuple_decl {l : Addr} {Q : Fin → Shared → Prop} (hi : Looks (model prog w) s.heap (isInstance (.ref x) (.type "tuple")) false) (h : Q (.done (.ret .notImplemented)) s) :
    wpAny (model prog w) A (Builtin.«tuple.__eq__» ⟨[.ref l, .ref x], []⟩) Q E s := by
  refine wpAny_bind (m := slotArgs "__eq__" 1 _) (wpAny_pure ?_)
  refine wpAny_bind (hi.here ?_)
  exact wpAny_pure h
/-- the left one declines -/
def Declines (prog : Program) (w : World) (A : Around) (E : Value → Shared → Prop) (a b : Value) (s : Shared) : Prop :=
  ∀ Q : Option Value → Shared → Prop, Q none s → wpAny (model prog w) A (tryCompare a "__eq__" b) Q E s
theorem decl_of {T id : String} {B : Builtin} {a b : Value} (hT : s.TypeIs a T) (slot : Slot T (cmpInfo .Eq).2.1 id) (entry : entryFor table id = some B) (args : argsOk id ⟨[a, b], []⟩)
    (h : ∀ Q : Fin → Shared → Prop, Q (.done (.ret .notImplemented)) s → wpAny (model prog w) A.in1 (B ⟨[a, b], []⟩) Q E s) : Declines prog w A E a b s := fun Q q =>
  wpAny_tryCompare_declines hT slot (GQ.call_here slot hT entry args (h _ ⟨rfl, q⟩))
theorem decl_ofM {T id : String} {B : Builtin} {a b : Value} {P : Shared → Prop} (hT : s.TypeIs a T) (slot : Slot T (cmpInfo .Eq).2.1 id) (entry : entryFor table id = some B) (args : argsOk id ⟨[a, b], []⟩)
    (m : Meets (B ⟨[a, b], []⟩) (fun _ R s => P s ∧ R (.ok (.ret .notImplemented)) s)) (hP : P s) : Declines prog w A E a b s := fun Q q =>
  wpAny_tryCompare_declines hT slot (GQ.call_here slot hT entry args (m prog w A (wants (fun v s' => v = .notImplemented ∧ Q none s') E) s ⟨hP, rfl, q⟩))
theorem refl_K {a ta : Value} {T : String} {Q : Value → Shared → Prop} (hu : A.units < cLine) (X : K.In s.heap) (I : PySem.W.InstAt s.heap x (instObj C dx) C od) (hT : s.TypeIs a T) (hsub : PySem.W.subIn K (.ref C) (.type T) = some false)
    (d : Declines prog w A E a (.ref x) s) (hs : PySem.W.findIn K (.ref C) "__eq__" = some (some (.ref f))) (hf : PySem.W.isFn K (.ref f) = true)
    (h : wpAny (model prog w) A (call (.ref f) [.ref x, a]) (PySem.W.CmpBack Q) E s) : wpAny (model prog w) A (richCompare .Eq a (.ref x)) Q E s := by
  have one : wpAny (model prog w) A (tryCompare (.ref x) "__eq__" a) (fun r s' => ∃ v, r = some v ∧ Q v s') E s := by
    unfold tryCompare
    refine wpAny_bind (ifBound_K X I hs hf (wpAny_mono h (fun v s' hv => ?_) fun _ _ e => e))
    cases v <;> first | exact hv.elim | exact wpAny_pure ⟨_, rfl, hv⟩
  simp only [richCompare, cmpInfo, hT.oneThing_none]
  try with_reducible refine wpAny_holding ?_
  refine wpAny_bind (wpAny_cRoomFor hu ?_)
  refine wpAny_bind (wpAny_typeOf hT (wpAny_bind (I.type.here ?_)))
  rw [show (Value.type T != Value.ref C) = true from rfl]
  simp only [if_true]
  refine wpAny_bind ((looks_subIn X hsub).here ?_)
  simp only [Bool.false_eq_true, if_false, Bool.not_false, if_true]
  refine wpAny_bind (m := tryCompare a _ _) (d _ ?_)
  refine wpAny_bind (m := tryCompare (.ref x) _ _) (wpAny_mono one (fun r s' z => ?_) fun _ _ e => e)
  obtain ⟨v, rfl, hq⟩ := z
  exact wpAny_pure hq
end
section
variable {prog : Program} {w : World} {A : Around} {E : Value → Shared → Prop} {s : Shared} {x : Addr}
open PySem.Builtin
theorem dict_decl {l : Addr} {Q : Fin → Shared → Prop} (hi : Looks (model prog w) s.heap (isInstance (.ref x) (.type "dict")) false) (h : Q (.done (.ret .notImplemented)) s) :
    wpAny (model prog w) A (Builtin.«dict.__eq__» ⟨[.ref l, .ref x], []⟩) Q E s := by
  refine wpAny_bind (m := Dict.dictSlotArgs "__eq__" _) (wpAny_pure ?_)
  refine wpAny_bind (hi.here ?_)
  exact wpAny_bind (wpAny_rule (wpAny_pure h))
end
section
variable {X : Cx} {CX : CXT} {C g : Addr} {n : Nat} {fd : FuncData} {ps : List Str} {sp : Sp} {E : XK}
/-- what may stand at the left of such an object -/
inductive LeftOk (H : Hp) : V → Prop where
  | non : LeftOk H .non
  | int (i : Int) : LeftOk H (.int i)
  | str (z : Str) : LeftOk H (.str z)
  | lst {p : Addr} {xs : List V} (h : H p = some (.lst xs)) : LeftOk H (.ref p)
  | tup {p : Addr} {xs : List V} (h : H p = some (.tup xs)) : LeftOk H (.ref p)
  | dK {p : Addr} {kvs : List (Key × V)} (h : H p = some (.dK kvs)) : LeftOk H (.ref p)
/-- the class is under none of Python's -/
structure NotSub (K : PySem.W.Frag) (C : Addr) : Prop where
  non : PySem.W.subIn K (.ref C) (.type "NoneType") = some false
  int : PySem.W.subIn K (.ref C) (.type "int") = some false
  str : PySem.W.subIn K (.ref C) (.type "str") = some false
  lst : PySem.W.subIn K (.ref C) (.type "list") = some false
  tup : PySem.W.subIn K (.ref C) (.type "tuple") = some false
  dct : PySem.W.subIn K (.ref C) (.type "dict") = some false
def rOwnR (C : Addr) (sp : Sp) (E : XK) : R2 := fun x y H Q => ∃ a dx fs, y = .ref a ∧ H a = some (.ins C dx fs) ∧ LeftOk H x ∧ sp [y, x] H Q E
theorem op_eqR (hs : PySem.W.findIn X.K (.ref C) "__eq__" = some (some (.ref g))) (hf : PySem.W.isFn X.K (.ref g) = true) (N : NotSub X.K C) (G : FnOk X.prog X.w X.K X.mg X.base CX n g fd ps sp) (hb : L2.Binds X.K fd ps [])
    (hr : Room n X.A) (hx : Passes CX X E) : OpR X (compareOp .Eq) (rOwnR C sp E) := by
  intro pins s σ H x y v u Q I rx ry h
  obtain ⟨a, dx, fs, rfl, ha, lo, q⟩ := h
  cases (show u = Value.ref a from ry)
  obtain ⟨od, J⟩ := inst_of I ha
  have hx0 : s.heap.get? a = some (instObj C dx) := J.at_
  show wpAny _ _ (richCompare .Eq _ _) _ _ _
  have fin : wpAny (model X.prog X.w) X.A (call (.ref g) [.ref a, v]) (PySem.W.CmpBack (EP X pins σ Q)) X.xe s :=
    wpAny_mono (run_fnA (A := X.A) (us := [.ref a, v]) (vs := [.ref a, x]) G hr rfl hb hx I (.cons rfl (.cons rx .nil)) q) (fun w s' z => by obtain ⟨z', H', I', rz, qz⟩ := z; exact SlX.cmpback rz ⟨z', H', I', rz, qz⟩) fun _ _ x => x
  have isI : ∀ T : String, PySem.W.subIn X.K (.ref C) (.type T) = some false → Looks (model X.prog X.w) s.heap (isInstance (.ref a) (.type T)) false := fun T e => J.type.andThen (looks_subIn I.kIn e)
  cases lo with
  | non =>
    cases (show v = Value.none from rx)
    exact refl_K (T := "NoneType") (ta := .none) hr.units0 I.kIn J rfl N.non (decl_ofM rfl F.slot_NoneType_eq F.entry_NoneType_eq (F.args_NoneType_eq_2 _ _) none_decl hx0) hs hf fin
  | int i =>
    obtain ⟨t, rfl⟩ := (show ∃ t, v = Value.int i t from rx)
    exact refl_K (T := "int") (ta := .none) hr.units0 I.kIn J (typeIs_int _ _ _) N.int (decl_ofM (typeIs_int _ _ _) F.slot_int_eq F.entry_int_eq (F.args_int_eq_2 _ _) (int_decl _ _) hx0) hs hf fin
  | str z =>
    obtain ⟨t, rfl⟩ := (show ∃ t, v = Value.str z t from rx)
    exact refl_K (T := "str") (ta := .none) hr.units0 I.kIn J (typeIs_str _ _ _) N.str (decl_ofM (typeIs_str _ _ _) F.slot_str_eq F.entry_str_eq (F.args_str_eq_2 _ _) (str_decl _ _) hx0) hs hf fin
  | @lst p xs h =>
    cases (show v = Value.ref p from rx)
    obtain ⟨_, its, k, _, hp⟩ := (show ObjOk X.prog X.w H s.heap p (.lst xs) from I.hok p _ h)
    have hT : s.TypeIs (.ref p) "list" := ⟨_, hp, rfl⟩
    exact refl_K (T := "list") (ta := .none) hr.units0 I.kIn J hT N.lst (decl_of hT F.slot_list_eq F.entry_list_eq (F.args_list_eq_2 _ _) fun Q' q' => list_decl (isI _ N.lst) q') hs hf fin
  | @tup p xs h =>
    cases (show v = Value.ref p from rx)
    obtain ⟨_, its, _, o, h1, h2, _⟩ := (show ObjOk X.prog X.w H s.heap p (.tup xs) from I.hok p _ h)
    have hT : s.TypeIs (.ref p) "tuple" := ⟨_, h1, h2⟩
    exact refl_K (T := "tuple") (ta := .none) hr.units0 I.kIn J hT N.tup (decl_of hT F.slot_tuple_eq F.entry_tuple_eq (F.args_tuple_eq_2 _ _) fun Q' q' => tuple_decl (isI _ N.tup) q') hs hf fin
  | @dK p kvs h =>
    cases (show v = Value.ref p from rx)
    obtain ⟨_, _, vs, _, o, es, ep, h1, h2, _⟩ := (show ObjOk X.prog X.w H s.heap p (.dK kvs) from I.hok p _ h)
    have hT : s.TypeIs (.ref p) "dict" := ⟨_, h1, h2.1⟩
    exact refl_K (T := "dict") (ta := .none) hr.units0 I.kIn J hT N.dct (decl_of hT F.slot_dict_eq F.entry_dict_eq (F.args_dict_eq_2 _ _) fun Q' q' => dict_decl (isI _ N.dct) q') hs hf fin
end
/-! ### in, count, index over a list, each == by the object's own -/
section
open SeqAt AutoSeq1 MeetsSeq MeetsSeq2 MeetsSeq3 SeqRoads2
open PySem.Builtin
variable {prog : Program} {w : World} {A : Around} {R : Result → Shared → Prop}
/-- at each turn the list is read anew, the turn's == gives bs i -/
def LoopB (prog : Program) (w : World) (A : Around) (E : Value → Shared → Prop) (l : Addr) (x : Value) (N : Nat) (bs : Nat → Bool) (I : Nat → Shared → Prop) : Prop :=
  ∀ i s, I i s → ∃ (items : Array Value) (n : Nat), s.heap.get? l = some { cls := .type "list", data := .seq items n } ∧ items.size = N ∧
    ∀ (h1 : i < items.size), wpAny (model prog w) A.in1 (eqBool items[i] x) (fun r s' => r = bs i ∧ I (i + 1) s') E s
def cntB (bs : Nat → Bool) : Nat → Nat → Int
  | 0, _ => 0
  | k + 1, i => (if bs i then 1 else 0) + cntB bs k (i + 1)
theorem count_loopG (l : Addr) (x : Value) (N : Nat) (bs : Nat → Bool) (I : Nat → Shared → Prop) (hl : LoopB prog w A (fun e s' => R (.error e) s') l x N bs I) (k : Nat) :
    ∀ (i : Nat) (found : Int), N - i = k → i ≤ N → ∀ s, I i s → (∀ s, I N s → R (.ok (.ret (.int (found + cntB bs k i) s.toks))) { s with toks := s.toks + 1 }) →
      wpAny (model prog w) A.in1 (Builtin.«list.count.loop» ⟨[.ref l, x, rawInt i, rawInt found], []⟩) (GQ.FinOf prog w A R) (fun e s' => R (.error e) s') s := by
  induction k with
  | zero =>
    intro i found hk hi s h fin
    obtain ⟨items, n, hl1, hs1, _⟩ := hl _ _ h
    have hi' : i = N := by omega
    have hR := fin s (hi' ▸ h)
    obtain ⟨hp, g, d, tk, os⟩ := s
    wp_walk using wpAny_loadPart' hl1
    have hi1 : items[((i : Nat) : Int).toNat]? = none := by simp; omega
    rw [hi1]
    wp_walk
    have e0 : found + cntB bs 0 i = found := by show found + 0 = found; omega
    rw [e0] at hR
    exact hR
  | succ k ih =>
    intro i found hk hi s h fin
    obtain ⟨items, n, hl1, hs1, turn⟩ := hl _ _ h
    have hlt : i < items.size := by omega
    have ht := turn hlt
    obtain ⟨hp, g, d, tk, os⟩ := s
    wp_walk using wpAny_loadPart' hl1
    have hi1 : items[((i : Nat) : Int).toNat]? = some items[i] := by simp [hlt]
    have hc : ((i : Int) + 1) = ((i + 1 : Nat) : Int) := by omega
    rw [hi1]
    refine wpAny_bind (wpAny_mono ht (fun r s2 h2 => ?_) fun _ _ x => x)
    obtain ⟨hr, h2⟩ := h2
    subst hr
    have e1 : (if bs i = true then found + 1 else found) + cntB bs k (i + 1) = found + cntB bs (k + 1) i := by
      show _ = found + ((if bs i then 1 else 0) + cntB bs k (i + 1))
      cases bs i <;> simp <;> omega
    have hrec := ih (i + 1) (if bs i = true then found + 1 else found) (by omega) (by omega) s2 h2 (fun s q => by rw [e1]; exact fin s q)
    obtain ⟨hp2, g2, d2, tk2, os2⟩ := s2
    wp_walk
    rw [hc]
    refine ⟨plainId_quiet plain_count_loop _, codeAny_builtin entry_count_loop (by
      rw [Around.under_plainId plain_count_loop _]

      exact hrec)⟩
end
section
open SeqAt AutoSeq1 MeetsSeq MeetsSeq2 MeetsSeq3 SeqRoads2
open PySem.Builtin
variable {prog : Program} {w : World} {A : Around} {R : Result → Shared → Prop}
theorem list_countG (l : Addr) (x : Value) (N : Nat) (bs : Nat → Bool) (I : Nat → Shared → Prop) (hl : LoopB prog w A (fun e s' => R (.error e) s') l x N bs I) {s : Shared} (h : I 0 s)
    (fin : ∀ s, I N s → R (.ok (.ret (.int (cntB bs N 0) s.toks))) { s with toks := s.toks + 1 }) :
    wpAny (model prog w) A.in1 (Builtin.«list.count» ⟨[.ref l, x], []⟩) (GQ.FinOf prog w A R) (fun e s' => R (.error e) s') s := by
  obtain ⟨items, n, hl1, hs1, _⟩ := hl _ _ h
  have hrec := count_loopG (A := A) (R := R) l x N bs I hl N 0 0 rfl (Nat.zero_le _) s h (fun s q => by rw [Int.zero_add]; exact fin s q)
  obtain ⟨hp, g, d, tk, os⟩ := s
  wp_walk using wpAny_loadPart' hl1
  exact ⟨plainId_quiet plain_count_loop _, codeAny_builtin entry_count_loop (by
    rw [Around.under_plainId plain_count_loop _]
    exact hrec)⟩
theorem index_loopG (l : Addr) (x : Value) (N : Nat) (bs : Nat → Bool) (I : Nat → Shared → Prop) (hl : LoopB prog w A (fun e s' => R (.error e) s') l x N bs I) (upto : Int) (j : Nat) (hj : j < N) (hupto : (j : Int) < upto) (hit : bs j = true)
    (fin : ∀ s, I (j + 1) s → R (.ok (.ret (.int j s.toks))) { s with toks := s.toks + 1 }) (k : Nat) :
    ∀ i : Nat, j - i = k → i ≤ j → (∀ m, i ≤ m → m < j → bs m = false) → ∀ s, I i s →
      wpAny (model prog w) A.in1 (Builtin.«list.index.loop» ⟨[.ref l, x, rawInt i, rawInt upto], []⟩) (GQ.FinOf prog w A R) (fun e s' => R (.error e) s') s := by
  induction k with
  | zero =>
    intro i hk hij hno s h
    have hij' : i = j := by omega
    subst hij'
    obtain ⟨items, n, hl1, hs1, turn⟩ := hl _ _ h
    have hlt : i < items.size := by omega
    have ht := turn hlt
    obtain ⟨hp, g, d, tk, os⟩ := s
    wp_walk using wpAny_loadPart' hl1
    have hi : (if (i : Int) < upto then items[((i : Nat) : Int).toNat]? else none) = some items[i] := by simp [hupto, hlt]
    rw [hi]
    refine wpAny_bind (wpAny_mono ht (fun r s2 h2 => ?_) fun _ _ x => x)
    obtain ⟨hr, h2⟩ := h2
    subst hr
    rw [hit]
    have hR := fin s2 h2
    obtain ⟨hp2, g2, d2, tk2, os2⟩ := s2
    wp_walk
    exact hR
  | succ k ih =>
    intro i hk hij hno s h
    obtain ⟨items, n, hl1, hs1, turn⟩ := hl _ _ h
    have hlt : i < items.size := by omega
    have hst : (i : Int) < upto := by omega
    have ht := turn hlt
    obtain ⟨hp, g, d, tk, os⟩ := s
    wp_walk using wpAny_loadPart' hl1
    have hi : (if (i : Int) < upto then items[((i : Nat) : Int).toNat]? else none) = some items[i] := by simp [hst, hlt]
    have hc : ((i : Int) + 1) = ((i + 1 : Nat) : Int) := by omega
    rw [hi]
    refine wpAny_bind (wpAny_mono ht (fun r s2 h2 => ?_) fun _ _ x => x)
    obtain ⟨hr, h2⟩ := h2
    subst hr
    rw [hno i (Nat.le_refl _) (by omega)]
    have hrec := ih (i + 1) (by omega) (by omega) (fun m h1 h2 => hno m (by omega) h2) s2 h2
    obtain ⟨hp2, g2, d2, tk2, os2⟩ := s2
    wp_walk
    rw [hc]
    exact ⟨plainId_quiet plain_index_loop _, codeAny_builtin entry_index_loop (by
      rw [Around.under_plainId plain_index_loop _]
      exact hrec)⟩
theorem list_indexG (l : Addr) (x : Value) (N : Nat) (bs : Nat → Bool) (I : Nat → Shared → Prop) (hl : LoopB prog w A (fun e s' => R (.error e) s') l x N bs I) (j : Nat) (hj : j < N) (hsmall : (j : Int) < 2 ^ 63 - 1) (hit : bs j = true) (hno : ∀ m, m < j → bs m = false)
    (fin : ∀ s, I (j + 1) s → R (.ok (.ret (.int j s.toks))) { s with toks := s.toks + 1 }) {s : Shared} (h : I 0 s) :
    wpAny (model prog w) A.in1 (Builtin.«list.index» ⟨[.ref l, x], []⟩) (GQ.FinOf prog w A R) (fun e s' => R (.error e) s') s := by
  obtain ⟨items, n, hl1, hs1, _⟩ := hl _ _ h
  have hrec := index_loopG (A := A) (R := R) l x N bs I hl (2 ^ 63 - 1) j hj hsmall hit fin j 0 (by omega) (Nat.zero_le _) (fun m _ h2 => hno m h2) s h
  obtain ⟨hp, g, d, tk, os⟩ := s
  wp_walk using wpAny_loadPart' hl1
  have a1 : ((fun i : Int => if i < 0 then max 0 (i + (items.size : Int)) else i) ((none : Option Int).getD 0)) = ((0 : Nat) : Int) := by simp
  have a2 : ((fun i : Int => if i < 0 then max 0 (i + (items.size : Int)) else i) ((none : Option Int).getD (2 ^ 63 - 1))) = 2 ^ 63 - 1 := by simp
  rw [a1, a2]
  exact ⟨plainId_quiet plain_index_loop _, codeAny_builtin entry_index_loop (by
    rw [Around.under_plainId plain_index_loop _]
    exact hrec)⟩
theorem contains_loopG (l : Addr) (x : Value) (N : Nat) (bs : Nat → Bool) (I : Nat → Shared → Prop) (hl : LoopB prog w A (fun e s' => R (.error e) s') l x N bs I) (j : Nat) (hj : j < N) (hit : bs j = true)
    (fin : ∀ s, I (j + 1) s → R (.ok (.ret (.bool true))) s) (k : Nat) :
    ∀ i : Nat, j - i = k → i ≤ j → (∀ m, i ≤ m → m < j → bs m = false) → ∀ s, I i s →
      wpAny (model prog w) A.in1 (Builtin.«list.__contains__.loop» ⟨[.ref l, x, rawInt i], []⟩) (GQ.FinOf prog w A R) (fun e s' => R (.error e) s') s := by
  induction k with
  | zero =>
    intro i hk hij hno s h
    have hij' : i = j := by omega
    subst hij'
    obtain ⟨items, n, hl1, hs1, turn⟩ := hl _ _ h
    have hlt : i < items.size := by omega
    have ht := turn hlt
    obtain ⟨hp, g, d, tk, os⟩ := s
    wp_walk using wpAny_loadPart' hl1
    have hi : items[((i : Nat) : Int).toNat]? = some items[i] := by simp [hlt]
    rw [hi]
    refine wpAny_bind (wpAny_mono ht (fun r s2 h2 => ?_) fun _ _ x => x)
    obtain ⟨hr, h2⟩ := h2
    subst hr
    rw [hit]
    have hR := fin s2 h2
    obtain ⟨hp2, g2, d2, tk2, os2⟩ := s2
    wp_walk
    exact hR
  | succ k ih =>
    intro i hk hij hno s h
    obtain ⟨items, n, hl1, hs1, turn⟩ := hl _ _ h
    have hlt : i < items.size := by omega
    have ht := turn hlt
    obtain ⟨hp, g, d, tk, os⟩ := s
    wp_walk using wpAny_loadPart' hl1
    have hi : items[((i : Nat) : Int).toNat]? = some items[i] := by simp [hlt]
    have hc : ((i : Int) + 1) = ((i + 1 : Nat) : Int) := by omega
    rw [hi]
    refine wpAny_bind (wpAny_mono ht (fun r s2 h2 => ?_) fun _ _ x => x)
    obtain ⟨hr, h2⟩ := h2
    subst hr
    rw [hno i (Nat.le_refl _) (by omega)]
    have hrec := ih (i + 1) (by omega) (by omega) (fun m h1 h2 => hno m (by omega) h2) s2 h2
    obtain ⟨hp2, g2, d2, tk2, os2⟩ := s2
    wp_walk
    rw [hc]
    exact ⟨plainId_quiet plain_contains_loop _, codeAny_builtin entry_contains_loop (by
      rw [Around.under_plainId plain_contains_loop _]
      exact hrec)⟩
theorem list_containsG (l : Addr) (x : Value) (N : Nat) (bs : Nat → Bool) (I : Nat → Shared → Prop) (hl : LoopB prog w A (fun e s' => R (.error e) s') l x N bs I) (j : Nat) (hj : j < N) (hit : bs j = true) (hno : ∀ m, m < j → bs m = false)
    (fin : ∀ s, I (j + 1) s → R (.ok (.ret (.bool true))) s) {s : Shared} (h : I 0 s) :
    wpAny (model prog w) A.in1 (Builtin.«list.__contains__» ⟨[.ref l, x], []⟩) (GQ.FinOf prog w A R) (fun e s' => R (.error e) s') s := by
  obtain ⟨items, n, hl1, hs1, _⟩ := hl _ _ h
  have hrec := contains_loopG (A := A) (R := R) l x N bs I hl j hj hit fin j 0 (by omega) (Nat.zero_le _) (fun m _ h2 => hno m h2) s h
  obtain ⟨hp, g, d, tk, os⟩ := s
  wp_walk using wpAny_loadPart' hl1
  exact ⟨plainId_quiet plain_contains_loop _, codeAny_builtin entry_contains_loop (by
    rw [Around.under_plainId plain_contains_loop _]
    exact hrec)⟩
end
section
open SeqAt
variable {X : Cx} {CX : CXT} {C g : Addr} {n : Nat} {fd : FuncData} {ps : List Str} {sp : Sp} {E : XK}
/-- what an own == tells: (x, y) are known, the answer is b, only new objects come -/
def EqB (X : Cx) (n : Nat) (D : V → V → Hp → Bool → Prop) : Prop :=
  ∀ (A : Around) (pins : List (Addr × Obj)) (s : Shared) (σ : L2.St) (H : Hp) (x y : V) (u v : Value) (b : Bool), L2.Sub X n A → L2.Inv X pins σ H s → RelV x u → RelV y v → D x y H b →
    wpAny (model X.prog X.w) A (eqBool u v) (fun r s' => r = b ∧ ∃ H', L2.Inv X pins σ H' s' ∧ Same H H') X.xe s
/-- the promise of such an __eq__ -/
def spEqB (D : V → V → Hp → Bool → Prop) : Sp := fun vs H Q _ => ∃ (x y : V) (b : Bool), vs = [x, y] ∧ D x y H b ∧ ∀ H', Same H H' → Q (.bl b) H'
/-- both are objects of the class; of one and itself the answer is True -/
structure DOk (C : Addr) (D : V → V → Hp → Bool → Prop) : Prop where
  ins : ∀ x y H b, D x y H b → ∃ a dx fs a' dx' fs', x = .ref a ∧ H a = some (.ins C dx fs) ∧ y = .ref a' ∧ H a' = some (.ins C dx' fs')
  self : ∀ x H b, D x x H b → b = true
  mono : ∀ x y H H' b, Same H H' → D x y H b → D x y H' b
theorem eqB_ins {D : V → V → Hp → Bool → Prop} (O : DOk C D) (hs : PySem.W.findIn X.K (.ref C) "__eq__" = some (some (.ref g))) (hf : PySem.W.isFn X.K (.ref g) = true) (hn : PySem.W.notFirst X.K C (.ref C) = true)
    (F : FnOk X.prog X.w X.K X.mg X.base CX n g fd ps (spEqB D)) (hb : L2.Binds X.K fd ps []) (hx : Passes CX X E0) : EqB X n D := by
  intro A pins s σ H x y u v b sb I rx ry d
  obtain ⟨a, dx, fs, a', dx', fs', rfl, ha, rfl, ha'⟩ := O.ins x y H b d
  cases (show u = Value.ref a from rx)
  cases (show v = Value.ref a' from ry)
  by_cases e : a = a'
  · subst e
    have e2 := O.self _ _ _ d
    subst e2
    unfold eqBool
    refine wpAny_holding ?_
    simp only [beq_self_eq_true, if_true]
    refine wpAny_bind (wpAny_rule (wpAny_pure ?_))
    exact ⟨rfl, H, I, fun _ _ e => e⟩
  · obtain ⟨od, J⟩ := inst_of I ha
    obtain ⟨od', J'⟩ := inst_of I ha'
    obtain ⟨m, hF⟩ := I.fr
    refine GQ.eqBool_refG e (PySem.W.cmp_K (op := .Eq) (tb := .ref C) sb.room.units0 hF I.ok.mod.kin J J'.type hn hs hf ?_)
    refine wpAny_mono (run_fnA (A := A) (us := [.ref a, .ref a']) (vs := [.ref a, .ref a']) (Q := fun z H' => z = .bl b ∧ Same H H') F sb.room sb.fr hb hx I (.cons rfl (.cons rfl .nil)) ⟨_, _, b, rfl, d, fun H' k => ⟨rfl, k⟩⟩) (fun w s' z => ?_) fun _ _ x => x
    obtain ⟨z', H', I', rz, rfl, k⟩ := z
    cases (show w = Value.bool b from rz)
    exact ⟨b, rfl, rfl, H', I', k⟩
theorem loopB_of {D : V → V → Hp → Bool → Prop} (O : DOk C D) (e : EqB X n D) {A : Around} (sb : L2.Sub X (n + 1) A) {pins : List (Addr × Obj)} {σ : L2.St} {H : Hp} {l : Addr} {xs : List V} {x : V} {u : Value} {bs : Nat → Bool} (hl : H l = some (.lst xs)) (ru : RelV x u)
    (hd : ∀ i y, xs[i]? = some y → D y x H (bs i)) : LoopB X.prog X.w A X.xe l u xs.length bs (fun _ s' => ∃ H', L2.Inv X pins σ H' s' ∧ Same H H') := by
  rintro i s ⟨H', I, k⟩
  obtain ⟨_, its, m, r, hp⟩ := (show ObjOk X.prog X.w H' s.heap l (.lst xs) from I.hok l _ (k _ _ hl))
  refine ⟨its.toArray, m, hp, by simpa using r.length.symm, fun h1 => ?_⟩
  have h1' : i < its.length := by simpa using h1
  have hix : i < xs.length := by rw [r.length]; exact h1'
  obtain ⟨v, hv, rv⟩ := r.get (List.getElem?_eq_getElem hix)
  have ev : its.toArray[i] = v := by
    rw [List.getElem?_eq_getElem h1'] at hv
    simpa using hv
  rw [ev]
  refine wpAny_mono (e A.in1 pins s σ H' _ _ _ _ (bs i) sb.in1 I rv ru (O.mono _ _ _ _ _ k (hd i _ (List.getElem?_eq_getElem hix)))) (fun r s' z => ?_) fun _ _ x => x
  obtain ⟨hr, H2, I2, k2⟩ := z
  exact ⟨hr, H2, I2, k.trans k2⟩
theorem sub_here (hr : Room n X.A) : L2.Sub X n X.A := ⟨hr, rfl⟩
def rCntB (D : V → V → Hp → Bool → Prop) : V → List V → Hp → VK → Prop := fun x xs H Q => ∃ (l : Addr) (ys : List V) (y : V) (bs : Nat → Bool), x = .ref l ∧ xs = [y] ∧ H l = some (.lst ys) ∧ (∀ i z, ys[i]? = some z → D z y H (bs i)) ∧ ∀ H', Same H H' → Q (.int (cntB bs ys.length 0)) H'
theorem mt_countB {D : V → V → Hp → Bool → Prop} (O : DOk C D) (e : EqB X n D) (hr : Room (n + 1) X.A) : MtR X "list.count" (rCntB D) := by
  intro pins s σ H x xs v us Q I rx rxs h
  obtain ⟨l, ys, y, bs, rfl, rfl, hl, hd, q⟩ := h
  cases (show v = Value.ref l from rx)
  obtain ⟨u, rfl, ru⟩ := rxs.one
  obtain ⟨_, its, m, _, hp⟩ := (show ObjOk X.prog X.w H s.heap l (.lst ys) from I.hok l _ hl)
  refine GQ.call_here F.slot_list_count ⟨_, hp, rfl⟩ F.entry_list_count (F.args_list_count_2 _ _) ?_
  refine list_countG l u ys.length bs (fun _ s' => ∃ H', L2.Inv X pins σ H' s' ∧ Same H H') (loopB_of O e (sub_here hr) (pins := pins) (σ := σ) hl ru hd) ⟨H, I, fun _ _ e => e⟩ fun s' z => ?_
  obtain ⟨H', I', k⟩ := z
  exact ⟨.int _, H', I'.tok _, ⟨_, rfl⟩, q H' k⟩
def rIdxB (D : V → V → Hp → Bool → Prop) : V → List V → Hp → VK → Prop := fun x xs H Q => ∃ (l : Addr) (ys : List V) (y : V) (bs : Nat → Bool) (j : Nat), x = .ref l ∧ xs = [y] ∧ H l = some (.lst ys) ∧ (∀ i z, ys[i]? = some z → D z y H (bs i)) ∧ j < ys.length ∧ j < 1000000 ∧ bs j = true ∧ (∀ m, m < j → bs m = false) ∧ ∀ H', Same H H' → Q (.int (j : Nat)) H'
theorem mt_indexB {D : V → V → Hp → Bool → Prop} (O : DOk C D) (e : EqB X n D) (hr : Room (n + 1) X.A) : MtR X "list.index" (rIdxB D) := by
  intro pins s σ H x xs v us Q I rx rxs h
  obtain ⟨l, ys, y, bs, j, rfl, rfl, hl, hd, hj, hj2, hit, hno, q⟩ := h
  cases (show v = Value.ref l from rx)
  obtain ⟨u, rfl, ru⟩ := rxs.one
  obtain ⟨_, its, m, _, hp⟩ := (show ObjOk X.prog X.w H s.heap l (.lst ys) from I.hok l _ hl)
  refine GQ.call_here F.slot_list_index ⟨_, hp, rfl⟩ F.entry_list_index (F.args_list_index_2 _ _) ?_
  refine list_indexG l u ys.length bs (fun _ s' => ∃ H', L2.Inv X pins σ H' s' ∧ Same H H') (loopB_of O e (sub_here hr) (pins := pins) (σ := σ) hl ru hd) j hj (by omega) hit hno (fun s' z => ?_) ⟨H, I, fun _ _ e => e⟩
  obtain ⟨H', I', k⟩ := z
  exact ⟨.int _, H', I'.tok _, ⟨_, rfl⟩, q H' k⟩
def rInB (D : V → V → Hp → Bool → Prop) : R2 := fun y x H Q => ∃ (l : Addr) (ys : List V) (bs : Nat → Bool) (j : Nat), x = .ref l ∧ H l = some (.lst ys) ∧ (∀ i z, ys[i]? = some z → D z y H (bs i)) ∧ j < ys.length ∧ bs j = true ∧ (∀ m, m < j → bs m = false) ∧ ∀ H', Same H H' → Q (.bl true) H'
/-- y in xs, where it is -/
theorem op_inB {D : V → V → Hp → Bool → Prop} (O : DOk C D) (e : EqB X n D) (hr : Room (n + 1) X.A) : OpR X (compareOp .In) (rInB D) := by
  intro pins s σ H y x u v Q I ru rx h
  obtain ⟨l, ys, bs, j, rfl, hl, hd, hj, hit, hno, q⟩ := h
  cases (show v = Value.ref l from rx)
  obtain ⟨_, its, m, _, hp⟩ := (show ObjOk X.prog X.w H s.heap l (.lst ys) from I.hok l _ hl)
  show wpAny _ X.A (do return Value.bool (← PySem.contains (.ref l) u)) _ _ s
  have hT : s.TypeIs (.ref l) "list" := ⟨_, hp, rfl⟩
  refine wpAny_bind (wpAny_contains_slot hT F.slot_list_contains (wpAny_mono (GQ.call_here (Q := fun v s' => v = .bool true ∧ ∃ H', L2.Inv X pins σ H' s' ∧ Same H H') (E := X.xe) F.slot_list_contains hT F.entry_list_contains (F.args_list_contains_2 _ _)
    (list_containsG l u ys.length bs (fun _ s' => ∃ H', L2.Inv X pins σ H' s' ∧ Same H H') (loopB_of O e (sub_here hr) (pins := pins) (σ := σ) hl ru hd) j hj hit hno (fun s' z => ⟨rfl, z⟩) ⟨H, I, fun _ _ e => e⟩)) (fun v s' hv => ?_) fun _ _ e => e))
  obtain ⟨rfl, H', I', k⟩ := hv
  exact wpAny_truthy_bool (wpAny_pure ⟨.bl true, H', I', rfl, q H' k⟩)
end
/-! ### objects of an own class: len and truth by an own __len__; the length of a range -/
section
variable {prog : Program} {w : World} {A : Around} {E : Value → Shared → Prop} {s : Shared} {K : PySem.W.Frag} {x C f : Addr} {ox : Obj} {od : Option Obj}
theorem len_bodyK {Q : Value → Shared → Prop} (X : K.In s.heap) (I : PySem.W.InstAt s.heap x ox C od) (hs : PySem.W.findIn K (.ref C) "__len__" = some (some (.ref f))) (hf : PySem.W.isFn K (.ref f) = true)
    (h : wpAny (model prog w) A (call (.ref f) [.ref x]) (PySem.W.LenBack Q) E s) : wpAny (model prog w) A (Builtin.«len» ⟨[.ref x], []⟩) (fun fin s' => ∃ v, fin = .done (.ret v) ∧ Q v s') E s := by
  unfold Builtin.«len»
  refine wpAny_bind (m := oneArg "len" _) (wpAny_pure ?_)
  refine wpAny_bind (m := callSpecial? (.ref x) (Str.ofString "__len__")) (PySem.W.special_fn X I hs (beq_iff_eq.mp hf) (wpAny_mono h ?_ fun _ _ y => y))
  intro r s' hr
  match r, hr with
  | .int n u, ⟨⟨h0, h1⟩, hq⟩ =>
    refine wpAny_bind (wpAny_holding (wpAny_pure ?_))
    refine wpAny_bind (wpAny_letGo ?_)
    show wpAny _ _ (if n < 0 then _ else _) _ _ _
    rw [if_neg (by omega)]
    show wpAny _ _ (if n ≥ 2 ^ 63 then _ else _) _ _ _
    rw [if_neg (by omega)]
    exact wpAny_bind (wpAny_mkInt (wpAny_pure ⟨_, rfl, hq⟩))
theorem truthy_len {Q : Bool → Shared → Prop} (X : K.In s.heap) (I : PySem.W.InstAt s.heap x ox C od) (hb : PySem.W.findIn K (.ref C) "__bool__" = some none) (hs : PySem.W.findIn K (.ref C) "__len__" = some (some (.ref f))) (hf : PySem.W.isFn K (.ref f) = true)
    (h : wpAny (model prog w) A.in1 (call (.ref f) [.ref x]) (PySem.W.LenBack fun v s' => ∃ n t, v = .int n t ∧ Q (n != 0) s') E s) : wpAny (model prog w) A (truthy (.ref x)) Q E s := by
  unfold truthy
  refine wpAny_bind (m := callSpecial? (.ref x) (Str.ofString "__bool__")) (wpAny_bind (wpAny_bind (I.type.here ((PySem.W.looks_findIn X hb).here (wpAny_pure ?_)))))
  refine wpAny_bind (wpAny_bind (I.type.here ((PySem.W.looks_findIn X hs).here ?_)))
  show wpAny _ _ (runValue (.builtin "len" ⟨[.ref x], []⟩) >>= _) _ _ _
  refine wpAny_bind (wpAny_runValue (codeAny_builtin PySem.entry_len ?_))
  rw [Around.under_plainId PySem.plain_len _]
  refine wpAny_mono (len_bodyK X I hs hf h) ?_ (fun _ _ y => y)
  rintro fin s' ⟨v, rfl, n, t, rfl, q⟩
  exact wpAny_pure q
theorem bool_own {Q : Value → Shared → Prop} (h : wpAny (model prog w) A.in1.in1 (truthy (.ref x)) (fun b s' => Q (.bool b) s') E s) : wpAny (model prog w) A (call (.type "bool") [.ref x]) Q E s := by
  have g : MeetsIn prog w (Builtin.«bool.__new__» ⟨[.type "bool", .ref x], []⟩) (fun A R s => wpAny (model prog w) A.in1 (truthy (.ref x)) (fun b s' => R (.ok (.ret (.bool b))) s') (fun e s' => R (.error e) s') s) := by
    intro A R s hs
    obtain ⟨hp, g, d, tk, os⟩ := s
    have f1 := F.conv_sub_bool
    have hs2 : wpAny (model prog w) A.in1 (truthy (.ref x)) (fun b s' => wpAny (model prog w) A.in1 (ret (.bool b) : Sem Fin) (fun fin s' => match fin with | .done f => R (.ok f) s' | .again c' => c'.quiet = true ∧ codeAny (model prog w) A c' R s') (fun e s' => R (.error e) s') s') (fun e s' => R (.error e) s') ⟨hp, g, d, tk, os⟩ :=
      wpAny_mono hs (fun b s' z => wpAny_pure z) fun _ _ z => z
    repeat (any_goals (first | assumption | exact hs2 | wp_step))
  exact callType_newIn F.called_bool F.newNe_bool (F.typeCall_bool_1 _) (F.newCall_bool_1 _) (fun obj => F.args_object_init_2 obj _) F.entry_bool_new g (wpAny_mono h (fun b s' z => ⟨rfl, z⟩) fun _ _ z => z)
end
section
variable {X : Cx} {CX : CXT} {C g : Addr} {n : Nat} {fd : FuncData} {ps : List Str} {sp : Sp} {E : XK}
def QLen (Q : VK) : VK := fun z H' => ∃ m : Int, z = .int m ∧ 0 ≤ m ∧ m < 2 ^ 62 ∧ Q (.int m) H'
def QTru (Q : VK) : VK := fun z H' => ∃ m : Int, z = .int m ∧ 0 ≤ m ∧ m < 2 ^ 62 ∧ Q (.bl (m != 0)) H'
/-- len(o), by o's own __len__ -/
theorem call_lenOwn (hs : PySem.W.findIn X.K (.ref C) "__len__" = some (some (.ref g))) (hf : PySem.W.isFn X.K (.ref g) = true) (F : FnOk X.prog X.w X.K X.mg X.base CX n g fd ps sp) (hb : L2.Binds X.K fd ps [])
    (hr : Room (n + 1) X.A) (hx : Passes CX X E) : CallR X (.builtin "len") (rOwn1 C sp E QLen) := by
  intro pins s σ H vs us Q I r h
  obtain ⟨a, dx, fs, rfl, ha, q⟩ := h
  obtain ⟨u, rfl, ru⟩ := Vals.one r
  cases (show u = Value.ref a from ru)
  obtain ⟨od, J⟩ := inst_of I ha
  obtain ⟨m, hF⟩ := I.fr
  refine PySem.W.len_K hF I.ok.mod.kin J hs hf ?_
  refine wpAny_mono (run_fnA (A := X.A.in1) (us := [.ref a]) (vs := [.ref a]) F hr.in1 rfl hb hx I (.cons rfl .nil) q) ?_ (fun _ _ x => x)
  rintro v s' ⟨z, H', I', rz, m, rfl, m0, m1, q'⟩
  obtain ⟨t, rfl⟩ := (show ∃ t, v = Value.int m t from rz)
  exact ⟨⟨m0, Int.lt_trans m1 (by decide)⟩, .int m, H', I'.tok _, ⟨_, rfl⟩, q'⟩
theorem truthyOwn (hbl : PySem.W.findIn X.K (.ref C) "__bool__" = some none) (hs : PySem.W.findIn X.K (.ref C) "__len__" = some (some (.ref g))) (hf : PySem.W.isFn X.K (.ref g) = true) (F : FnOk X.prog X.w X.K X.mg X.base CX n g fd ps sp) (hb : L2.Binds X.K fd ps [])
    {A : Around} (hr : Room (n + 1) A) (hA : A.frames = X.A.frames) (hx : Passes CX X E) {pins : List (Addr × Obj)} {σ : L2.St} {H : Hp} {s : Shared} {a dx : Addr} {fs : List (Str × V)} {Q : VK} (I : L2.Inv X pins σ H s) (ha : H a = some (.ins C dx fs))
    (q : sp [.ref a] H (QTru Q) E) : wpAny (model X.prog X.w) A (truthy (.ref a)) (fun b s' => ∃ H', L2.Inv X pins σ H' s' ∧ Q (.bl b) H') X.xe s := by
  obtain ⟨od, J⟩ := inst_of I ha
  refine truthy_len I.kIn J hbl hs hf ?_
  refine wpAny_mono (run_fnA (A := A.in1) (us := [.ref a]) (vs := [.ref a]) F hr.in1 hA hb hx I (.cons rfl .nil) q) ?_ (fun _ _ x => x)
  rintro v s' ⟨z, H', I', rz, m, rfl, m0, m1, q'⟩
  obtain ⟨t, rfl⟩ := (show ∃ t, v = Value.int m t from rz)
  exact ⟨⟨m0, Int.lt_trans m1 (by decide)⟩, m, _, rfl, H', I'.tok _, q'⟩
/-- bool(o), by o's own __len__ -/
theorem call_boolOwn (hbl : PySem.W.findIn X.K (.ref C) "__bool__" = some none) (hs : PySem.W.findIn X.K (.ref C) "__len__" = some (some (.ref g))) (hf : PySem.W.isFn X.K (.ref g) = true) (F : FnOk X.prog X.w X.K X.mg X.base CX n g fd ps sp) (hb : L2.Binds X.K fd ps [])
    (hr : Room (n + 3) X.A) (hx : Passes CX X E) : CallR X (.type "bool") (rOwn1 C sp E QTru) := by
  intro pins s σ H vs us Q I r h
  obtain ⟨a, dx, fs, rfl, ha, q⟩ := h
  obtain ⟨u, rfl, ru⟩ := Vals.one r
  cases (show u = Value.ref a from ru)
  refine bool_own (wpAny_mono (truthyOwn hbl hs hf F hb (A := X.A.in1.in1) hr.in1.in1 rfl hx I ha q) ?_ fun _ _ x => x)
  rintro b s' ⟨H', I', q'⟩
  exact ⟨.bl b, H', I', rfl, q'⟩
/-- len(range(..)) -/
def tLenRg (te : L2.St → Hp → (Int → Int → Hp → Prop) → Prop) : TE := fun σ H Q => te σ H fun a b H1 => (b - a).toNat < 2 ^ 62 ∧ Q (.int ((b - a).toNat : Nat)) H1
theorem pe_lenRg {e : Expr} {te : L2.St → Hp → (Int → Int → Hp → Prop) → Prop} {p pos : Pos} (hg : Gl X "len") (hm : X.mg "len" = none) (he : PRg X e te) (na : starEach [e] X.env = (false, eval e X.env) :: starEach [] X.env := by rfl) : PE X (.Call (.Name "len" p) [e] [] pos) (tLenRg te) := by
  constructor
  intro pins s σ H Q I h
  refine wpAny_Call_Name_kw (ld_blt I hg hm PySem.boot_len ?_ (by decide) (by decide))
  refine PyProof.Rows.callWith_builtin1 (PyProof.Rows.args_cons (thn (he pins s σ H _ I h) ?_) na) na rfl
  rintro x s1 ⟨r, a, b, t, u, v, H1, rfl, hr, I1, hz, q⟩
  refine PyProof.Rows.args_nil (call_len_range (n := (b - a).toNat) hr ?_ ?_ ⟨.int ((b - a).toNat : Nat), H1, I1.tok _, ⟨_, rfl⟩, q⟩)
  · unfold Builtin.Range.rangeSize
    rw [if_pos (by decide)]
    split
    · rw [Int.ediv_one]
      omega
    · omega
  · omega
end
section
variable {X : Cx}
theorem eqBool_bl {prog : Program} {w : World} {A : Around} {E : Value → Shared → Prop} {s : Shared} {i j : Bool} {Q : Bool → Shared → Prop} (h : Q (i == j) s) : wpAny (model prog w) A (eqBool (.bool i) (.bool j)) Q E s := by
  have key : wpAny (model prog w) A (compareOp .Eq (.bool i) (.bool j)) (fun v s' => v = .bool (i == j) ∧ s' = s) E s := PyProof.Rows.eq_bool ⟨rfl, rfl⟩
  have key2 : wpAny (model prog w) A (richCompare .Eq (.bool i) (.bool j)) (fun v s' => v = .bool (i == j) ∧ s' = s) E s := key
  unfold eqBool
  refine wpAny_holding (wpAny_ite_split (fun e => ?_) (fun _ => ?_))
  · have e2 : i = j := by
      have := eq_of_beq e
      injection this
    subst e2
    rw [beq_self_eq_true] at h
    exact wpAny_bind (wpAny_rule (wpAny_pure h))
  · refine wpAny_bind (wpAny_mono key2 ?_ fun _ _ z => z)
    rintro v s' ⟨rfl, rfl⟩
    exact wpAny_truthy_bool h
/-- xs.count(b) of truths -/
def rCntBl : V → List V → Hp → VK → Prop := fun x xs H Q => ∃ (l : Addr) (rs : List Bool) (b : Bool), x = .ref l ∧ xs = [.bl b] ∧ H l = some (.lst (rs.map V.bl)) ∧ Q (.int (cntB (fun i => rs.getD i false == b) rs.length 0)) H
theorem mt_countBl : MtR X "list.count" rCntBl := by
  intro pins s σ H x xs v us Q I rx rxs h
  obtain ⟨l, rs, b, rfl, rfl, hl, q⟩ := h
  cases (show v = Value.ref l from rx)
  obtain ⟨u, rfl, ru⟩ := rxs.one
  cases (show u = Value.bool b from ru)
  obtain ⟨_, its, m, _, hp⟩ := (show ObjOk X.prog X.w H s.heap l (.lst (rs.map V.bl)) from I.hok l _ hl)
  refine GQ.call_here F.slot_list_count ⟨_, hp, rfl⟩ F.entry_list_count (F.args_list_count_2 _ _) ?_
  refine list_countG l (.bool b) rs.length (fun i => rs.getD i false == b) (fun _ s' => L2.Inv X pins σ H s') ?_ I (fun s' I' => ⟨.int _, H, I'.tok _, ⟨_, rfl⟩, q⟩)
  intro i s' I'
  obtain ⟨_, its, m, r, hp⟩ := (show ObjOk X.prog X.w H s'.heap l (.lst (rs.map V.bl)) from I'.hok l _ hl)
  have hlen : its.length = rs.length := by rw [← r.length, List.length_map]
  refine ⟨its.toArray, m, hp, by simpa using hlen, fun h1 => ?_⟩
  have h1' : i < its.length := by simpa using h1
  have hix : i < rs.length := by omega
  obtain ⟨v, hv, rv⟩ := r.get (show (rs.map V.bl)[i]? = some (.bl rs[i]) by rw [List.getElem?_map, List.getElem?_eq_getElem hix]; rfl)
  have ev : its.toArray[i] = v := by
    rw [List.getElem?_eq_getElem h1'] at hv
    simpa using hv
  cases (show v = Value.bool rs[i] from rv)
  rw [ev]
  refine eqBool_bl ⟨?_, I'⟩
  show (rs[i] == b) = (rs.getD i false == b)
  rw [List.getD_eq_getElem?_getD, List.getElem?_eq_getElem hix]
  rfl
end
/-! ### walks by enumerate; counts of texts; calls that may raise, where nothing is raised -/
theorem for_enum {K : PySem.W.Frag} {a : Addr} {xs : List V} {g : TG} {tb : TS} {D : L2.Ends} {σ : L2.St} {H : Hp} (Pv : Nat → L2.St → Hp → Prop) (h0 : Pv 0 σ H) (hl : ∀ i σ H, i ≤ xs.length → Pv i σ H → SqL K H a xs)
    (hs : ∀ i x T σ H, xs[i]? = some x → Pv i σ H → H T = none → g (.ref T) σ (upd H T (.tup [.int (i : Nat), x])) fun σ2 H2 => tb { D with nx := Pv (i + 1), ct := Pv (i + 1), bk := D.nx } σ2 H2) (hd : ∀ σ H, Pv xs.length σ H → D.nx σ H) :
    ∃ W : Nat → Nat → L2.St → Hp → Prop, (∃ m, W 0 m σ H) ∧ ∀ i m σ H, W i m σ H →
      ((Ite K a).stop i H ∧ D.nx σ H) ∨ ((Ite K a).go i H ∧ ∃ N : L2.St → Hp → Prop, (∀ σ' H', N σ' H' → ∃ m', m' < m ∧ W (i + 1) m' σ' H') ∧ ∀ x H', (Ite K a).yld i H x H' → g x σ H' fun σ2 H2 => tb { D with nx := N, ct := N, bk := D.nx } σ2 H2) := by
  refine ⟨fun i m σ H => m = xs.length - i ∧ i ≤ xs.length ∧ Pv i σ H, ⟨xs.length, by simp, Nat.zero_le _, h0⟩, ?_⟩
  rintro i m σ H ⟨rfl, hi, p⟩
  have q := hl i σ H hi p
  by_cases hlt : i < xs.length
  · refine .inr ⟨⟨xs, xs[i], q, by simp [hlt]⟩, Pv (i + 1), fun σ' H' p' => ⟨xs.length - (i + 1), by omega, rfl, hlt, p'⟩, ?_⟩
    rintro x H' ⟨T, y, rfl, hT, rfl, hy⟩
    exact hs i y T σ H (hy xs q) p hT
  · have e : i = xs.length := by omega
    subst e
    exact .inl ⟨⟨xs, q, Nat.le_refl _⟩, hd σ H p⟩
abbrev rLenQ (K : PySem.W.Frag) : List V → Hp → VK → Prop := fun xs H Q => ∃ p ys, xs = [V.ref p] ∧ (SqL K H p ys ∨ SqT K H p ys) ∧ Q (.int ((ys.length : Nat) : Int)) H
section
variable {X : Cx}
theorem eqBool_tx {prog : Program} {w : World} {A : Around} {E : Value → Shared → Prop} {s : Shared} {i j : Str} {t u : Tok} {Q : Bool → Shared → Prop} (h : Q (decide (i = j)) s) : wpAny (model prog w) A (eqBool (.str i t) (.str j u)) Q E s := wpAny_eqBool_str h
/-- xs.count(t) of texts -/
def rCntTx : V → List V → Hp → VK → Prop := fun x xs H Q => ∃ (l : Addr) (rs : List Str) (b : Str), x = .ref l ∧ xs = [.str b] ∧ H l = some (.lst (rs.map V.str)) ∧ Q (.int (cntB (fun i => decide (rs.getD i "" = b)) rs.length 0)) H
theorem mt_countTx : MtR X "list.count" rCntTx := by
  intro pins s σ H x xs v us Q I rx rxs h
  obtain ⟨l, rs, b, rfl, rfl, hl, q⟩ := h
  cases (show v = Value.ref l from rx)
  obtain ⟨u, rfl, ru⟩ := rxs.one
  obtain ⟨tb, rfl⟩ := (show ∃ t, u = Value.str b t from ru)
  obtain ⟨_, its, m, _, hp⟩ := (show ObjOk X.prog X.w H s.heap l (.lst (rs.map V.str)) from I.hok l _ hl)
  refine GQ.call_here F.slot_list_count ⟨_, hp, rfl⟩ F.entry_list_count (F.args_list_count_2 _ _) ?_
  refine list_countG l (.str b tb) rs.length (fun i => decide (rs.getD i "" = b)) (fun _ s' => L2.Inv X pins σ H s') ?_ I (fun s' I' => ⟨.int _, H, I'.tok _, ⟨_, rfl⟩, q⟩)
  intro i s' I'
  obtain ⟨_, its, m, r, hp⟩ := (show ObjOk X.prog X.w H s'.heap l (.lst (rs.map V.str)) from I'.hok l _ hl)
  have hlen : its.length = rs.length := by rw [← r.length, List.length_map]
  refine ⟨its.toArray, m, hp, by simpa using hlen, fun h1 => ?_⟩
  have h1' : i < its.length := by simpa using h1
  have hix : i < rs.length := by omega
  obtain ⟨v, hv, rv⟩ := r.get (show (rs.map V.str)[i]? = some (.str rs[i]) by rw [List.getElem?_map, List.getElem?_eq_getElem hix]; rfl)
  have ev : its.toArray[i] = v := by
    rw [List.getElem?_eq_getElem h1'] at hv
    simpa using hv
  obtain ⟨tv, e2⟩ := (show ∃ t, v = Value.str rs[i] t from rv)
  rw [ev, e2]
  refine eqBool_tx ⟨?_, I'⟩
  show decide (rs[i] = b) = decide (rs.getD i "" = b)
  rw [List.getD_eq_getElem?_getD, List.getElem?_eq_getElem hix]
  rfl
theorem passF {P : Program} {w : World} (hP : X.prog = P) (hw : X.w = w) : Passes (L2.CX P w) X E0 := fun pins σ H s e s' I h => passNo (σ := σ) hP hw pins H s e s' I h
end
theorem cntB_count {rs : List Str} {b : Str} : ∀ (k i : Nat), i + k ≤ rs.length → cntB (fun i => decide (rs.getD i "" = b)) k i = ((((rs.drop i).take k).count b : Nat) : Int)
  | 0, i, _ => by simp [cntB]
  | k + 1, i, h => by
    have hi : i < rs.length := by omega
    have ih := cntB_count (rs := rs) (b := b) k (i + 1) (by omega)
    rw [List.drop_eq_getElem_cons hi, List.take_succ_cons, List.count_cons]
    show (if decide (rs.getD i "" = b) = true then (1 : Int) else 0) + cntB _ k (i + 1) = _
    rw [ih]
    have e : rs.getD i "" = rs[i] := by rw [List.getD_eq_getElem?_getD, List.getElem?_eq_getElem hi]; rfl
    rw [e]
    by_cases c : rs[i] = b
    · simp [c]; omega
    · simp [c]
theorem cnt_all {rs : List Str} {b : Str} : cntB (fun i => decide (rs.getD i "" = b)) rs.length 0 = ((rs.count b : Nat) : Int) := by
  have := cntB_count (rs := rs) (b := b) rs.length 0 (by omega)
  rw [this, List.drop_zero, List.take_length]
theorem nodup_count {rs : List Str} : (∀ z ∈ rs, ((rs.count z : Nat) : Int) = 1) ↔ rs.Nodup := by
  rw [List.nodup_iff_count]
  constructor
  · intro h z
    by_cases c : z ∈ rs
    · have := h z c; omega
    · rw [List.count_eq_zero_of_not_mem c]; omega
  · intro h z hz
    have h1 := h z
    have h2 := List.count_pos_iff.mpr hz
    omega
/-- an exception that is made, not raised: a value, and it stays -/
theorem pe_ofMk {X : Cx} {e : Expr} {t : L2.St → Hp → XK → Prop} (h : PMk X e t) : PE X e (fun σ H Q => t σ H fun cls d H' => ∀ a, H' a = none → Q (.ref a) (upd H' a (keptX cls d a))) := by
  constructor
  intro pins s σ H Q I q
  refine wpAny_mono (h pins s σ H _ I q) ?_ (fun _ _ x => x)
  rintro u s1 ⟨a, oe, vs, sI, H', cls, d, rfl, J, k, ne, ha, hz, hd, _, na, os, ag, _, q2⟩
  have J2 := J.laidN (t' := s1.toks) k ne na (keptX_ok ha hz hd)
  exact ⟨.ref a, upd H' a (keptX cls d a), ⟨J2.ok, os.trans J.os, ag, J2.base, J2.loc, J2.cell, J2.free, J2.freeC, J2.pin, J2.hok, J2.len⟩, rfl, q2 a na⟩
def topS (i : Nat) : Stmt := PySem.Challenge.pw_boatbridge_k26_allowed_minutes_of_a_stre.main.body.getD i (.Pass ⟨0, 0, 0, 0⟩)
abbrev sWall : Stmt := topS 0
abbrev NWall : List Str := ["k"]
theorem scWall : FnScope NWall ["k"] (defScope sWall) := ⟨rfl, rfl, rfl, by decide +kernel, rfl, by decide +kernel, by decide +kernel⟩
abbrev sShow : Stmt := topS 6
abbrev NShow : List Str := ["minute", "day", "clock", "hours", "minutes", "text"]
theorem scShow : FnScope NShow ["minute"] (defScope sShow) := ⟨rfl, rfl, rfl, by decide +kernel, rfl, by decide +kernel, by decide +kernel⟩
abbrev sMeet : Stmt := topS 17
abbrev NMeet : List Str := ["one", "other", "first", "behind"]
theorem scMeet : FnScope NMeet ["one", "other"] (defScope sMeet) := ⟨rfl, rfl, rfl, by decide +kernel, rfl, by decide +kernel, by decide +kernel⟩
abbrev sJoined : Stmt := topS 18
abbrev NJoined : List Str := ["some", "apart", "stretch", "full", "told"]
theorem scJoined : FnScope NJoined ["some", "apart"] (defScope sJoined) := ⟨rfl, rfl, rfl, by decide +kernel, rfl, by decide +kernel, by decide +kernel⟩
def xSt (l : List Stmt) (i : Nat) : Stmt := l.getD i (.Pass ⟨0, 0, 0, 0⟩)
def xEx (l : List Expr) (i : Nat) : Expr := l.getD i (.Name "" ⟨0, 0, 0, 0⟩)
def xBd : Stmt → List Stmt | .If _ b _ _ => b | .For _ _ b _ _ => b | .While _ b _ _ => b | .Try b _ _ _ _ => b | _ => []
def xEl : Stmt → List Stmt | .If _ _ o _ => o | _ => []
def xVl : Stmt → Expr | .Assign _ v _ => v | .Expr v _ => v | .Return (some v) _ => v | .For _ i _ _ _ => i | .If t _ _ _ => t | _ => .Name "" ⟨0, 0, 0, 0⟩
def xAr (i : Nat) : Expr → Expr | .Call _ a _ _ => xEx a i | .Compare l _ a _ => xEx (l :: a) i | .List a _ => xEx a i | .Tuple a _ _ => xEx a i | .BoolOp _ a _ => xEx a i | _ => .Name "" ⟨0, 0, 0, 0⟩
def xKw (i : Nat) : Expr → Expr | .Call _ _ k _ => ((k[i]?).map (·.value)).getD (.Name "" ⟨0, 0, 0, 0⟩) | _ => .Name "" ⟨0, 0, 0, 0⟩
def xSb : Expr → Expr | .Subscript v _ _ => v | .Attribute v _ _ => v | .ListComp e _ _ _ => e | .UnaryOp _ e _ => e | .Call f _ _ _ => f | .BinOp l _ _ _ => l | e => e
def xRt : Expr → Expr | .BinOp _ _ r _ => r | .ListComp _ (g :: _) _ _ => g.iter | e => e
def cmpSc : Expr → Scope | .ListComp _ _ c _ => c | _ => { kind := .function, names := [], isGenerator := false, isCoroutine := false }
def lamPa : Expr → Arguments | .Lambda a _ _ _ => a | _ => ⟨[], [], none, [], [], none, []⟩
def lamBo : Expr → Expr | .Lambda _ b _ _ => b | e => e
def lamSc : Expr → Scope | .Lambda _ _ c _ => c | _ => { kind := .function, names := [], isGenerator := false, isCoroutine := false }
abbrev lJoined_0 : Expr := xKw 0 (xVl (xSt (defBody sJoined) 2))
abbrev NlJoined_0 : List Str := ["row"]
theorem sclJoined_0 : FnScope NlJoined_0 ["row"] (lamSc lJoined_0) := ⟨rfl, rfl, rfl, by decide +kernel, rfl, by decide +kernel, by decide +kernel⟩
theorem blJoined_0 : ∀ (us : List Value) (pm cv ctv : Value), us.length = 1 → bindArgs (PySem.W.kla_fn "<lambda>" ("joined" ++ ".<locals>." ++ "<lambda>") (lamPa lJoined_0) (lamBo lJoined_0) (lamSc lJoined_0) [] pm cv ctv) ⟨us, []⟩ = pure ((["row"] : List Str).zip us) := fun us _ _ _ hl => match us, hl with | [_], _ => rfl
abbrev sGaps : Stmt := topS 19
abbrev NGaps : List Str := ["some", "within", "told", "first", "stretch", "behind"]
theorem scGaps : FnScope NGaps ["some", "within"] (defScope sGaps) := ⟨rfl, rfl, rfl, by decide +kernel, rfl, by decide +kernel, by decide +kernel⟩
abbrev sInWeeks : Stmt := topS 24
abbrev NInWeeks : List Str := ["some", "first", "behind", "week", "stretch"]
theorem scInWeeks : FnScope NInWeeks ["some", "first", "behind"] (defScope sInWeeks) := ⟨rfl, rfl, rfl, by decide +kernel, rfl, by decide +kernel, by decide +kernel⟩
abbrev sWhere : Stmt := topS 25
abbrev NWhere : List Str := ["rule", "allowed", "some", "part", "stretch"]
theorem scWhere : FnScope NWhere ["rule", "allowed"] (defScope sWhere) := ⟨rfl, rfl, rfl, by decide +kernel, rfl, by decide +kernel, by decide +kernel⟩
abbrev sSomeOrRest : Stmt := topS 26
abbrev NSomeOrRest : List Str := ["some", "told"]
theorem scSomeOrRest : FnScope NSomeOrRest ["some", "told"] (defScope sSomeOrRest) := ⟨rfl, rfl, rfl, by decide +kernel, rfl, by decide +kernel, by decide +kernel⟩
abbrev sWhereAlone : Stmt := topS 27
abbrev NWhereAlone : List Str := ["rule", "day", "stretch"]
theorem scWhereAlone : FnScope NWhereAlone ["rule"] (defScope sWhereAlone) := ⟨rfl, rfl, rfl, by decide +kernel, rfl, by decide +kernel, by decide +kernel⟩
abbrev sHoursOf : Stmt := topS 28
abbrev NHoursOf : List Str := ["hours", "midnight"]
theorem scHoursOf : FnScope NHoursOf ["hours", "midnight"] (defScope sHoursOf) := ⟨rfl, rfl, rfl, by decide +kernel, rfl, by decide +kernel, by decide +kernel⟩
abbrev sAllowedIn : Stmt := topS 30
abbrev NAllowedIn : List Str := ["rule", "within"]
theorem scAllowedIn : FnScope NAllowedIn ["rule", "within"] (defScope sAllowedIn) := ⟨rfl, rfl, rfl, by decide +kernel, rfl, by decide +kernel, by decide +kernel⟩
abbrev sTape : Stmt := topS 32
abbrev NTape : List Str := ["_law_script"]
theorem scTape : FnScope NTape ["_law_script"] (defScope sTape) := ⟨rfl, rfl, rfl, by decide +kernel, rfl, by decide +kernel, by decide +kernel⟩
abbrev sDraw : Stmt := topS 33
abbrev NDraw : List Str := ["_law_tape_here", "_law_many", "_law_digit", "_law_turn", "_law_cell", "_law_primes", "_law_prime", "_law_mixed"]
theorem scDraw : FnScope NDraw ["_law_tape_here", "_law_many"] (defScope sDraw) := ⟨rfl, rfl, rfl, by decide +kernel, rfl, by decide +kernel, by decide +kernel⟩
abbrev sPick : Stmt := topS 34
abbrev NPick : List Str := ["_law_tape_here", "_law_some"]
theorem scPick : FnScope NPick ["_law_tape_here", "_law_some"] (defScope sPick) := ⟨rfl, rfl, rfl, by decide +kernel, rfl, by decide +kernel, by decide +kernel⟩
abbrev sRule : Stmt := topS 35
abbrev NRule : List Str := ["_law_tape_here", "_law_deep", "_law_way", "_law_first", "_law_more", "_law_days", "_law_many", "_law_day", "_law_k"]
theorem scRule : FnScope NRule ["_law_tape_here", "_law_deep"] (defScope sRule) := ⟨rfl, rfl, rfl, by decide +kernel, rfl, by decide +kernel, by decide +kernel⟩
abbrev sWide : Stmt := topS 36
abbrev NWide : List Str := ["_law_tape_here", "_law_step", "_law_here", "_law_inner", "_law_k", "_law_hours", "_law_j", "_law_way", "_law_one"]
theorem scWide : FnScope NWide ["_law_tape_here"] (defScope sWide) := ⟨rfl, rfl, rfl, by decide +kernel, rfl, by decide +kernel, by decide +kernel⟩
abbrev sObject : Stmt := topS 37
abbrev NObject : List Str := ["_law_told_rule", "_law_inner", "_law_one"]
theorem scObject : FnScope NObject ["_law_told_rule"] (defScope sObject) := ⟨rfl, rfl, rfl, by decide +kernel, rfl, by decide +kernel, by decide +kernel⟩
abbrev sAllows : Stmt := topS 38
abbrev NAllows : List Str := ["_law_told_rule", "_law_minute", "_law_clock", "_law_day", "_law_told", "_law_one"]
theorem scAllows : FnScope NAllows ["_law_told_rule", "_law_minute"] (defScope sAllows) := ⟨rfl, rfl, rfl, by decide +kernel, rfl, by decide +kernel, by decide +kernel⟩
abbrev sClocks : Stmt := topS 39
abbrev NClocks : List Str := ["_law_told_rule", "_law_found", "_law_one"]
theorem scClocks : FnScope NClocks ["_law_told_rule"] (defScope sClocks) := ⟨rfl, rfl, rfl, by decide +kernel, rfl, by decide +kernel, by decide +kernel⟩
abbrev sPieces : Stmt := topS 40
abbrev NPieces : List Str := ["_law_told_rule", "_law_first", "_law_behind", "_law_edges", "_law_day", "_law_clock", "_law_found", "_law_here", "_law_there"]
theorem scPieces : FnScope NPieces ["_law_told_rule", "_law_first", "_law_behind"] (defScope sPieces) := ⟨rfl, rfl, rfl, by decide +kernel, rfl, by decide +kernel, by decide +kernel⟩
abbrev sLIs : Stmt := topS 41
abbrev NLIs : List Str := ["_law_told", "_law_due", "_law_one"]
theorem scLIs : FnScope NLIs ["_law_told", "_law_due"] (defScope sLIs) := ⟨rfl, rfl, rfl, by decide +kernel, rfl, by decide +kernel, by decide +kernel⟩
abbrev sWideRight : Stmt := topS 42
abbrev NWideRight : List Str := ["_law_tape_here", "_law_told_rule", "_law_first", "_law_behind"]
theorem scWideRight : FnScope NWideRight ["_law_tape_here"] (defScope sWideRight) := ⟨rfl, rfl, rfl, by decide +kernel, rfl, by decide +kernel, by decide +kernel⟩
abbrev sDeepRight : Stmt := topS 43
abbrev NDeepRight : List Str := ["_law_tape_here", "_law_told_rule", "_law_first", "_law_behind"]
theorem scDeepRight : FnScope NDeepRight ["_law_tape_here"] (defScope sDeepRight) := ⟨rfl, rfl, rfl, by decide +kernel, rfl, by decide +kernel, by decide +kernel⟩
abbrev sLaw : Stmt := topS 44
abbrev NLaw : List Str := ["_law_script", "_law_tape_here", "_law_way", "_law_turn", "_law_told_rule", "_law_one", "_law_first", "_law_long", "_law_inside", "_law_due", "_law_told", "_law_near", "_law_other"]
theorem scLaw : FnScope NLaw ["_law_script"] (defScope sLaw) := ⟨rfl, rfl, rfl, by decide +kernel, rfl, by decide +kernel, by decide +kernel⟩
abbrev sRuleAllows : Stmt := inClass (topS 9) 0
abbrev NRuleAllows : List Str := ["self", "minute"]
theorem scRuleAllows : FnScope NRuleAllows ["self", "minute"] (defScope sRuleAllows) := ⟨rfl, rfl, rfl, by decide +kernel, rfl, by decide +kernel, by decide +kernel⟩
abbrev sHoursInit : Stmt := inClass (topS 10) 0
abbrev NHoursInit : List Str := ["self", "first", "behind"]
theorem scHoursInit : FnScope NHoursInit ["self", "first", "behind"] (defScope sHoursInit) := ⟨rfl, rfl, rfl, by decide +kernel, rfl, by decide +kernel, by decide +kernel⟩
abbrev sHoursEq : Stmt := inClass (topS 10) 1
abbrev NHoursEq : List Str := ["self", "other"]
theorem scHoursEq : FnScope NHoursEq ["self", "other"] (defScope sHoursEq) := ⟨rfl, rfl, rfl, by decide +kernel, rfl, by decide +kernel, by decide +kernel⟩
abbrev sHoursStr : Stmt := inClass (topS 10) 2
abbrev NHoursStr : List Str := ["self"]
theorem scHoursStr : FnScope NHoursStr ["self"] (defScope sHoursStr) := ⟨rfl, rfl, rfl, by decide +kernel, rfl, by decide +kernel, by decide +kernel⟩
abbrev sHoursAllows : Stmt := inClass (topS 10) 3
abbrev NHoursAllows : List Str := ["self", "minute", "clock"]
theorem scHoursAllows : FnScope NHoursAllows ["self", "minute"] (defScope sHoursAllows) := ⟨rfl, rfl, rfl, by decide +kernel, rfl, by decide +kernel, by decide +kernel⟩
abbrev sDaysInit : Stmt := inClass (topS 11) 0
abbrev NDaysInit : List Str := ["self", "days"]
theorem scDaysInit : FnScope NDaysInit ["self", "days"] (defScope sDaysInit) := ⟨rfl, rfl, rfl, by decide +kernel, rfl, by decide +kernel, by decide +kernel⟩
abbrev sDaysEq : Stmt := inClass (topS 11) 1
abbrev NDaysEq : List Str := ["self", "other"]
theorem scDaysEq : FnScope NDaysEq ["self", "other"] (defScope sDaysEq) := ⟨rfl, rfl, rfl, by decide +kernel, rfl, by decide +kernel, by decide +kernel⟩
abbrev sDaysStr : Stmt := inClass (topS 11) 2
abbrev NDaysStr : List Str := ["self", "day"]
theorem scDaysStr : FnScope NDaysStr ["self"] (defScope sDaysStr) := ⟨rfl, rfl, rfl, by decide +kernel, rfl, by decide +kernel, by decide +kernel⟩
abbrev sDaysAllows : Stmt := inClass (topS 11) 3
abbrev NDaysAllows : List Str := ["self", "minute"]
theorem scDaysAllows : FnScope NDaysAllows ["self", "minute"] (defScope sDaysAllows) := ⟨rfl, rfl, rfl, by decide +kernel, rfl, by decide +kernel, by decide +kernel⟩
abbrev sUnlessInit : Stmt := inClass (topS 12) 0
abbrev NUnlessInit : List Str := ["self", "rule"]
theorem scUnlessInit : FnScope NUnlessInit ["self", "rule"] (defScope sUnlessInit) := ⟨rfl, rfl, rfl, by decide +kernel, rfl, by decide +kernel, by decide +kernel⟩
abbrev sUnlessEq : Stmt := inClass (topS 12) 1
abbrev NUnlessEq : List Str := ["self", "other"]
theorem scUnlessEq : FnScope NUnlessEq ["self", "other"] (defScope sUnlessEq) := ⟨rfl, rfl, rfl, by decide +kernel, rfl, by decide +kernel, by decide +kernel⟩
abbrev sUnlessStr : Stmt := inClass (topS 12) 2
abbrev NUnlessStr : List Str := ["self"]
theorem scUnlessStr : FnScope NUnlessStr ["self"] (defScope sUnlessStr) := ⟨rfl, rfl, rfl, by decide +kernel, rfl, by decide +kernel, by decide +kernel⟩
abbrev sUnlessAllows : Stmt := inClass (topS 12) 3
abbrev NUnlessAllows : List Str := ["self", "minute"]
theorem scUnlessAllows : FnScope NUnlessAllows ["self", "minute"] (defScope sUnlessAllows) := ⟨rfl, rfl, rfl, by decide +kernel, rfl, by decide +kernel, by decide +kernel⟩
abbrev sBothInit : Stmt := inClass (topS 13) 0
abbrev NBothInit : List Str := ["self", "rules"]
theorem scBothInit : FnScope NBothInit ["self", "rules"] (defScope sBothInit) := ⟨rfl, rfl, rfl, by decide +kernel, rfl, by decide +kernel, by decide +kernel⟩
abbrev sBothEq : Stmt := inClass (topS 13) 1
abbrev NBothEq : List Str := ["self", "other"]
theorem scBothEq : FnScope NBothEq ["self", "other"] (defScope sBothEq) := ⟨rfl, rfl, rfl, by decide +kernel, rfl, by decide +kernel, by decide +kernel⟩
abbrev sBothStr : Stmt := inClass (topS 13) 2
abbrev NBothStr : List Str := ["self", "rule"]
theorem scBothStr : FnScope NBothStr ["self"] (defScope sBothStr) := ⟨rfl, rfl, rfl, by decide +kernel, rfl, by decide +kernel, by decide +kernel⟩
abbrev sBothAllows : Stmt := inClass (topS 13) 3
abbrev NBothAllows : List Str := ["self", "minute", "rule"]
theorem scBothAllows : FnScope NBothAllows ["self", "minute"] (defScope sBothAllows) := ⟨rfl, rfl, rfl, by decide +kernel, rfl, by decide +kernel, by decide +kernel⟩
abbrev sEitherInit : Stmt := inClass (topS 14) 0
abbrev NEitherInit : List Str := ["self", "rules"]
theorem scEitherInit : FnScope NEitherInit ["self", "rules"] (defScope sEitherInit) := ⟨rfl, rfl, rfl, by decide +kernel, rfl, by decide +kernel, by decide +kernel⟩
abbrev sEitherEq : Stmt := inClass (topS 14) 1
abbrev NEitherEq : List Str := ["self", "other"]
theorem scEitherEq : FnScope NEitherEq ["self", "other"] (defScope sEitherEq) := ⟨rfl, rfl, rfl, by decide +kernel, rfl, by decide +kernel, by decide +kernel⟩
abbrev sEitherStr : Stmt := inClass (topS 14) 2
abbrev NEitherStr : List Str := ["self", "rule"]
theorem scEitherStr : FnScope NEitherStr ["self"] (defScope sEitherStr) := ⟨rfl, rfl, rfl, by decide +kernel, rfl, by decide +kernel, by decide +kernel⟩
abbrev sEitherAllows : Stmt := inClass (topS 14) 3
abbrev NEitherAllows : List Str := ["self", "minute", "rule"]
theorem scEitherAllows : FnScope NEitherAllows ["self", "minute"] (defScope sEitherAllows) := ⟨rfl, rfl, rfl, by decide +kernel, rfl, by decide +kernel, by decide +kernel⟩
abbrev sSInit : Stmt := inClass (topS 16) 0
abbrev NSInit : List Str := ["self", "first", "behind"]
theorem scSInit : FnScope NSInit ["self", "first", "behind"] (defScope sSInit) := ⟨rfl, rfl, rfl, by decide +kernel, rfl, by decide +kernel, by decide +kernel⟩
abbrev sSEq : Stmt := inClass (topS 16) 1
abbrev NSEq : List Str := ["self", "other"]
theorem scSEq : FnScope NSEq ["self", "other"] (defScope sSEq) := ⟨rfl, rfl, rfl, by decide +kernel, rfl, by decide +kernel, by decide +kernel⟩
abbrev sSLen : Stmt := inClass (topS 16) 2
abbrev NSLen : List Str := ["self"]
theorem scSLen : FnScope NSLen ["self"] (defScope sSLen) := ⟨rfl, rfl, rfl, by decide +kernel, rfl, by decide +kernel, by decide +kernel⟩
abbrev sSStr : Stmt := inClass (topS 16) 3
abbrev NSStr : List Str := ["self"]
theorem scSStr : FnScope NSStr ["self"] (defScope sSStr) := ⟨rfl, rfl, rfl, by decide +kernel, rfl, by decide +kernel, by decide +kernel⟩
abbrev sSRepr : Stmt := inClass (topS 16) 4
abbrev NSRepr : List Str := ["self"]
theorem scSRepr : FnScope NSRepr ["self"] (defScope sSRepr) := ⟨rfl, rfl, rfl, by decide +kernel, rfl, by decide +kernel, by decide +kernel⟩
abbrev sWeekInit : Stmt := inClass (topS 23) 0
abbrev NWeekInit : List Str := ["self", "rule"]
theorem scWeekInit : FnScope NWeekInit ["self", "rule"] (defScope sWeekInit) := ⟨rfl, rfl, rfl, by decide +kernel, rfl, by decide +kernel, by decide +kernel⟩
abbrev sWeekSoonest : Stmt := inClass (topS 23) 1
abbrev NWeekSoonest : List Str := ["self", "minute", "long"]
theorem scWeekSoonest : FnScope NWeekSoonest ["self", "minute", "long"] (defScope sWeekSoonest) := ⟨rfl, rfl, rfl, by decide +kernel, rfl, by decide +kernel, by decide +kernel⟩
abbrev sWeekAllowedWithin : Stmt := inClass (topS 23) 2
abbrev NWeekAllowedWithin : List Str := ["self", "within", "weeks", "cut", "stretch"]
theorem scWeekAllowedWithin : FnScope NWeekAllowedWithin ["self", "within"] (defScope sWeekAllowedWithin) := ⟨rfl, rfl, rfl, by decide +kernel, rfl, by decide +kernel, by decide +kernel⟩
abbrev sNInit : Stmt := inClass (topS 2) 0
abbrev NNInit : List Str := ["self", "first", "behind"]
theorem scNInit : FnScope NNInit ["self", "first", "behind"] (defScope sNInit) := ⟨rfl, rfl, rfl, by decide +kernel, rfl, by decide +kernel, by decide +kernel⟩

/-- the tape at T: the cells' list, the draws done (at most n), the rest of a great cell -/
structure Tape (H : Hp) (T c : Addr) (n : Nat) : Prop where
  ex : ∃ (t r : Int) (ns : List Int), H T = some (.lst [.ref c, .int t, .int r]) ∧ H c = some (.lst (ns.map V.int)) ∧ c ≠ T ∧ 0 ≤ t ∧ t ≤ n ∧ ns.length ≤ 63
/-- all but the tape stands as it stood -/
def Keep (T : Addr) (H H' : Hp) : Prop := ∀ a o, a ≠ T → H a = some o → H' a = some o
theorem Keep.refl {T : Addr} {H : Hp} : Keep T H H := fun _ _ _ e => e
theorem Keep.trans {T : Addr} {H H1 H2 : Hp} (a : Keep T H H1) (b : Keep T H1 H2) : Keep T H H2 := fun x o n e => b x o n (a x o n e)
theorem Keep.updT {T : Addr} {H H1 : Hp} {o : HO} (a : Keep T H H1) : Keep T H (upd H1 T o) := fun x o n e => by
  rw [upd_ne n]; exact a x o n e
theorem Keep.new {T : Addr} {H H1 : Hp} {p : Addr} {o : HO} (a : Keep T H H1) (h : H1 p = none) : Keep T H (upd H1 p o) := fun x o n e => by
  have z := a x o n e
  rw [upd_ne (ne_of_none z h)]; exact z
theorem Tape.mono {H : Hp} {T c : Addr} {n m : Nat} (h : Tape H T c n) (l : n ≤ m) : Tape H T c m := by
  obtain ⟨t, r, ns, h1, h2, h3, h4, h5, h6⟩ := h.ex
  exact ⟨t, r, ns, h1, h2, h3, h4, by omega, h6⟩
theorem Tape.upd {H : Hp} {T c : Addr} {n : Nat} {p : Addr} {o : HO} (h : Tape H T c n) (n1 : p ≠ T) (n2 : p ≠ c) : Tape (upd H p o) T c n := by
  obtain ⟨t, r, ns, h1, h2, h3, h4, h5, h6⟩ := h.ex
  exact ⟨t, r, ns, by rw [upd_ne n1.symm]; exact h1, by rw [upd_ne n2.symm]; exact h2, h3, h4, h5, h6⟩
theorem Tape.new {H : Hp} {T c : Addr} {n : Nat} {p : Addr} {o : HO} (h : Tape H T c n) (hp : H p = none) : Tape (L2.upd H p o) T c n := by
  obtain ⟨t, r, ns, h1, h2, h3, h4, h5, h6⟩ := h.ex
  exact ⟨t, r, ns, by rw [upd_ne (ne_of_none h1 hp)]; exact h1, by rw [upd_ne (ne_of_none h2 hp)]; exact h2, h3, h4, h5, h6⟩
theorem Tape.nec {H : Hp} {T c : Addr} {n : Nat} {p : Addr} (h : Tape H T c n) (hp : H p = none) : p ≠ c := by
  obtain ⟨t, r, ns, _, h2, _⟩ := h.ex
  exact (ne_of_none h2 hp).symm
theorem Tape.ne {H : Hp} {T c : Addr} {n : Nat} {p : Addr} (h : Tape H T c n) (hp : H p = none) : p ≠ T := by
  obtain ⟨t, r, ns, h1, _⟩ := h.ex
  exact (ne_of_none h1 hp).symm
theorem upd_at {H : Hp} {p a : Addr} {o z : HO} (hp : H p = none) (h : H a = some z) : (upd H p o) a = some z := by
  rw [upd_ne (ne_of_none h hp)]; exact h
def spTape (K : PySem.W.Frag) : Sp := fun vs H Q _ => ∃ (a : Addr) (ns : List Int), vs = [.ref a] ∧ SqL K H a (ns.map V.int) ∧ ns.length ≤ 63 ∧
  ∀ T c H', H T = none → H c = none → Same H H' → Tape H' T c 0 → Q (.ref T) H'
def spDraw : Sp := fun vs H Q _ => ∃ (T c : Addr) (b : Int) (n : Nat), vs = [.ref T, .int b] ∧ 0 < b ∧ b < 1073741824 ∧ n < 1000000 ∧ Tape H T c n ∧
  ∀ d H', 0 ≤ d → d < b → Tape H' T c (n + 1) → Keep T H H' → Q (.int d) H'
/-- an item of a list, any one -/
def spPick : Sp := fun vs H Q _ => ∃ (T c p : Addr) (xs : List V) (n : Nat), vs = [.ref T, .ref p] ∧ H p = some (.lst xs) ∧ p ≠ T ∧ 0 < xs.length ∧ xs.length < 1000000 ∧ n < 1000000 ∧ Tape H T c n ∧
  ∀ (j : Nat) (x : V) H', xs[j]? = some x → Tape H' T c (n + 1) → Keep T H H' → Q x H'
theorem dp_ints {K : PySem.W.Frag} {H : Hp} : ∀ ns : List Int, DpAll K H (ns.map V.int) (ns.map PyData.int)
  | [] => .nil
  | _ :: r => .cons (.int _) (dp_ints r)
theorem cut63 {ns : List Int} (h : ns.length ≤ 63) : cutV (ns.map V.int) none (some 63) = ns.map V.int := by
  unfold cutV
  rw [HT.sIx_none, show HT.sIx (ns.map V.int).length (ns.map V.int).length (some 63) = min 63 (ns.map V.int).length from HT.sIx_nat _ _ 63, List.length_map, Nat.min_eq_right h]
  show ((ns.map V.int).take (ns.length - 0)) = _
  rw [Nat.sub_zero]
  exact List.take_of_length_le (by rw [List.length_map]; exact Nat.le_refl _)
theorem fmod_in {a b : Int} (h : 0 < b) : 0 ≤ a.fmod b ∧ a.fmod b < b := by
  rw [Int.fmod_eq_emod_of_nonneg a (Int.le_of_lt h)]; exact ⟨Int.emod_nonneg a (by omega), Int.emod_lt_of_pos a h⟩
theorem prime_at (t : Int) : ∃ (j : Nat) (p : Int), t.fmod 5 = (j : Int) ∧ ([.int 2147483647, .int 2147483629, .int 2147483587, .int 2147483579, .int 2147483563] : List V)[j]? = some (.int p) ∧ 0 < p ∧ p < 2147483648 := by
  obtain ⟨h1, h2⟩ := fmod_in (a := t) (b := 5) (by decide)
  generalize t.fmod 5 = z at h1 h2
  have : z = 0 ∨ z = 1 ∨ z = 2 ∨ z = 3 ∨ z = 4 := by omega
  rcases this with rfl | rfl | rfl | rfl | rfl
  · exact ⟨0, _, rfl, rfl, by decide, by decide⟩
  · exact ⟨1, _, rfl, rfl, by decide, by decide⟩
  · exact ⟨2, _, rfl, rfl, by decide, by decide⟩
  · exact ⟨3, _, rfl, rfl, by decide, by decide⟩
  · exact ⟨4, _, rfl, rfl, by decide, by decide⟩
/-- what the law's helpers ask of the module's names -/
structure Txt0 (mg : Str → Option Value) : Prop where
  mlen : mg "len" = none
section
variable {P : Program} {w : World} {K : PySem.W.Frag} {mg : Str → Option Value} {base : Heap}
theorem ok_draw {f : Addr} {fd : FuncData} {k : Nat} (F : Fun K "_law_draw" "_law_draw" sDraw f fd) (T : Txt0 mg) : FnOk P w K mg base CX0 (k + 1) f fd ["_law_tape_here", "_law_many"] spDraw := by
  refine F.ok scDraw (fun vs H Q E h => ?_) (fun cdv A outer s H vs Q E hr h => ?_)
  · obtain ⟨T, c, b, n, rfl, _⟩ := h
    rfl
  · obtain ⟨a, c, b, n, rfl, hb0, hb1, hn, hT, q⟩ := h
    obtain ⟨t, r, ns, h1, h2, h3, h4, h5, h6⟩ := hT.ex
    refine ⟨_,
      (pss_cons (ps_if (pt_cmpR op_gt (pe_ix ix_list (pv 0) pe_int (fun _ _ => rfl)) pe_int (nomark _))
      (pss_cons (ps_set (i := 2) scDraw.nd rfl (.inl rfl) (pe_op op_modN (pe_ix ix_list (pv 0) pe_int (fun _ _ => rfl)) (pv 1)))
      (pss_cons (ps_asg (pe_op op_fdivN (pe_ix ix_list (pv 0) pe_int (fun _ _ => rfl)) (pv 1)) (pg_sub (pv 0) pe_int set_list))
      (pss_one (ps_ret (pv 2)))))
      pss_nil)
      (pss_cons (ps_set (i := 3) scDraw.nd rfl (.inl rfl) (pe_ix ix_list (pv 0) pe_int (fun _ _ => rfl)))
      (pss_cut (ps_asg (pe_op op_add (pv 3) pe_int) (pg_sub (pv 0) pe_int set_list))
      (pss_cons (ps_set (i := 4) scDraw.nd rfl (.inl rfl) pe_int)
      (pss_cut (ps_if (pt_cmpR (op_neD hr.units) (pe_ix ix_list (pv 0) pe_int (fun _ _ => rfl)) (pe_lst pa_nil) (nomark _))
      (pss_one (ps_set (i := 4) scDraw.nd rfl (.inl rfl) (pe_ix ix_list (pe_ix ix_list (pv 0) pe_int (fun _ _ => rfl)) (pe_op op_modN (pv 3) (pe_callB call_len_seq (by rfl) T.mlen PySem.boot_len (pa_cons (pe_ix ix_list (pv 0) pe_int (fun _ _ => rfl)) pa_nil))) (fun _ _ => rfl))))
      pss_nil)
      (pss_cut (ps_if (PW.pt (pw_and (pt_cmpR op_ge (pv 4) (pe_op op_pow pe_int pe_int) (nomark _)) (pw_and1 (pt_cmpR op_lt (pv 3) (pe_callB call_len_seq (by rfl) T.mlen PySem.boot_len (pa_cons (pe_ix ix_list (pv 0) pe_int (fun _ _ => rfl)) pa_nil)) (nomark _)))))
      (pss_cons (ps_asg (pe_op op_fdivN (pe_op op_sub (pv 4) (pe_op op_pow pe_int pe_int)) (pv 1)) (pg_sub (pv 0) pe_int set_list))
      (pss_one (ps_ret (pe_op op_modN (pe_op op_sub (pv 4) (pe_op op_pow pe_int pe_int)) (pv 1)))))
      pss_nil)
      (pss_cons (ps_set (i := 5) scDraw.nd rfl (.inl rfl) (pe_lst (pa_cons pe_int (pa_cons pe_int (pa_cons pe_int (pa_cons pe_int (pa_cons pe_int pa_nil)))))))
      (pss_cons (ps_set (i := 6) scDraw.nd rfl (.inl rfl) (pe_ix ix_list (pv 5) (pe_op op_modN (pv 3) pe_int) (fun _ _ => rfl)))
      (pss_cut (ps_set (i := 7) scDraw.nd rfl (.inl rfl) (pe_op op_modN (pe_op op_add (pe_op op_add (pe_op op_add (pe_op op_mul (pe_op op_modN (pv 4) (pv 6)) pe_int) (pe_op op_mul (pe_op op_mul pe_int (pv 3)) (pv 3))) (pe_op op_mul pe_int (pv 3))) pe_int) (pv 6)))
      (pss_cut (ps_set (i := 7) scDraw.nd rfl (.inl rfl) (pe_op op_modN (pe_op op_mul (pv 7) (pe_op op_add (pv 7) pe_int)) (pe_ix ix_list (pv 5) (pe_op op_modN (pe_op op_add (pv 3) pe_int) pe_int) (fun _ _ => rfl))))
      (pss_one (ps_ret (pe_op op_modN (pe_op op_fdivN (pe_op op_modN (pe_op op_mul (pv 7) (pv 7)) pe_int) pe_int) (pv 1))))))))))))))
      , ?_⟩
    -- if tape[2] > 0
    refine ⟨_, rfl, a, _, 2, _, rfl, rfl, SqL.of h1, atI_nat (j := 2) rfl, _, _, rfl, rfl, _, rfl, ite2 (fun _ => ?_) (fun _ => ?_)⟩
    · obtain ⟨e1, e2⟩ := fmod_in (a := r) hb0
      refine ⟨_, rfl, a, _, 2, _, rfl, rfl, SqL.of h1, atI_nat (j := 2) rfl, _, rfl, _, _, rfl, rfl, by omega, ?_⟩
      refine ⟨_, rfl, a, _, 2, _, rfl, rfl, SqL.of h1, atI_nat (j := 2) rfl, _, rfl, _, _, rfl, rfl, ⟨by omega, by omega⟩, ?_⟩
      refine ⟨_, rfl, a, _, 2, 2, rfl, rfl, h1, rfl, ?_⟩
      refine ⟨_, rfl, q _ _ e1 e2 ⟨t, _, ns, upd_same, ?_, h3, h4, by omega, h6⟩ Keep.refl.updT⟩
      rw [upd_ne h3]; exact h2
    · refine ⟨_, rfl, a, _, 1, _, rfl, rfl, SqL.of h1, atI_nat (j := 1) rfl, ?_⟩
      refine ⟨fun σ H2 => σ = [some (.ref a), some (.int b), none, some (.int t), none, none, none, none] ∧ H2 a = some (.lst [.ref c, .int (t + 1), .int r]) ∧ H2 c = some (.lst (ns.map V.int)) ∧ Keep a H H2, ?_, ?_⟩
      · refine ⟨_, rfl, _, _, rfl, rfl, _, rfl, a, _, 1, 1, rfl, rfl, h1, rfl, rfl, upd_same, ?_, Keep.refl.updT⟩
        rw [upd_ne h3]; exact h2
      rintro σ H1 ⟨rfl, g1, g2, k0⟩
      -- if tape[0] != []: the two ways meet at a cell, any one
      refine ⟨fun σ H2 => ∃ cell : Int, σ = [some (.ref a), some (.int b), none, some (.int t), some (.int cell), none, none, none] ∧ H2 a = some (.lst [.ref c, .int (t + 1), .int r]) ∧ H2 c = some (.lst (ns.map V.int)) ∧ Keep a H H2, ?_, ?_⟩
      · refine ⟨_, rfl, a, _, 0, _, rfl, rfl, SqL.of g1, atI_nat (j := 0) rfl, Nat.zero_le _, fun l hl => ?_⟩
        have u1 := upd_at (o := .lst []) hl g1
        have u2 := upd_at (o := .lst []) hl g2
        refine ⟨_, .list [], .lst (SqL.of u2) (dp_ints _), .lst (SqL.of upd_same) .nil, ke_shaped_ints ns, ke_shaped_ints [], _, rfl, ?_⟩
        cases hns : ns with
        | nil => exact iteF ⟨0, rfl, u1, by rw [← hns]; exact u2, k0.new hl⟩
        | cons z zs =>
          refine iteT ?_
          rw [← hns]
          have hpos : 0 < (ns.length : Int) := by rw [hns]; simp
          refine ⟨_, rfl, a, _, 0, _, rfl, rfl, SqL.of u1, atI_nat (j := 0) rfl, _, rfl, _, rfl, a, _, 0, _, rfl, rfl, SqL.of u1, atI_nat (j := 0) rfl, c, _, rfl, .inl (SqL.of u2), _, _, rfl, rfl, ?_, ?_⟩
          · rw [List.length_map]; omega
          · obtain ⟨e1, e2⟩ := fmod_in (a := t) hpos
            obtain ⟨j, hj⟩ := Int.eq_ofNat_of_zero_le e1
            have hj2 : j < ns.length := by omega
            refine ⟨c, _, (j : Int), .int ns[j], rfl, ?_, SqL.of u2, atI_nat ?_, _, rfl, u1, u2, k0.new hl⟩
            · exact congrArg V.int (by rw [List.length_map]; exact hj)
            · rw [List.getElem?_map, List.getElem?_eq_getElem hj2]; rfl
      · rintro σ H2 ⟨cell, rfl, u1, u2, k2⟩
        -- if cell >= 10 ** 18 and turn < len(tape[0])
        have tp : ∀ (r' : Int) (H3 : Hp), H3 a = some (.lst [.ref c, .int (t + 1), .int r']) → H3 c = some (.lst (ns.map V.int)) → Tape H3 a c (n + 1) := fun r' H3 x1 x2 => ⟨t + 1, r', ns, x1, x2, h3, by omega, by omega, h6⟩
        refine ⟨fun σ H3 => σ = [some (.ref a), some (.int b), none, some (.int t), some (.int cell), none, none, none] ∧ H3 = H2, ?_, ?_⟩
        · refine ⟨_, rfl, _, _, rfl, rfl, ⟨by decide, by decide, by decide⟩, _, _, rfl, rfl, _, rfl, ite2 (fun _ => ?_) (fun _ => iteF ⟨rfl, rfl⟩)⟩
          refine ⟨_, rfl, _, rfl, a, _, 0, _, rfl, rfl, SqL.of u1, atI_nat (j := 0) rfl, c, _, rfl, .inl (SqL.of u2), _, _, rfl, rfl, _, rfl, ite2 (fun _ => ?_) (fun _ => ⟨rfl, rfl⟩)⟩
          refine ⟨_, rfl, _, _, rfl, rfl, ⟨by decide, by decide, by decide⟩, _, _, rfl, rfl, _, rfl, _, _, rfl, rfl, ⟨by omega, by omega⟩, _, rfl, a, _, 2, 2, rfl, rfl, u1, rfl, ?_⟩
          refine ⟨_, rfl, _, _, rfl, rfl, ⟨by decide, by decide, by decide⟩, _, _, rfl, rfl, _, rfl, _, _, rfl, rfl, by omega, ?_⟩
          exact q _ _ (fmod_in hb0).1 (fmod_in hb0).2 (tp _ _ upd_same (by rw [upd_ne h3]; exact u2)) k2.updT
        · rintro σ H3 ⟨rfl, rfl⟩
          -- the five primes, the mixing
          refine ⟨by show 5 ≤ sizeLine; decide, fun l hl => ?_⟩
          have w1 := upd_at (o := .lst [.int 2147483647, .int 2147483629, .int 2147483587, .int 2147483579, .int 2147483563]) hl u1
          have w2 := upd_at (o := .lst [.int 2147483647, .int 2147483629, .int 2147483587, .int 2147483579, .int 2147483563]) hl u2
          have w3 := upd_same (H := H3) (a := l) (o := .lst [.int 2147483647, .int 2147483629, .int 2147483587, .int 2147483579, .int 2147483563])
          obtain ⟨j1, p1, ej1, ep1, hp1, hq1⟩ := prime_at t
          obtain ⟨j2, p2, ej2, ep2, hp2, hq2⟩ := prime_at (t + 2)
          refine ⟨_, rfl, _, rfl, _, _, rfl, rfl, (by show (5 : Int) ≠ 0; decide), l, _, (j1 : Int), _, rfl, congrArg V.int ej1, SqL.of w3, atI_nat ep1, ?_⟩
          have late : ∀ {A B : Prop}, A → A := fun h => h
          refine ⟨fun σ H4 => ∃ m1 : Int, 0 ≤ m1 ∧ m1 < p1 ∧ σ = [some (.ref a), some (.int b), none, some (.int t), some (.int cell), some (.ref l), some (.int p1), some (.int m1)] ∧ H4 = upd H3 l (.lst [.int 2147483647, .int 2147483629, .int 2147483587, .int 2147483579, .int 2147483563]), ?_, ?_⟩
          · refine ⟨_, rfl, _, rfl, _, _, rfl, rfl, by omega, _, _, rfl, rfl, .inr ⟨by decide, by decide⟩, _, rfl, _, _, rfl, rfl, .inl ⟨by decide, by decide⟩, _, rfl, _, _, rfl, rfl, .inr ⟨by omega, by omega⟩, _, _, rfl, rfl, _, rfl, _, _, rfl, rfl, .inl ⟨by decide, by decide⟩, _, _, rfl, rfl, _, _, rfl, rfl, _, rfl, _, _, rfl, rfl, by omega, ?_⟩
            exact ⟨_, (fmod_in hp1).1, (fmod_in hp1).2, rfl, rfl⟩
          rintro σ H4 ⟨m1, m10, m11, rfl, rfl⟩
          refine ⟨fun σ H4 => ∃ m2 : Int, 0 ≤ m2 ∧ m2 < p2 ∧ σ = [some (.ref a), some (.int b), none, some (.int t), some (.int cell), some (.ref l), some (.int p1), some (.int m2)] ∧ H4 = upd H3 l (.lst [.int 2147483647, .int 2147483629, .int 2147483587, .int 2147483579, .int 2147483563]), ?_, ?_⟩
          · refine ⟨_, rfl, _, rfl, _, _, rfl, rfl, _, _, rfl, rfl, .inl ⟨by omega, by omega⟩, _, rfl, _, rfl, _, _, rfl, rfl, _, _, rfl, rfl, (by show (5 : Int) ≠ 0; decide), l, _, (j2 : Int), _, rfl, congrArg V.int ej2, SqL.of w3, atI_nat ep2, _, _, rfl, rfl, by omega, ?_⟩
            exact ⟨_, (fmod_in hp2).1, (fmod_in hp2).2, rfl, rfl⟩
          rintro σ H4 ⟨m2, m20, m21, rfl, rfl⟩
          refine ⟨_, rfl, _, rfl, _, _, rfl, rfl, .inl ⟨by omega, by omega⟩, _, _, rfl, rfl, (by show (2147483549 : Int) ≠ 0; decide), _, _, rfl, rfl, ⟨by decide, by decide⟩, _, rfl, _, _, rfl, rfl, by omega, ?_⟩
          exact q _ _ (fmod_in hb0).1 (fmod_in hb0).2 (tp _ _ w1 w2) (k2.new hl)
/-- an item of a list by a draw -/
theorem ok_pick {f fD : Addr} {fd fdD : FuncData} {k : Nat} (F : Fun K "_law_pick" "_law_pick" sPick f fd) (T : Txt0 mg) (F_law_draw : Fun K "_law_draw" "_law_draw" sDraw fD fdD) (g_law_draw : mg "_law_draw" = some (.ref fD)) (b_law_draw : Binds K fdD ["_law_tape_here", "_law_many"] []) :
    FnOk P w K mg base CX0 (k + 2) f fd ["_law_tape_here", "_law_some"] spPick := by
  have G_law_draw : FnOk P w K mg base CX0 (k + 1) fD fdD ["_law_tape_here", "_law_many"] spDraw := ok_draw F_law_draw T
  refine F.ok scPick (fun vs H Q E h => ?_) (fun cdv A outer s H vs Q E hr h => ?_)
  · obtain ⟨T, c, p, xs, n, rfl, _⟩ := h
    rfl
  · obtain ⟨a, c, p, xs, n, rfl, hS, hpa, hx0, hx1, hn, hT, q⟩ := h
    have hr_law_draw := hr
    refine ⟨_,
      (pss_one (ps_ret (pe_ix ix_list (pv 1) (pe_call G_law_draw hr_law_draw (by rfl) g_law_draw F_law_draw.kp b_law_draw .nil pass0 (pa_cons (pv 0) (pa_cons (pe_callB call_len_seq (by rfl) T.mlen PySem.boot_len (pa_cons (pv 1) pa_nil)) pa_nil))) (fun _ _ => rfl))))
      , ?_⟩
    refine ⟨_, rfl, _, rfl, _, rfl, p, xs, rfl, .inl (SqL.of hS), a, c, xs.length, n, rfl, by omega, by omega, hn, hT, fun d H' d0 d1 T' k' => ?_⟩
    obtain ⟨j, rfl⟩ := Int.eq_ofNat_of_zero_le d0
    have hj : j < xs.length := by omega
    exact ⟨p, xs, (j : Int), xs[j], rfl, rfl, SqL.of (k' p _ hpa hS), atI_nat (List.getElem?_eq_getElem hj), q j _ _ (List.getElem?_eq_getElem hj) T' k'⟩
/-- the tape's making: the cells in a list of their own -/
theorem ok_tape {f : Addr} {fd : FuncData} {k : Nat} (F : Fun K "_law_tape" "_law_tape" sTape f fd) (T : Txt0 mg) : FnOk P w K mg base CX0 (k + 1) f fd ["_law_script"] (spTape K) := by
  refine F.ok scTape (fun vs H Q E h => ?_) (fun cdv A outer s H vs Q E hr h => ?_)
  · obtain ⟨a, ns, rfl, _⟩ := h
    rfl
  · obtain ⟨a, ns, rfl, hS, hlen, q⟩ := h
    refine ⟨_,
      (pss_one (ps_ret (pe_lst (pa_cons (pe_slice sl_list (pv 0) po_none (po_some pe_int)) (pa_cons pe_int (pa_cons pe_int pa_nil))))))
      , ?_⟩
    refine ⟨_, rfl, _, rfl, a, _, rfl, hS, fun p hp => ?_⟩
    refine ⟨by show 3 ≤ sizeLine; decide, fun l hl => ?_⟩
    have nlp : p ≠ l := fun e => by rw [e, upd_same] at hl; cases hl
    have hl0 : H l = none := by rw [upd_ne nlp.symm] at hl; exact hl
    refine q l p _ hl0 hp (fun b o e => upd_at hl (upd_at hp e)) ⟨0, 0, ns, upd_same, ?_, nlp, by omega, by omega, hlen⟩
    rw [upd_ne nlp, upd_same, cut63 hlen]
end
/-! ### heaps that grow -/
theorem Tape.same {H H' : Hp} {T c : Addr} {n : Nat} (h : Tape H T c n) (s : Same H H') : Tape H' T c n := by
  obtain ⟨t, r, ns, h1, h2, h3, h4, h5, h6⟩ := h.ex
  exact ⟨t, r, ns, s _ _ h1, s _ _ h2, h3, h4, h5, h6⟩
theorem Keep.same {T : Addr} {H H1 H2 : Hp} (a : Keep T H H1) (b : Same H1 H2) : Keep T H H2 := fun x o n e => b x o (a x o n e)
theorem same_upd {H : Hp} {p : Addr} {o : HO} (h : H p = none) : Same H (upd H p o) := fun b x e => by
  rw [upd_ne (ne_of_none e h)]; exact e
theorem same_refl {H : Hp} : Same H H := fun _ _ e => e
theorem small_line {n : Nat} (h : n ≤ 100) : n ≤ sizeLine := Nat.le_trans h (by decide)
/-! ### data over heaps that change -/
mutual
/-- data without lists -/
def noL : PyData → Bool
  | .list _ => false
  | .tuple ds => noLs ds
  | .dict _ => false
  | _ => true
def noLs : List PyData → Bool
  | [] => true
  | d :: ds => noL d && noLs ds
end
theorem sqT_same {K : PySem.W.Frag} {H H' : Hp} {a : Addr} {xs : List V} (h : SqT K H a xs) (s : Same H H') : SqT K H' a xs := by
  rcases h with (h | ⟨o, h⟩) | h
  · exact .inl (.inl (s _ _ h))
  · exact .inl (.inr ⟨o, s _ _ h⟩)
  · exact .inr h
theorem sqL_same {K : PySem.W.Frag} {H H' : Hp} {a : Addr} {xs : List V} (h : SqL K H a xs) (s : Same H H') : SqL K H' a xs := by
  rcases h with (h | ⟨o, h⟩) | h
  · exact .inl (.inl (s _ _ h))
  · exact .inl (.inr ⟨o, s _ _ h⟩)
  · exact .inr h
theorem sqT_keep {K : PySem.W.Frag} {T : Addr} {H H' : Hp} {ys : List V} {a : Addr} {xs : List V} (hT : H T = some (.lst ys)) (h : SqT K H a xs) (s : Keep T H H') : SqT K H' a xs := by
  rcases h with (h | ⟨o, h⟩) | h
  · exact .inl (.inl (s _ _ (ne_of h hT (by intro z; cases z)) h))
  · exact .inl (.inr ⟨o, s _ _ (ne_of h hT (by intro z; cases z)) h⟩)
  · exact .inr h
mutual
theorem dp_same {K : PySem.W.Frag} {H H' : Hp} (s : Same H H') : ∀ (d : PyData) (v : V), Dp K H v d → Dp K H' v d
  | .none, _, h => by cases h; exact .non
  | .bool b, _, h => by cases h; exact .bl b
  | .int i, _, h => by cases h; exact .int i
  | .str x, _, h => by cases h; exact .str x
  | .list ds, _, h => by cases h with | lst a b => exact .lst (sqL_same a s) (dps_same s ds _ b)
  | .tuple ds, _, h => by cases h with | tup a b => exact .tup (sqT_same a s) (dps_same s ds _ b)
  | .dict _, _, h => by cases h
theorem dps_same {K : PySem.W.Frag} {H H' : Hp} (s : Same H H') : ∀ (ds : List PyData) (vs : List V), DpAll K H vs ds → DpAll K H' vs ds
  | [], _, h => by cases h; exact .nil
  | d :: ds, _, h => by cases h with | cons a b => exact .cons (dp_same s d _ a) (dps_same s ds _ b)
end
mutual
theorem dp_tups {K : PySem.W.Frag} {H H' : Hp} (s : ∀ a xs, SqT K H a xs → SqT K H' a xs) : ∀ (d : PyData) (v : V), noL d = true → Dp K H v d → Dp K H' v d
  | .none, _, _, h => by cases h; exact .non
  | .bool b, _, _, h => by cases h; exact .bl b
  | .int i, _, _, h => by cases h; exact .int i
  | .str x, _, _, h => by cases h; exact .str x
  | .list ds, _, n, h => by simp [noL] at n
  | .tuple ds, _, n, h => by cases h with | tup a b => exact .tup (s _ _ a) (dps_tups s ds _ (by simpa [noL] using n) b)
  | .dict _, _, _, h => by cases h
theorem dps_tups {K : PySem.W.Frag} {H H' : Hp} (s : ∀ a xs, SqT K H a xs → SqT K H' a xs) : ∀ (ds : List PyData) (vs : List V), noLs ds = true → DpAll K H vs ds → DpAll K H' vs ds
  | [], _, _, h => by cases h; exact .nil
  | d :: ds, _, n, h => by
    have n' : noL d = true ∧ noLs ds = true := by simpa [noLs] using n
    cases h with | cons a b => exact .cons (dp_tups s d _ n'.1 a) (dps_tups s ds _ n'.2 b)
end
theorem dps_keep {K : PySem.W.Frag} {T : Addr} {H H' : Hp} {ys : List V} {ds : List PyData} {vs : List V} (h : DpAll K H vs ds) (hT : H T = some (.lst ys)) (s : Keep T H H') (n : noLs ds = true) : DpAll K H' vs ds := dps_tups (fun _ _ z => sqT_keep hT z s) ds vs n h
theorem dp_keep {K : PySem.W.Frag} {T : Addr} {H H' : Hp} {ys : List V} {d : PyData} {v : V} (h : Dp K H v d) (hT : H T = some (.lst ys)) (s : Keep T H H') (n : noL d = true) : Dp K H' v d := dp_tups (fun _ _ z => sqT_keep hT z s) d v n h
theorem dps_len {K : PySem.W.Frag} {H : Hp} : ∀ {vs : List V} {ds : List PyData}, DpAll K H vs ds → vs.length = ds.length
  | _, _, .nil => rfl
  | _, _, .cons _ r => congrArg (· + 1) (dps_len r)
theorem dps_at {K : PySem.W.Frag} {H : Hp} : ∀ {vs : List V} {ds : List PyData} {i : Nat} {x : V}, DpAll K H vs ds → vs[i]? = some x → ∃ d, ds[i]? = some d ∧ Dp K H x d
  | _, _, _, _, .nil, e => by cases e
  | _, _, 0, _, .cons h _, e => by cases e; exact ⟨_, rfl, h⟩
  | _, _, i + 1, _, .cons _ r, e => dps_at (i := i) r e
theorem dps_app {K : PySem.W.Frag} {H : Hp} : ∀ {vs ws : List V} {ds es : List PyData}, DpAll K H vs ds → DpAll K H ws es → DpAll K H (vs ++ ws) (ds ++ es)
  | _, _, _, _, .nil, h => h
  | _, _, _, _, .cons a r, h => .cons a (dps_app r h)
theorem dp_tup {K : PySem.W.Frag} {H : Hp} {v : V} {ds : List PyData} (h : Dp K H v (.tuple ds)) : ∃ a xs, v = .ref a ∧ SqT K H a xs ∧ DpAll K H xs ds := by cases h with | tup a b => exact ⟨_, _, rfl, a, b⟩
theorem dp_lst {K : PySem.W.Frag} {H : Hp} {v : V} {ds : List PyData} (h : Dp K H v (.list ds)) : ∃ a xs, v = .ref a ∧ SqL K H a xs ∧ DpAll K H xs ds := by cases h with | lst a b => exact ⟨_, _, rfl, a, b⟩
theorem noLs_map {α : Type} (f : α → PyData) (h : ∀ x, noL (f x) = true) : ∀ l : List α, noLs (l.map f) = true
  | [] => rfl
  | x :: l => by rw [List.map_cons, noLs, h x, noLs_map f h l]; rfl
/-! ### defs that make lambdas; what stays but the tables -/
section
open LamX (Tabs ExtN)
variable {P : Program} {w : World} {K : PySem.W.Frag} {mg : Str → Option Value} {base : Heap} {x qual : Str} {params : Arguments} {body : List Stmt} {scope : Scope} {dvs : List V} {kws : List (Str × V)} {f c : Addr} {fd : FuncData} {N ps : List Str} {k : Nat} {sp : Sp}
theorem _root_.L2.FunD.okN (F : FunD K x qual params body scope dvs kws f fd) (S : FnScope N ps scope) (len : ∀ vs H Q E, sp vs H Q E → vs.length = ps.length)
    (hbody : ∀ (cdv : Value) (A : Around) (outer : List Env) (s : Shared) (H : Hp) (vs : List V) (Q : VK) (E : XK), Room k (A.deeper (envOfC qual scope s.heap.objs.size f cdv)) → sp vs H Q E →
      ∃ t, PSs (cxOf CX0 P w K mg base N qual scope f cdv A outer s H E).nox body t ∧ t { nx := fun _ H' => Q .non H', rt := Q } (start N vs) H) : FnOk P w K mg base CX0 (k + 1) f fd ps sp :=
  F.ok S len fun cdv A outer s H vs Q E hr h => by
    obtain ⟨t, h1, q⟩ := hbody cdv A outer s H vs Q E hr h
    exact ⟨t, h1.nox, q⟩
theorem _root_.L2.FunD.okC (F : FunD K x qual params body scope dvs kws f fd) (hc : fd.code = .ref c) (S : FnScope N ps scope) (len : ∀ vs H Q E, sp vs H Q E → vs.length = ps.length)
    (hbody : ∀ (A : Around) (outer : List Env) (s : Shared) (H : Hp) (vs : List V) (Q : VK) (E : XK), Room k (A.deeper (envOfC qual scope s.heap.objs.size f (.ref c))) → sp vs H Q E →
      ∃ t, PSs (cxOf CX0 P w K mg base N qual scope f (.ref c) A outer s H E).nox body t ∧ t { nx := fun _ H' => Q .non H', rt := Q } (start N vs) H) : FnOk P w K mg base CX0 (k + 1) f fd ps sp := by
  obtain ⟨oc, od, dV, kV, doc, pm, an, cdv, ct, osl, rfl, lk, hcd, _, _⟩ := F.ex
  obtain rfl : cdv = .ref c := hc
  refine fn_of lk hcd S len fun A outer s H vs Q E hr h => ?_
  obtain ⟨t, h1, q⟩ := hbody A outer s H vs Q E hr h
  exact ⟨t, h1.nox, q⟩
theorem _root_.L2.Fun.okC {st : Stmt} (F : Fun K x qual st f fd) (hc : fd.code = .ref c) (S : FnScope N ps (defScope st)) (len : ∀ vs H Q E, sp vs H Q E → vs.length = ps.length)
    (hbody : ∀ (A : Around) (outer : List Env) (s : Shared) (H : Hp) (vs : List V) (Q : VK) (E : XK), Room k (A.deeper (envOfC qual (defScope st) s.heap.objs.size f (.ref c))) → sp vs H Q E →
      ∃ t, PSs (cxOf CX0 P w K mg base N qual (defScope st) f (.ref c) A outer s H E).nox (defBody st) t ∧ t { nx := fun _ H' => Q .non H', rt := Q } (start N vs) H) : FnOk P w K mg base CX0 (k + 1) f fd ps sp := by
  obtain ⟨oc, od, kV, doc, pm, an, cdv, ct, osl, rfl, lk, hcd⟩ := F.ex
  obtain rfl : cdv = .ref c := hc
  refine fn_of lk hcd S len fun A outer s H vs Q E hr h => ?_
  obtain ⟨t, h1, q⟩ := hbody A outer s H vs Q E hr h
  exact ⟨t, h1.nox, q⟩
/-- all but the tables stays, and the tables are ones still -/
def Sm (TT : List (Addr × Str)) (H H' : Hp) : Prop := ExtN H H' ∧ (Tabs TT H → Tabs TT H') ∧ ∀ b, H' b = none → H b = none
variable {TT : List (Addr × Str)} {H H' H1 H2 : Hp}
theorem Sm.refl : Sm TT H H := ⟨ExtN.refl H, id, fun _ => id⟩
theorem Sm.trans (a : Sm TT H H1) (b : Sm TT H1 H2) : Sm TT H H2 := ⟨a.1.trans b.1, fun t => b.2.1 (a.2.1 t), fun x h => a.2.2 x (b.2.2 x h)⟩
theorem _root_.L2.Same.sm (s : Same H H') : Sm TT H H' := ⟨ExtN.of s, fun t => t.ext s, fun b h => by
  cases e : H b with
  | none => rfl
  | some u => rw [s _ _ e] at h; cases h⟩
theorem sm_upd {p : Addr} {o : HO} (h : H p = none) : Sm TT H (upd H p o) := (same_upd h).sm
theorem Sm.at {b : Addr} {u : HO} (s : Sm TT H H') (e : H b = some u) (n : ∀ ps, u ≠ .tbl ps := by intro ps z; cases z) : H' b = some u := s.1 b u e n
theorem Sm.none {b : Addr} (s : Sm TT H H') (h : H' b = none) : H b = none := s.2.2 b h
/-- a list that changes is neither a table nor a code object -/
theorem tabs_lst {F : Addr} {xs : List V} (hF : H F = some (.lst xs)) (h : ∀ b o, b ≠ F → H b = some o → H' b = some o) (t : Tabs TT H) : Tabs TT H' := by
  intro p hp
  obtain ⟨ps, h1, h2, h3⟩ := t p hp
  refine ⟨ps, h _ _ (ne_of h1 hF (by intro z; cases z)) h1, h2, fun pos cv hc => ?_⟩
  obtain ⟨c, e1, e2⟩ := h3 pos cv hc
  exact ⟨c, e1, h _ _ (ne_of e2 hF (by intro z; cases z)) e2⟩
/-- a list of one's own, changed -/
theorem Sm.lst {H0 : Hp} {p : Addr} {xs : List V} {o : HO} (s : Sm TT H0 H) (h0 : H0 p = Option.none) (e : H p = some (.lst xs)) : Sm TT H0 (upd H p o) := by
  refine ⟨fun b u hb n => ?_, fun t => ?_, fun b h => s.none (upd_none h)⟩
  · rw [upd_ne (ne_of_none hb h0)]; exact s.1 b u hb n
  · exact tabs_lst e (fun b o n e => by rw [upd_ne n]; exact e) (s.2.1 t)
theorem sqT_sm {a : Addr} {xs : List V} (h : SqT K H a xs) (s : Sm TT H H') : SqT K H' a xs := by
  rcases h with (h | ⟨o, h⟩) | h
  · exact .inl (.inl (s.at h))
  · exact .inl (.inr ⟨o, s.at h⟩)
  · exact .inr h
theorem sqL_sm {a : Addr} {xs : List V} (h : SqL K H a xs) (s : Sm TT H H') : SqL K H' a xs := by
  rcases h with (h | ⟨o, h⟩) | h
  · exact .inl (.inl (s.at h))
  · exact .inl (.inr ⟨o, s.at h⟩)
  · exact .inr h
mutual
theorem dp_sm (s : Sm TT H H') : ∀ (d : PyData) (v : V), Dp K H v d → Dp K H' v d
  | .none, _, h => by cases h; exact .non
  | .bool b, _, h => by cases h; exact .bl b
  | .int i, _, h => by cases h; exact .int i
  | .str x, _, h => by cases h; exact .str x
  | .list ds, _, h => by cases h with | lst a b => exact .lst (sqL_sm a s) (dps_sm s ds _ b)
  | .tuple ds, _, h => by cases h with | tup a b => exact .tup (sqT_sm a s) (dps_sm s ds _ b)
  | .dict _, _, h => by cases h
theorem dps_sm (s : Sm TT H H') : ∀ (ds : List PyData) (vs : List V), DpAll K H vs ds → DpAll K H' vs ds
  | [], _, h => by cases h; exact .nil
  | d :: ds, _, h => by cases h with | cons a b => exact .cons (dp_sm s d _ a) (dps_sm s ds _ b)
end
end
section
open LamX (Tabs TabS)
def spLawT (K : PySem.W.Frag) (TT : List (Addr × Str)) : Sp := fun vs H Q _ => ∃ (a : Addr) (ns : List Int), vs = [.ref a] ∧ SqL K H a (ns.map V.int) ∧ ns.length ≤ 63 ∧ Tabs TT H ∧ ∀ H', Q (.bl true) H'
theorem tabs0 {TT : List (Addr × Str)} {H : Hp} (h : ∀ p ∈ TT, H p.1 = some (.tbl #[])) : Tabs TT H := fun p hp => ⟨#[], h p hp, trivial, fun pos cv hc => by cases hc⟩
end
/-! ### stretches put together: what covers what -/
section
abbrev Pr := Int × Int
/-- one more stretch, behind those told (the last one first) -/
def mrg (ap : Int) (acc : List Pr) (p : Pr) : List Pr := match acc with
  | [] => [p]
  | q :: r => if p.1 - q.2 ≤ ap then (q.1, max q.2 p.2) :: r else p :: q :: r
def mrgs (ap : Int) (l : List Pr) : List Pr := l.foldl (mrg ap) []
/-- acc (the last one first) tells just what shares P or lies at most ap apart -/
def CovR (ap : Int) : (Int → Prop) → List Pr → Prop
  | P, [] => ∀ x, ¬ P x
  | P, (f, t) :: r => f < t ∧ P f ∧ P (t - 1) ∧ (∀ x, t ≤ x → ¬ P x) ∧ (∀ m, f ≤ m → m + ap < t → ∃ x, m ≤ x ∧ x ≤ m + ap ∧ P x) ∧ (∀ x, f - ap - 1 ≤ x → x < f → ¬ P x) ∧ CovR ap (fun x => P x ∧ x < f) r
theorem CovR.congr {ap : Int} : ∀ {l : List Pr} {P P' : Int → Prop}, (∀ x, P x ↔ P' x) → CovR ap P l → CovR ap P' l
  | [], P, P', h, c => fun x z => c x ((h x).mpr z)
  | (f, t) :: r, P, P', h, ⟨a, b, c, d, e, g, k⟩ => ⟨a, (h _).mp b, (h _).mp c, fun x q z => d x q ((h x).mpr z), fun m h1 h2 => by
      obtain ⟨x, x1, x2, x3⟩ := e m h1 h2
      exact ⟨x, x1, x2, (h x).mp x3⟩, fun x h1 h2 z => g x h1 h2 ((h x).mpr z), k.congr fun x => by rw [h x]⟩
theorem CovR.one {ap : Int} (h0 : 0 ≤ ap) : ∀ {l m : List Pr} {P : Int → Prop}, CovR ap P l → CovR ap P m → l = m
  | [], [], _, _, _ => rfl
  | [], (f, t) :: r, P, h, ⟨_, b, _⟩ => absurd b (h f)
  | (f, t) :: r, [], P, ⟨_, b, _⟩, h => absurd b (h f)
  | (f, t) :: r, (f', t') :: r', P, ⟨a, b, c, d, e, g, k⟩, ⟨a', b', c', d', e', g', k'⟩ => by
    have ht : t = t' := by
      have h1 : ¬ t ≤ t' - 1 := fun z => d _ z c'
      have h2 : ¬ t' ≤ t - 1 := fun z => d' _ z c
      omega
    have lo : ∀ {f f' t : Int}, P f → f < t → f' < t → (∀ m, f ≤ m → m + ap < t → ∃ x, m ≤ x ∧ x ≤ m + ap ∧ P x) → (∀ x, f' - ap - 1 ≤ x → x < f' → ¬ P x) → ¬ f < f' := by
      intro f f' t b a a' e g' z
      by_cases c1 : f' - ap - 1 ≤ f
      · exact g' f c1 z b
      · obtain ⟨x, x1, x2, x3⟩ := e (f' - ap - 1) (by omega) (by omega)
        exact g' x x1 (by omega) x3
    subst ht
    have hf : f = f' := by
      have h1 := lo b a a' e g'
      have h2 := lo b' a' a e' g
      omega
    subst hf
    rw [CovR.one h0 k k']
theorem covR_mrg {ap : Int} (h0 : 0 ≤ ap) {acc : List Pr} {P : Int → Prop} {p : Pr} (h : CovR ap P acc) (hp : p.1 < p.2) (hs : ∀ q ∈ acc.head?, q.1 ≤ p.1) : CovR ap (fun x => P x ∨ (p.1 ≤ x ∧ x < p.2)) (mrg ap acc p) := by
  obtain ⟨a, b⟩ := p
  cases acc with
  | nil =>
    have h : ∀ x, ¬ P x := h
    refine ⟨hp, .inr ⟨Int.le_refl _, hp⟩, .inr ⟨by show a ≤ b - 1; have : a < b := hp; omega, by show b - 1 < b; omega⟩, fun x hx => ?_, fun m h1 h2 => ⟨m, Int.le_refl _, by omega, .inr ⟨h1, by show m < b; omega⟩⟩, fun x _ hx => ?_, fun x ⟨hx, hx2⟩ => ?_⟩
    · rintro (z | ⟨_, z⟩)
      · exact h x z
      · exact absurd z (by show ¬ x < b; omega)
    · rintro (z | ⟨z, _⟩)
      · exact h x z
      · exact absurd z (by show ¬ a ≤ x; omega)
    · rcases hx with z | ⟨z, _⟩
      · exact h x z
      · exact absurd z (by show ¬ a ≤ x; omega)
  | cons q r =>
    obtain ⟨f, t⟩ := q
    obtain ⟨c1, c2, c3, c4, c5, c6, c7⟩ := h
    have hfa : f ≤ a := hs (f, t) rfl
    have hab : a < b := hp
    by_cases c : a - t ≤ ap
    · rw [show mrg ap ((f, t) :: r) (a, b) = (f, max t b) :: r from if_pos c]
      have hm1 : t ≤ max t b := Int.le_max_left _ _
      have hm2 : b ≤ max t b := Int.le_max_right _ _
      have hm3 : max t b = t ∨ max t b = b := by rw [Int.max_def]; split <;> simp
      refine ⟨by omega, .inl c2, ?_, fun x hx => ?_, fun m h1 h2 => ?_, fun x h1 h2 => ?_, c7.congr fun x => ⟨fun ⟨z, y⟩ => ⟨.inl z, y⟩, fun ⟨z, y⟩ => ?_⟩⟩
      · rcases hm3 with e | e
        · rw [e]; exact .inl c3
        · rw [e]; exact .inr ⟨by show a ≤ b - 1; omega, by show b - 1 < b; omega⟩
      · rintro (z | ⟨_, z⟩)
        · exact c4 x (by omega) z
        · exact absurd z (by show ¬ x < b; omega)
      · by_cases d : m + ap < t
        · obtain ⟨x, x1, x2, x3⟩ := c5 m h1 d
          exact ⟨x, x1, x2, .inl x3⟩
        · by_cases d2 : m ≤ t - 1
          · exact ⟨t - 1, d2, by omega, .inl c3⟩
          · refine ⟨max m a, Int.le_max_left _ _, ?_, .inr ⟨Int.le_max_right _ _, ?_⟩⟩
            · rw [Int.max_def]; split <;> omega
            · show max m a < b
              rcases hm3 with e | e
              · omega
              · rw [Int.max_def]; split <;> omega
      · rintro (z | ⟨z, _⟩)
        · exact c6 x h1 h2 z
        · exact absurd z (by show ¬ a ≤ x; omega)
      · rcases z with z | ⟨z, _⟩
        · exact ⟨z, y⟩
        · exact absurd z (by show ¬ a ≤ x; omega)
    · rw [show mrg ap ((f, t) :: r) (a, b) = (a, b) :: (f, t) :: r from if_neg c]
      have old : ∀ x, P x → x < t := fun x z => by
        have : ¬ t ≤ x := fun y => c4 x y z
        omega
      refine ⟨hab, .inr ⟨Int.le_refl _, hab⟩, .inr ⟨by show a ≤ b - 1; omega, by show b - 1 < b; omega⟩, fun x hx => ?_, fun m h1 h2 => ⟨m, Int.le_refl _, by omega, .inr ⟨h1, by show m < b; omega⟩⟩, fun x h1 h2 => ?_, ?_⟩
      · rintro (z | ⟨_, z⟩)
        · have := old x z; omega
        · exact absurd z (by show ¬ x < b; omega)
      · rintro (z | ⟨z, _⟩)
        · have := old x z; omega
        · exact absurd z (by show ¬ a ≤ x; omega)
      · refine CovR.congr (P := P) (fun x => ⟨fun z => ⟨.inl z, by have := old x z; omega⟩, fun ⟨z, y⟩ => ?_⟩) ⟨c1, c2, c3, c4, c5, c6, c7⟩
        rcases z with z | ⟨z, _⟩
        · exact z
        · exact absurd z (by show ¬ a ≤ x; omega)
/-- what a list of stretches holds -/
def Cov (l : List Pr) (x : Int) : Prop := ∃ p ∈ l, p.1 ≤ x ∧ x < p.2
theorem head_mrg {ap : Int} {acc : List Pr} {p : Pr} (hs : ∀ q ∈ acc.head?, q.1 ≤ p.1) : ∀ q ∈ (mrg ap acc p).head?, q.1 ≤ p.1 := by
  cases acc with
  | nil => intro q hq; cases hq; exact Int.le_refl _
  | cons a r =>
    intro q hq
    by_cases c : p.1 - a.2 ≤ ap
    · rw [show mrg ap (a :: r) p = (a.1, max a.2 p.2) :: r from if_pos c] at hq
      cases hq; exact hs a rfl
    · rw [show mrg ap (a :: r) p = p :: a :: r from if_neg c] at hq
      cases hq; exact Int.le_refl _
theorem covR_mrgs {ap : Int} (h0 : 0 ≤ ap) {l : List Pr} (hl : ∀ p ∈ l, p.1 < p.2) (hs : l.Pairwise fun p q => p.1 ≤ q.1) : CovR ap (Cov l) (mrgs ap l) := by
  have go : ∀ (l done : List Pr) (acc : List Pr), (∀ p ∈ l, p.1 < p.2) → (l.Pairwise fun p q => p.1 ≤ q.1) → (∀ p ∈ l, ∀ q ∈ acc.head?, q.1 ≤ p.1) → CovR ap (Cov done) acc → CovR ap (Cov (done ++ l)) (l.foldl (mrg ap) acc) := by
    intro l
    induction l with
    | nil => intro done acc _ _ _ h; rw [List.append_nil]; exact h
    | cons p r ih =>
      intro done acc hl hs hh h
      rw [List.foldl_cons]
      have hs' := List.pairwise_cons.mp hs
      have z := ih (done ++ [p]) (mrg ap acc p) (fun q hq => hl q (List.mem_cons_of_mem _ hq)) hs'.2 (fun q hq s hsq => ?_) ?_
      · rw [List.append_assoc] at z; exact z
      · exact Int.le_trans (head_mrg (hh p List.mem_cons_self) s hsq) (hs'.1 q hq)
      · refine (covR_mrg h0 h (hl p List.mem_cons_self) (hh p List.mem_cons_self)).congr fun x => ⟨fun z => ?_, fun ⟨q, hq, h1⟩ => ?_⟩
        · rcases z with ⟨q, hq, h1⟩ | h1
          · exact ⟨q, List.mem_append_left _ hq, h1⟩
          · exact ⟨p, List.mem_append_right _ (List.mem_singleton.mpr rfl), h1⟩
        · rcases List.mem_append.mp hq with hq | hq
          · exact .inl ⟨q, hq, h1⟩
          · rw [List.mem_singleton.mp hq] at h1; exact .inr h1
  have z := go l [] [] hl hs (fun _ _ q hq => by cases hq) (fun x ⟨q, hq, _⟩ => by cases hq)
  rw [List.nil_append] at z
  exact z
/-- what they share alone counts -/
theorem mrgs_one {ap : Int} (h0 : 0 ≤ ap) {l m : List Pr} (hl : ∀ p ∈ l, p.1 < p.2) (hsl : l.Pairwise fun p q => p.1 ≤ q.1) (hm : ∀ p ∈ m, p.1 < p.2) (hsm : m.Pairwise fun p q => p.1 ≤ q.1) (e : ∀ x, Cov l x ↔ Cov m x) : mrgs ap l = mrgs ap m :=
  CovR.one h0 (covR_mrgs h0 hl hsl) ((covR_mrgs h0 hm hsm).congr fun x => (e x).symm)
/-- those told are rising, none empty, and hold the same -/
theorem CovR.list {ap : Int} (h0 : 0 ≤ ap) : ∀ {acc : List Pr} {P : Int → Prop}, CovR ap P acc → (∀ p ∈ acc, p.1 < p.2 ∧ P p.1 ∧ P (p.2 - 1)) ∧ acc.Pairwise (fun p q => q.2 + ap < p.1) ∧ (∀ x, P x → Cov acc x)
  | [], P, h => ⟨fun p hp => (by cases hp), List.Pairwise.nil, fun x z => absurd z (h x)⟩
  | (f, t) :: r, P, ⟨a, b, c, d, e, g, k⟩ => by
    obtain ⟨h1, h2, h3⟩ := CovR.list h0 k
    refine ⟨fun p hp => ?_, List.pairwise_cons.mpr ⟨fun q hq => ?_, h2⟩, fun x z => ?_⟩
    · rcases List.mem_cons.mp hp with rfl | hp
      · exact ⟨a, b, c⟩
      · obtain ⟨x1, x2, x3⟩ := h1 p hp
        exact ⟨x1, x2.1, x3.1⟩
    · obtain ⟨x1, x2, x3⟩ := h1 q hq
      have : ¬ f - ap - 1 ≤ q.2 - 1 := fun y => g (q.2 - 1) y x3.2 x3.1
      have : q.2 - 1 < f := x3.2
      show q.2 + ap < f
      omega
    · by_cases hx : x < f
      · obtain ⟨p, hp, z2⟩ := h3 x ⟨z, hx⟩
        exact ⟨p, List.mem_cons_of_mem _ hp, z2⟩
      · refine ⟨(f, t), List.mem_cons_self, by show f ≤ x; omega, ?_⟩
        have : ¬ t ≤ x := fun y => d x y z
        show x < t
        omega
/-- with ap = 0 nothing more is told than what they hold -/
theorem CovR.just : ∀ {acc : List Pr} {P : Int → Prop}, CovR 0 P acc → ∀ x, Cov acc x → P x
  | [], P, h, x, ⟨p, hp, _⟩ => by cases hp
  | (f, t) :: r, P, ⟨a, b, c, d, e, g, k⟩, x, ⟨p, hp, h1, h2⟩ => by
    rcases List.mem_cons.mp hp with rfl | hp
    · obtain ⟨y, y1, y2, y3⟩ := e x h1 (by rw [Int.add_zero]; exact h2)
      have : y = x := by omega
      rw [← this]; exact y3
    · exact (CovR.just k x ⟨p, hp, h1, h2⟩).1
end
/-! ### what none of them has -/
section
theorem CovR.shift {k : Int} : ∀ {l : List Pr} {P : Int → Prop}, CovR 0 P l → CovR 0 (fun x => P (x - k)) (l.map fun p => (p.1 + k, p.2 + k))
  | [], P, h => fun x => h (x - k)
  | (f, t) :: r, P, ⟨a, b, c, d, e, g, q⟩ => by
    refine ⟨by omega, by show P (f + k - k); rw [Int.add_sub_cancel]; exact b, ?_, fun x hx => d (x - k) (by omega), fun m h1 h2 => ?_, fun x h1 h2 => g (x - k) (by omega) (by omega), ?_⟩
    · show P (t + k - 1 - k)
      rw [show t + k - 1 - k = t - 1 by omega]; exact c
    · obtain ⟨x, x1, x2, x3⟩ := e (m - k) (by omega) (by omega)
      exact ⟨x + k, by omega, by omega, by show P (x + k - k); rw [Int.add_sub_cancel]; exact x3⟩
    · refine CovR.congr (P := fun x => P (x - k) ∧ x - k < f) (fun x => ⟨fun z => ⟨z.1, by have := z.2; omega⟩, fun z => ⟨z.1, by have := z.2; omega⟩⟩) ?_
      exact CovR.shift (P := fun x => P x ∧ x < f) q
def shf (k : Int) (l : List Pr) : List Pr := l.map fun p => (p.1 + k, p.2 + k)
theorem cov_shf {k : Int} {l : List Pr} (x : Int) : Cov (shf k l) x ↔ Cov l (x - k) := by
  unfold Cov shf
  constructor
  · rintro ⟨p, hp, h1, h2⟩
    obtain ⟨q, hq, rfl⟩ := List.mem_map.mp hp
    exact ⟨q, hq, by dsimp only at h1; omega, by dsimp only at h2; omega⟩
  · rintro ⟨q, hq, h1, h2⟩
    exact ⟨_, List.mem_map_of_mem hq, by dsimp only; omega, by dsimp only; omega⟩
/-- one more of those put together -/
def gstep (b : Int) (s : Int × List Pr) (p : Pr) : Int × List Pr := (max s.1 p.2, if s.1 < min p.1 b then (s.1, min p.1 b) :: s.2 else s.2)
def gfold (b : Int) (a : Int) (J : List Pr) : Int × List Pr := J.foldl (gstep b) (a, [])
def gend (b : Int) (s : Int × List Pr) : List Pr := if s.1 < b then (s.1, b) :: s.2 else s.2
theorem gfold_snoc {b a : Int} (J : List Pr) (p : Pr) : gfold b a (J ++ [p]) = gstep b (gfold b a J) p := by unfold gfold; rw [List.foldl_append]; rfl
structure GInv (a b : Int) (J : List Pr) (s : Int × List Pr) : Prop where
  cov : CovR 0 (fun x => a ≤ x ∧ x < b ∧ x < s.1 ∧ ¬ Cov J x) s.2
  fst : s.1 = a ∨ Cov J (s.1 - 1)
  low : a ≤ s.1
  top : ∀ p ∈ J, p.2 ≤ s.1
  len : s.2.length ≤ J.length
theorem cov_snoc {J : List Pr} {p : Pr} (x : Int) : Cov (J ++ [p]) x ↔ Cov J x ∨ (p.1 ≤ x ∧ x < p.2) := by
  unfold Cov
  constructor
  · rintro ⟨q, hq, h⟩
    rcases List.mem_append.mp hq with hq | hq
    · exact .inl ⟨q, hq, h⟩
    · rw [List.mem_singleton.mp hq] at h; exact .inr h
  · rintro (⟨q, hq, h⟩ | h)
    · exact ⟨q, List.mem_append_left _ hq, h⟩
    · exact ⟨p, List.mem_append_right _ (List.mem_singleton.mpr rfl), h⟩
theorem ginv_step {a b : Int} {J : List Pr} {s : Int × List Pr} {p : Pr} (g : GInv a b J s) (hp : p.1 < p.2) (hJ : ∀ q ∈ J, q.1 < q.2 ∧ q.2 < p.1) : GInv a b (J ++ [p]) (gstep b s p) := by
  obtain ⟨f, t⟩ := p
  obtain ⟨h, r⟩ := s
  obtain ⟨cov, fst, low, top, len⟩ := g
  dsimp only at hp cov fst low top len
  have hfs : h = a ∨ h < f ∧ Cov J (h - 1) := by
    rcases fst with e | ⟨q, hq, e1, e2⟩
    · exact .inl e
    · have := hJ q hq
      have := top q hq
      exact .inr ⟨by omega, q, hq, e1, e2⟩
  have free : ∀ x, h ≤ x → ¬ Cov J x := fun x hx ⟨q, hq, h1, h2⟩ => by
    have := top q hq
    omega
  have hm1 : h ≤ max h t := Int.le_max_left _ _
  have hm2 : t ≤ max h t := Int.le_max_right _ _
  have hm3 : max h t = h ∨ max h t = t := by rw [Int.max_def]; split <;> simp
  have hn1 : min f b ≤ f := Int.min_le_left _ _
  have hn2 : min f b ≤ b := Int.min_le_right _ _
  have hn3 : min f b = f ∨ min f b = b := by rw [Int.min_def]; split <;> simp
  have base : ∀ x, (a ≤ x ∧ x < b ∧ x < h ∧ ¬ Cov J x) → (a ≤ x ∧ x < b ∧ x < max h t ∧ ¬ Cov (J ++ [(f, t)]) x) := by
    rintro x ⟨h1, h2, h3, h4⟩
    refine ⟨h1, h2, by omega, fun z => ?_⟩
    rcases (cov_snoc x).mp z with z | ⟨z1, z2⟩
    · exact h4 z
    · dsimp only at z1
      rcases hfs with e | ⟨e, _⟩ <;> omega
  have back : ∀ x, x < h → (a ≤ x ∧ x < b ∧ x < max h t ∧ ¬ Cov (J ++ [(f, t)]) x) → (a ≤ x ∧ x < b ∧ x < h ∧ ¬ Cov J x) := fun x hx ⟨h1, h2, _, h4⟩ => ⟨h1, h2, hx, fun z => h4 ((cov_snoc x).mpr (.inl z))⟩
  have newc : ∀ x, h ≤ x → ((a ≤ x ∧ x < b ∧ x < max h t ∧ ¬ Cov (J ++ [(f, t)]) x) ↔ x < min f b) := by
    intro x hx
    constructor
    · rintro ⟨h1, h2, h3, h4⟩
      have : ¬ (f ≤ x ∧ x < t) := fun z => h4 ((cov_snoc x).mpr (.inr z))
      omega
    · intro z
      refine ⟨by omega, by omega, by omega, fun y => ?_⟩
      rcases (cov_snoc x).mp y with y | ⟨y1, y2⟩
      · exact free x hx y
      · dsimp only at y1; omega
  refine ⟨?_, ?_, by show a ≤ max h t; omega, fun q hq => ?_, ?_⟩
  · show CovR 0 _ (if h < min f b then (h, min f b) :: r else r)
    by_cases c : h < min f b
    · rw [if_pos c]
      refine ⟨c, (newc h (Int.le_refl _)).mpr c, (newc _ (by omega)).mpr (by omega), fun x hx z => ?_, fun m m1 m2 => ⟨m, Int.le_refl _, by omega, (newc m m1).mpr (by omega)⟩, fun x h1 h2 => ?_, cov.congr fun x => ⟨fun z => ⟨base x z, z.2.2.1⟩, fun z => back x z.2 z.1⟩⟩
      · have := (newc x (by omega)).mp z; omega
      · have ex : x = h - 1 := by omega
        subst ex
        rintro ⟨z1, _, _, z4⟩
        rcases hfs with e | ⟨_, e⟩
        · omega
        · exact z4 ((cov_snoc _).mpr (.inl e))
    · rw [if_neg c]
      refine cov.congr fun x => ⟨base x, fun z => ?_⟩
      by_cases hx : x < h
      · exact back x hx z
      · have := (newc x (by omega)).mp z; omega
  · show max h t = a ∨ Cov (J ++ [(f, t)]) (max h t - 1)
    rcases hm3 with e | e
    · rw [e]
      rcases fst with e2 | e2
      · exact .inl e2
      · exact .inr ((cov_snoc _).mpr (.inl e2))
    · rw [e]; exact .inr ((cov_snoc _).mpr (.inr ⟨by dsimp only; omega, by dsimp only; omega⟩))
  · show q.2 ≤ max h t
    rcases List.mem_append.mp hq with hq | hq
    · have := top q hq; omega
    · rw [List.mem_singleton.mp hq]; exact hm2
  · show (if h < min f b then (h, min f b) :: r else r).length ≤ _
    rw [List.length_append, List.length_singleton]
    split
    · rw [List.length_cons]; omega
    · omega
theorem ginv {a b : Int} {J : List Pr} (h1 : ∀ p ∈ J, p.1 < p.2) (h2 : J.Pairwise fun p q => p.2 < q.1) : ∀ i, i ≤ J.length → GInv a b (J.take i) (gfold b a (J.take i)) := by
  intro i
  induction i with
  | zero =>
    intro _
    refine ⟨fun x z => ?_, .inl rfl, Int.le_refl _, fun p hp => (by cases hp), Nat.le_refl _⟩
    have z1 := z.1
    have z3 : x < a := z.2.2.1
    omega
  | succ i ih =>
    intro hi
    have g := ih (by omega)
    have e : J[i]? = some J[i] := List.getElem?_eq_getElem (by omega)
    rw [List.take_succ, e]
    show GInv a b (J.take i ++ [J[i]]) (gfold b a (J.take i ++ [J[i]]))
    rw [gfold_snoc]
    refine ginv_step g (h1 _ (List.getElem_mem _)) fun q hq => ⟨h1 q (List.mem_of_mem_take hq), ?_⟩
    obtain ⟨j, hj, rfl⟩ := List.mem_iff_getElem.mp hq
    rw [List.length_take] at hj
    rw [List.getElem_take]
    exact List.pairwise_iff_getElem.mp h2 j i _ _ (by omega)
theorem gend_ok {a b : Int} {J : List Pr} {s : Int × List Pr} (g : GInv a b J s) : CovR 0 (fun x => a ≤ x ∧ x < b ∧ ¬ Cov J x) (gend b s) := by
  obtain ⟨h, r⟩ := s
  obtain ⟨cov, fst, low, top, _⟩ := g
  dsimp only at cov fst low top
  have free : ∀ x, h ≤ x → ¬ Cov J x := fun x hx ⟨q, hq, h1, h2⟩ => by
    have := top q hq
    omega
  show CovR 0 _ (if h < b then (h, b) :: r else r)
  by_cases c : h < b
  · rw [if_pos c]
    refine ⟨c, ⟨low, c, free h (Int.le_refl _)⟩, ⟨by omega, by omega, free _ (by omega)⟩, fun x hx z => by have := z.2.1; omega, fun m m1 m2 => ⟨m, Int.le_refl _, by omega, by omega, by omega, free m m1⟩, fun x h1 h2 z => ?_, cov.congr fun x => ⟨fun z => ⟨⟨z.1, z.2.1, z.2.2.2⟩, z.2.2.1⟩, fun z => ⟨z.1.1, z.1.2.1, z.2, z.1.2.2⟩⟩⟩
    have ex : x = h - 1 := by omega
    subst ex
    rcases fst with e | e
    · have := z.1; omega
    · exact z.2.2 e
  · rw [if_neg c]
    exact cov.congr fun x => ⟨fun z => ⟨z.1, z.2.1, z.2.2.2⟩, fun z => ⟨z.1, z.2.1, by have := z.2.1; omega, z.2.2⟩⟩
end
/-! ### set(list of ints), sorted of a set, of any number below the scan's bound -/
section
abbrev nSet (w : World) : Obj := { cls := .type "set", dict := none, data := .set #[] 0 (.fresh 0 0 (!w.params.followText "set-order")) }
variable {P : Program} {w : World} {A : Around} {E : Value → Shared → Prop} {s : Shared}
set_option maxHeartbeats 4000000 in
theorem made_setI {l : Addr} {its : Array Value} (ns : List Int) {Q : Value → Shared → Prop} (hh : A.handled = none) (hl : s.heap.IsList l its) (hit : PyProof.Rows.IntsAre its.toList ns) (hb : ns.length + 1 < scanBound)
    (h : ∀ (h' : Heap) (tk c : Nat), SetR w h' s.heap.objs.size (fun j => decide (j ∈ ns)) c → c ≤ ns.length → (∀ b o, s.heap.get? b = some o → h'.get? b = some o) → Q (.ref s.heap.objs.size) { s with heap := h', toks := tk }) :
    wpAny (model P w) A (call (.type "set") [.ref l]) Q E s := by
  have hsz : its.size = ns.length := by
    have q := PyProof.Rows.IntsAre.length hit
    rwa [Array.length_toList] at q
  obtain ⟨c, tl, hmro⟩ := PySem.F.called_set.mro
  have hmade := PySem.F.called_set.made
  have hsub := PySem.F.called_set.sub
  have h1 := PySem.F.called_set.notType
  have h2 := PySem.F.called_set.canCreate
  have hct := PySem.F.typeCall_set_1 (.ref l)
  refine wpAny_call (codeAny_of_tree ?_)
  show wpAny _ _ (callAny (.type "set") _) _ _ _
  refine wpAny_pure ⟨Code.quiet_builtin _ (by decide +kernel), codeAny_builtin PySem.F.entry_type_call ?_⟩
  rw [Around.under_plain (weight_type_call_type "set" [.ref l] []) rfl]
  repeat (any_goals (first | assumption | wp_step))
  refine codeAny_mono (code_set_led1 (.ref l) (E := E) (Q₁ := fun obj s₁ => obj = .ref s.heap.objs.size ∧ s₁ = { s with heap := s.heap.push (nSet w) }) ⟨rfl, rfl⟩) ?_
  intro r s₁ hr
  match r, hr with
  | .error e, hr => exact hr
  | .ok (.ret obj), ⟨e1, e2⟩ =>
    subst e1 e2
    have hS : (s.heap.push (nSet w)).get? s.heap.objs.size = some (nSet w) := Heap.get?_push_size _ rfl
    have hT : Shared.TypeIs { s with heap := s.heap.push (nSet w) } (.ref s.heap.objs.size) "set" := ⟨_, hS, rfl⟩
    have hli := PySem.F.called_set.init.lookup
    have hbi := PySem.F.called_set.init.bind (.ref s.heap.objs.size)
    repeat (any_goals (first | assumption | wp_step))
    refine codeAny_mono (codeAny_call_builtin (R := wants (fun r s₂ => r = .none ∧ ∃ h' tk c, s₂ = { s with heap := h', toks := tk } ∧ SetR w h' s.heap.objs.size (fun j => decide (j ∈ ns)) c ∧ c ≤ ns.length ∧ (∀ b o, s.heap.get? b = some o → h'.get? b = some o)) E)
      PySem.F.called_set.init.plain PySem.F.entry_set_init (check_set_init_1 hT ?_)) fun r₂ s₂ hr₂ => ?_
    · obtain ⟨ol, hol, hcl, nl, hdl⟩ := hl
      obtain ⟨ocls, odict, odata, oslots⟩ := ol
      simp only at hcl hdl
      subst hcl; subst hdl
      have hlS : l < s.heap.objs.size := Heap.lt_size hol
      have hol' : (s.heap.push (nSet w)).get? l = some { cls := .type "list", dict := odict, data := .seq its nl, slots := oslots } := Heap.get?_push_of_some _ hol
      have hl1 : (s.heap.push (nSet w)).IsList l its := ⟨_, hol', rfl, nl, rfl⟩
      have hz : (s.heap.push (nSet w)).objs.size = s.heap.objs.size + 1 := Heap.size_push ..
      have hsls := PySem.F.sub_list_set
      have hslf := PySem.F.sub_list_frozenset
      have hne : (Value.type "list" == Value.type "dict") = false := by decide
      unfold Builtin.«set.__init__» noKeywords Builtin.Frozenset.updateFrom
      generalize hPI : pyIter = PI
      wp_walk
      subst hPI
      refine wpAny_pyIter_list hl1 (wpAny_bind (wpAny_runValue ?_))
      have hh3 : A.in1.in1.in1.handled = none := by simp [hh]
      have hI : l ≠ (s.heap.push (nSet w)).objs.size := by rw [hz]; exact Nat.ne_of_lt (Nat.lt_succ_of_lt hlS)
      have hSf : s.heap.objs.size ∉ [(s.heap.push (nSet w)).objs.size, l] := by
        rw [hz]
        intro m
        rcases List.mem_cons.mp m with e | m
        · exact absurd e (Nat.ne_of_lt (Nat.lt_succ_self _))
        · exact absurd (List.mem_singleton.mp m).symm (Nat.ne_of_lt hlS)
      have hval : ∀ (i : Nat) (v : Value), its[i]? = some v → ∃ k t, ns[i]? = some k ∧ v = .int k t := fun i v hv => by
        have hi : i < ns.length := by rw [← hsz]; exact (Array.getElem?_eq_some_iff.mp hv).1
        obtain ⟨t, e⟩ := PyProof.Rows.IntsAre.int_at hit i v (by rw [Array.getElem?_toList]; exact hv)
        rw [List.getD_eq_getElem?_getD, List.getElem?_eq_getElem hi] at e
        exact ⟨ns[i], t, List.getElem?_eq_getElem hi, e⟩
      have hget : ((s.heap.push (nSet w)).push { cls := .type "list_iterator", data := .fields #[.ref l, .int 0 0] }).get? s.heap.objs.size = some (nSet w) := Heap.get?_push_of_some _ hS
      refine set_update_ints ((Walks.list hh3 _ l hI its).toS) s.heap.objs.size hSf ns hsz hb hval (its.size - 0) 0 _ (by omega) (Nat.zero_le _) ⟨⟨_, Heap.get?_push_size _ rfl, rfl, rfl⟩, (hl1.push _)⟩ ⟨0, Nat.le_refl 0, setR_new_at hget⟩ ?_
      intro s' c' hm hc' hS'
      obtain ⟨h', g2, d', tk', os'⟩ := s'
      have eg : g2 = s.gens := hm.gens
      have ed : d' = s.drawn := hm.drawn
      have eo : os' = s.os := hm.os
      subst eg; subst ed; subst eo
      show wpAny _ _ _ _ _ _
      refine wpAny_pure ?_
      show wpAny _ _ (ret Value.none) _ _ _
      rw [hsz] at hc'
      refine wpAny_pure ⟨rfl, h', tk', c', rfl, hS', hc', fun b o e => hm.heap b o (fun m => ?_) (Heap.get?_push_of_some _ (Heap.get?_push_of_some _ e))⟩
      have hb0 := Heap.lt_size e
      rcases List.mem_cons.mp m with z | m
      · exact absurd z (Nat.ne_of_lt hb0)
      · have z := List.mem_singleton.mp m
        rw [hz] at z
        exact absurd z (Nat.ne_of_lt (Nat.lt_succ_of_lt hb0))
    · match r₂, hr₂ with
      | .error e, hr₂ => exact hr₂
      | .ok (.ret r), ⟨e1, h', tk, c', e2, hS', hc', hk'⟩ =>
        subst e1 e2
        repeat (any_goals (first | assumption | wp_step))
        exact h _ _ _ hS' hc' hk'
      | .ok .next, hr₂ => exact hr₂.elim
      | .ok .brk, hr₂ => exact hr₂.elim
      | .ok .cont, hr₂ => exact hr₂.elim
  | .ok .next, hr => exact hr.elim
  | .ok .brk, hr => exact hr.elim
  | .ok .cont, hr => exact hr.elim
/-- sorted(set), any number of members -/
theorem sorted_setN {a : Addr} {S : Int → Bool} {n : Nat} {Q : Value → Shared → Prop} (R : SetR w s.heap a S n) (hh : A.handled = none)
    (hQ : ∀ s' p (out : Array Value) (c : Nat) (ns : List Int), (∀ b o, s.heap.get? b = some o → s'.heap.get? b = some o) → s'.gens = s.gens → s'.os = s.os → s.heap.objs.size ≤ p →
      s'.heap.get? p = some (seqObj "list" out c) → PyProof.Rows.IntsAre out.toList ns → ns.Pairwise (· ≤ ·) → ns.Nodup → (∀ k, k ∈ ns ↔ S k = true) → ns.length = n → Q (.ref p) s') :
    wpAny (model P w) A (call (.builtin "sorted") [.ref a]) Q E s := by
  obtain ⟨o, es, ep, t, ho, hex, hd, g, nd, hm, hb, hf, hn, hr, hl⟩ := R
  have hn96 : n < 4096 := hn ▸ hb
  refine Calls.call_function_entry kind_sorted plain_sorted entry_sorted (args_sorted1 _) ?_
  unfold Builtin.«sorted»
  refine wpAny_bind (m := checkCount "sorted" 1 1 _) (wpAny_pure (wpAny_bind (collect_set (A := A.in1) hh ⟨o, ho, hex.1, hd⟩ hf hb hr hl fun s1 vs k1 hz g1 o1 pm => ?_)))
  have hvl : vs.length = n := by rw [pm.length_eq, List.length_map, Array.length_toList]; exact hn
  have hI : PyProof.Rows.IntsAre vs (vs.map Builtin.Re.reRawOf) := ints_of vs fun v hv => by
    obtain ⟨e, he, q⟩ := List.mem_map.mp (pm.mem_iff.mp hv)
    obtain ⟨k, tk, h1, _⟩ := g e he
    exact ⟨k, tk, by rw [← q]; exact h1⟩
  have pk : (vs.map Builtin.Re.reRawOf).Perm (es.toList.map keyOf) := by
    have q := pm.map Builtin.Re.reRawOf
    rwa [List.map_map] at q
  have hls : vs.length ≤ sizeLine := by rw [hvl, sizeLine_eq]; omega
  refine wpAny_bind (wpAny_newList ?_ hls)
  have hoL : (s1.heap.push (seqObj "list" vs.toArray 0)).get? s1.heap.objs.size = some (seqObj "list" vs.toArray 0) := Heap.get?_push_size _ rfl
  refine wpAny_bind (wpAny_holding (wpAny_call_entry PyProof.Rows.slot_list_sort ⟨_, hoL, rfl⟩ PyProof.Rows.entry_list_sort (SrtO.list_sort_ord SrtO.swo_int hoL hls (fun h2 => SrtO.ints_sortable hI h2) fun out a1 a2 => ⟨_, rfl, ?_⟩) (PyProof.Rows.args_list_sort _)))
  obtain ⟨b1, b2, b3⟩ := SrtO.ints_out hI a1 a2
  obtain ⟨c, hc⟩ := PyProof.Rows.sortedHeap_at (vs := vs) (out := out.toArray) hoL
  have pn : (out.map SrtO.iv).Perm (es.toList.map keyOf) := b2.trans pk
  refine wpAny_pure ⟨_, rfl, hQ _ s1.heap.objs.size out.toArray c (out.map SrtO.iv) (fun b u e => ?_) g1 o1 hz hc b1 b3 (pn.nodup_iff.mpr nd) (fun k => by rw [pn.mem_iff, ← hm k]) ?_⟩
  · have hlt := Heap.lt_size (k1 b u e)
    rw [PyProof.Rows.sortedHeap_old (Nat.ne_of_lt hlt) (by rw [Heap.size_push]; exact Nat.lt_succ_of_lt hlt)]
    exact Heap.get?_push_of_some _ (k1 b u e)
  · rw [pn.length_eq, List.length_map, Array.length_toList]; exact hn
end
section
variable {X : Cx}
def rSetI (K : PySem.W.Frag) (w : World) : List V → Hp → VK → Prop := fun vs H Q => ∃ (l : Addr) (ns : List Int), vs = [V.ref l] ∧ SqL K H l (ns.map V.int) ∧ ns.length < 4000 ∧
  ∀ (p : Addr) (c : Nat), H p = none → c ≤ ns.length → Q (.ref p) (upd H p (SetO w p (fun j => decide (j ∈ ns)) c))
theorem cr_setI (hc : X.calm = true) : CallR X (.type "set") (rSetI X.K X.w) := by
  intro pins s σ H vs us Q I r h
  obtain ⟨a, ns, rfl, hs, hl4, q⟩ := h
  obtain ⟨its, rv, hl, _⟩ := I.list hs
  rw [Vals.ref1 r]
  refine made_setI ns (I.ok.hd hc) hl.isList (by simpa using rv.ints) (by unfold scanBound; omega) fun h' tk c R hcn k => ?_
  exact ⟨.ref _, upd H s.heap.objs.size (SetO X.w s.heap.objs.size (fun j => decide (j ∈ ns)) c), I.laid (t' := tk) k (Nat.le_refl _) (setO_new R), rfl, q _ _ (I.hok.fresh (Nat.le_refl _)) hcn⟩
def rSortSetN (w : World) : List V → Hp → VK → Prop := fun vs H Q => ∃ (a : Addr) (S : Int → Bool) (n : Nat), vs = [V.ref a] ∧ H a = some (SetO w a S n) ∧ n ≤ 4000 ∧
  ∀ (ns : List Int) (p : Addr), ns.Pairwise (· < ·) → (∀ k : Int, k ∈ ns ↔ S k = true) → ns.length = n → H p = none → Q (.ref p) (upd H p (.lst (ns.map V.int)))
theorem cr_sortedSetN (hc : X.calm = true) : CallR X (.builtin "sorted") (rSortSetN X.w) := by
  intro pins s σ H vs us Q I r h
  obtain ⟨a, S, n, rfl, ha, hn, q⟩ := h
  have R := setO_get I ha
  rw [Vals.ref1 r]
  refine sorted_setN R (I.ok.hd hc) fun s' p out c ns k g o hp hg hi hs hnd hm hl => ?_
  have hlen : (ns.map V.int).length ≤ sizeLine := by rw [List.length_map, hl, sizeLine_eq]; omega
  have hf : H p = none := I.hok.fresh hp
  have J : Inv X pins σ (upd H p (.lst (ns.map V.int))) { s with heap := s'.heap, gens := s'.gens, drawn := s'.drawn, toks := s'.toks } :=
    I.call (ch := []) (Un.laid k hp hf) (I.hok.laid k hp ⟨hlen, out.toList, c, vals_of_ints hi, hg⟩) (by rw [g]; exact I.bare) (fun _ z => nomatch z)
  have e : s' = { s with heap := s'.heap, gens := s'.gens, drawn := s'.drawn, toks := s'.toks } := by
    cases s'; cases o; rfl
  rw [e]
  exact ⟨.ref p, _, J, rfl, q ns p (lt_of_le_nodup ns hs hnd) hm hl hf⟩
end
/-! ### readings, a step at a time -/
section
variable {σ : L2.St} {H : Hp} {Q : VK} {D : Ends} {ta tb te : TE} {tr t : TA} {E : XK} {sp : Sp} {dvs : List V}
theorem i_var {i : Nat} {v : V} (e : σ[i]? = some (some v)) (h : Q v H) : tVar i σ H Q := ⟨v, e, h⟩
theorem i_c {v : V} (h : Q v H) : tC v σ H Q := h
theorem i_nil {Q : List V → Hp → Prop} (h : Q [] H) : tNil σ H Q := h
theorem i_cons {Q : List V → Hp → Prop} (h : ta σ H fun x H1 => tr σ H1 fun xs H2 => Q (x :: xs) H2) : tCons ta tr σ H Q := h
theorem i_op {r : R2} (h : ta σ H fun x H1 => tb σ H1 fun y H2 => r x y H2 Q) : tOp r ta tb σ H Q := h
theorem i_un {r : V → Hp → VK → Prop} (h : ta σ H fun x H1 => r x H1 Q) : tUn r ta σ H Q := h
theorem i_call (h : t σ H fun vs H1 => sp (vs ++ dvs) H1 Q E) : tCall sp dvs E t σ H Q := h
theorem i_cb {r : List V → Hp → VK → Prop} (h : t σ H fun vs H1 => r vs H1 Q) : tCB r t σ H Q := h
theorem i_asg {g : TG} (h : te σ H fun x H1 => g x σ H1 D.nx) : tAsg te g D σ H := h
theorem i_name {i : Nat} {v : V} {Q : L2.St → Hp → Prop} (h : Q (σ.set i (some v)) H) : gName i v σ H Q := h
theorem i_seq {u v : TS} (h : u { D with nx := v D } σ H) : tSeq u v D σ H := h
theorem i_next (h : D.nx σ H) : tNext D σ H := h
theorem i_ret (h : te σ H D.rt) : tRet te D σ H := h
theorem i_drop (h : te σ H fun _ H1 => D.nx σ H1) : tDrop te D σ H := h
theorem i_if {c : TT} {u v : TS} (h : c σ H fun b H1 => if b = true then u D σ H1 else v D σ H1) : tIfS c u v D σ H := h
theorem i_and {u v : TT} {Q : Bool → Hp → Prop} (h : u σ H fun c H1 => if c = true then v σ H1 Q else Q false H1) : tAnd u v σ H Q := h
theorem i_or {u v : TT} {Q : Bool → Hp → Prop} (h : u σ H fun c H1 => if c = true then Q true H1 else v σ H1 Q) : tOr u v σ H Q := h
theorem i_not {u : TT} {Q : Bool → Hp → Prop} (h : u σ H fun c H1 => Q (!c) H1) : tNot u σ H Q := h
theorem i_test {Q : Bool → Hp → Prop} (h : te σ H fun x H1 => ∃ k, x = .bl k ∧ Q k H1) : tTest te σ H Q := h
theorem i_ite {c : TT} (h : c σ H fun b H1 => if b = true then ta σ H1 Q else tb σ H1 Q) : tIf c ta tb σ H Q := h
theorem i_lst (h : t σ H fun xs H1 => xs.length ≤ sizeLine ∧ ∀ p, H1 p = none → Q (.ref p) (upd H1 p (.lst xs))) : tLst t σ H Q := h
theorem i_tup (h : t σ H fun xs H1 => xs.length ≤ sizeLine ∧ ∀ p, H1 p = none → Q (.ref p) (upd H1 p (.tup xs))) : tTup t σ H Q := h
theorem i_bm {K : PySem.W.Frag} {S : String} {r : V → List V → Hp → VK → Prop} (h : ta σ H fun x H1 => tyV K S x H1 ∧ t σ H1 fun xs H2 => r x xs H2 Q) : tBM K S r ta t σ H Q := h
theorem i_aug {i : Nat} {ti : TIp} {x : V} (e : σ[i]? = some (some x)) (h : te σ H fun y H1 => ti x y H1 fun z H2 => D.nx (σ.set i (some z)) H2) : tAug i te ti D σ H := ⟨x, e, h⟩
theorem i_par {i j : Nat} {v w : V} (h : t σ H fun vs H1 => ∃ v w, vs = [v, w] ∧ D.nx ((σ.set i (some v)).set j (some w)) H1) : tPar i j t D σ H := h
theorem i_gsub {to ti : TE} {ts : TSet} {v : V} {Q : L2.St → Hp → Prop} (h : to σ H fun o H1 => ti σ H1 fun i H2 => ts o i v H2 fun H3 => Q σ H3) : gSub to ti ts v σ H Q := h
theorem i_chain {r r' : R2} {tc : TE} (h : ta σ H fun x H1 => tb σ H1 fun y H2 => r x y H2 fun z H3 => ∃ k, z = .bl k ∧ if k = true then tc σ H3 fun v H4 => r' y v H4 Q else Q (.bl false) H3) : tChain r r' ta tb tc σ H Q := h
theorem i_sl {r : V → Option Int → Option Int → Hp → VK → Prop} {tl th : TO} (h : te σ H fun x H1 => tl σ H1 fun l H2 => th σ H2 fun u H3 => r x l u H3 Q) : tSl r te tl th σ H Q := h
theorem i_nopart {Q : Option Int → Hp → Prop} (h : Q none H) : tNoPart σ H Q := h
theorem i_part {Q : Option Int → Hp → Prop} (h : te σ H fun x H1 => ∃ i, x = .int i ∧ Q (some i) H1) : tPart te σ H Q := h
end
section
variable {σ : L2.St} {H : Hp} {Q : VK} {ta te : TE} {t : TA}
theorem i_m1 {r : V → List V → Hp → VK → Prop} (h : ta σ H fun x H1 => (∃ a, x = .str a) ∧ te σ H1 fun y H2 => r x [y] H2 Q) : tM1 r ta te σ H Q := h
theorem i_m0 {r : V → List V → Hp → VK → Prop} (h : ta σ H fun x H1 => (∃ a, x = .str a) ∧ r x [] H1 Q) : tM0 r ta σ H Q := h
theorem i_iList {K : PySem.W.Frag} {R : It → Hp → Prop} (h : ta σ H fun x H1 => ∃ a, x = .ref a ∧ (∃ xs, SqL K H1 a xs) ∧ R (Itl K a) H1) : iList K ta σ H R := h
theorem i_iTup {K : PySem.W.Frag} {R : It → Hp → Prop} (h : ta σ H fun x H1 => ∃ a, x = .ref a ∧ (∃ xs, SqT K H1 a xs) ∧ R (Itt K a) H1) : iTup K ta σ H R := h
theorem i_iStr {R : It → Hp → Prop} (h : ta σ H fun v H1 => ∃ x, v = .str x ∧ R (Its x) H1) : iStr ta σ H R := h
theorem i_r1 {R : It → Hp → Prop} (h : t σ H fun vs H1 => ∃ j : Int, vs = [.int j] ∧ -(2 ^ 62) ≤ j ∧ j < 2 ^ 62 ∧ R (Itr 0 j.toNat) H1) : iRng1 t σ H R := h
theorem i_lc {wi : TI} {g : TG} {tt : TT} {vs : List Nat} (h : wi σ H fun J H1 => ∀ D, H1 D = none → ∃ W : Nat → Nat → Hp → Prop, (∃ m, W 0 m (upd H1 D (.lst []))) ∧ ∀ i m H, W i m H →
  (J.stop i H ∧ Q (.ref D) H) ∨ (J.go i H ∧ ∃ Nx : Hp → Prop, (∀ H', Nx H' → ∃ m', m' < m ∧ W (i + 1) m' H') ∧ ∀ x H', J.yld i H x H' → g x (wipe σ vs) H' fun σ2 H2 => wipe σ2 vs = wipe σ vs ∧ tt σ2 H2 fun b H3 =>
    if b = true then te σ2 H3 fun y H4 => ∃ acc, H4 D = some (.lst acc) ∧ acc.length < sizeLine ∧ Nx (upd H4 D (.lst (acc ++ [y]))) else Nx H3)) : tLc wi g tt te vs σ H Q := h
end
theorem app_same {H1 H4 : Hp} {D : Addr} {o : HO} (hD : H1 D = none) (s : Same H1 H4) : Same H1 (upd H4 D o) := fun y u e => by rw [upd_ne (ne_of_none e hD)]; exact s _ _ e
theorem app_keep {F : Addr} {H1 H4 : Hp} {D : Addr} {o : HO} (hD : H1 D = none) (s : Keep F H1 H4) : Keep F H1 (upd H4 D o) := fun y u n e => by rw [upd_ne (ne_of_none e hD)]; exact s _ _ n e
theorem lt_line {n : Nat} (h : n < 100000) : n < sizeLine := Nat.lt_of_lt_of_le h (by decide)
theorem le_line {n : Nat} (h : n ≤ 100000) : n ≤ sizeLine := Nat.le_trans h (by decide)
theorem ixN_nat {n j : Nat} (h : j < n) : ixN n (j : Int) = some j := by
  unfold ixN
  rw [if_pos (by omega), if_pos (by omega)]
  simp
theorem i_callk {σ : L2.St} {H : Hp} {Q : VK} {sp : Sp} {gV : List V → List V → List V} {E : XK} {t tk : TA} (h : t σ H fun vs H1 => tk σ H1 fun zs H2 => sp (gV vs zs) H2 Q E) : tCallK sp gV E t tk σ H Q := h
theorem i_callN {σ : L2.St} {H : Hp} {Q : VK} {n m : Nat} {sp : Sp} {gV : List V → List V → List V} {E : XK} {t tk : TA} (h : t σ H fun vs H1 => tk σ H1 fun zs H2 => vs.length = n ∧ zs.length = m ∧ sp (gV vs zs) H2 Q E) : tCallN n m sp gV E t tk σ H Q := h
theorem i_ckw {σ : L2.St} {H : Hp} {Q : VK} {r : List V → List V → Hp → VK → Prop} {t tk : TA} (h : t σ H fun vs H1 => tk σ H1 fun zs H2 => r vs zs H2 Q) : tCKw r t tk σ H Q := h
theorem i_revL {K : PySem.W.Frag} {σ : L2.St} {H : Hp} {Q : VK} {te : TE} (h : te σ H fun x H1 => ∃ a xs, x = .ref a ∧ SqL K H1 a xs ∧ ∀ p, H1 p = none → Q (.ref p) (upd H1 p (.lst xs.reverse))) : tRevL K te σ H Q := h
theorem ite_str {a b : Str} {A B : Prop} (h1 : a = b → A) (h2 : ¬ a = b → B) : if decide (V.str a = V.str b) = true then A else B := by
  by_cases c : a = b
  · rw [if_pos (decide_eq_true (congrArg V.str c))]; exact h1 c
  · rw [if_neg (fun z => c (V.str.inj (of_decide_eq_true z)))]; exact h2 c
theorem ite_nstr {a b : Str} {A B : Prop} (h1 : ¬ a = b → A) (h2 : a = b → B) : if (!decide (V.str a = V.str b)) = true then A else B := by
  by_cases c : a = b
  · rw [decide_eq_true (congrArg V.str c)]; exact iteF (h2 c)
  · rw [decide_eq_false (fun z => c (V.str.inj z))]; exact iteT (h1 c)
theorem i_tB {te : TE} {σ : L2.St} {H : Hp} {Q : Bool → Hp → Prop} (h : te σ H fun x H1 => ∃ c, x = .bl c ∧ Q c H1) : tB te σ H Q := h
theorem i_kw {K : PySem.W.Frag} {n : Nat} {gs : TGs} {a : Addr} {xs : List V} {σ : L2.St} {H : Hp} {Q : L2.St → Hp → Prop} (h : SqT K H a xs) (e : xs.length = n) (q : gs xs σ H Q) : gTup K n gs (.ref a) σ H Q := ⟨a, xs, rfl, h, e, q⟩
theorem i_andV {ta tb : TE} {σ : L2.St} {H : Hp} {Q : VK} (h : ta σ H fun x H1 => ∃ c, x = .bl c ∧ if c = true then tb σ H1 Q else Q (.bl false) H1) : tAndV ta tb σ H Q := h
theorem i_orV {ta tb : TE} {σ : L2.St} {H : Hp} {Q : VK} (h : ta σ H fun x H1 => ∃ c, x = .bl c ∧ if c = true then Q (.bl true) H1 else tb σ H1 Q) : tOrV ta tb σ H Q := h
theorem i_notV {ta : TE} {σ : L2.St} {H : Hp} {Q : VK} (h : ta σ H fun x H1 => ∃ c, x = .bl c ∧ Q (.bl (!c)) H1) : tNotV ta σ H Q := h
theorem i_ixT {K : PySem.W.Frag} {H : Hp} {p : Addr} {xs : List V} {j : Nat} {v : V} {Q : VK} (h : SqT K H p xs) (e : xs[j]? = some v) (q : Q v H) : rIxT K (.ref p) (.int (j : Int)) H Q := ⟨p, xs, _, v, rfl, rfl, h, atI_nat e, q⟩
theorem i_ixL {K : PySem.W.Frag} {H : Hp} {p : Addr} {xs : List V} {j : Nat} {v : V} {Q : VK} (h : SqL K H p xs) (e : xs[j]? = some v) (q : Q v H) : rIxL K (.ref p) (.int (j : Int)) H Q := ⟨p, xs, _, v, rfl, rfl, h, atI_nat e, q⟩
theorem i_ixT0 {K : PySem.W.Frag} {H : Hp} {p : Addr} {x : V} {xs : List V} {Q : VK} (h : SqT K H p (x :: xs)) (q : Q x H) : rIxT K (.ref p) (.int 0) H Q := ⟨p, _, 0, x, rfl, rfl, h, atI_nat (j := 0) rfl, q⟩
theorem i_ixT1 {K : PySem.W.Frag} {H : Hp} {p : Addr} {x y : V} {xs : List V} {Q : VK} (h : SqT K H p (x :: y :: xs)) (q : Q y H) : rIxT K (.ref p) (.int 1) H Q := ⟨p, _, 1, y, rfl, rfl, h, atI_nat (j := 1) rfl, q⟩
theorem i_ixT2 {K : PySem.W.Frag} {H : Hp} {p : Addr} {x y z : V} {xs : List V} {Q : VK} (h : SqT K H p (x :: y :: z :: xs)) (q : Q z H) : rIxT K (.ref p) (.int 2) H Q := ⟨p, _, 2, z, rfl, rfl, h, atI_nat (j := 2) rfl, q⟩
theorem i_ixT3 {K : PySem.W.Frag} {H : Hp} {p : Addr} {x y z w : V} {xs : List V} {Q : VK} (h : SqT K H p (x :: y :: z :: w :: xs)) (q : Q w H) : rIxT K (.ref p) (.int 3) H Q := ⟨p, _, 3, w, rfl, rfl, h, atI_nat (j := 3) rfl, q⟩
theorem i_ixLe {K : PySem.W.Frag} {H : Hp} {p : Addr} {xs : List V} {i : Int} (j : Nat) {v : V} {Q : VK} (h : SqL K H p xs) (ei : i = (j : Int)) (e : xs[j]? = some v) (q : Q v H) : rIxL K (.ref p) (.int i) H Q := by subst ei; exact i_ixL h e q
theorem i_ixTe {K : PySem.W.Frag} {H : Hp} {p : Addr} {xs : List V} {i : Int} (j : Nat) {v : V} {Q : VK} (h : SqT K H p xs) (ei : i = (j : Int)) (e : xs[j]? = some v) (q : Q v H) : rIxT K (.ref p) (.int i) H Q := by subst ei; exact i_ixT h e q
def rFld (K : PySem.W.Frag) (f : Str) : V → Hp → VK → Prop := fun x H Q => ∃ a C dx fs v, x = .ref a ∧ H a = some (.ins C dx fs) ∧ Cls K C ∧ NoAttr K C f ∧ fs.lookup f = some v ∧ Q v H
theorem i_fld {K : PySem.W.Frag} {ta : TE} {f : Str} {σ : L2.St} {H : Hp} {Q : VK} (h : ta σ H fun x H1 => rFld K f x H1 Q) : tFld K ta f σ H Q := h
theorem i_sfld {K : PySem.W.Frag} {ta tv : TE} {f : Str} {D : Ends} {σ : L2.St} {H : Hp} (h : tv σ H fun y H1 => ta σ H1 fun x H2 => ∃ a C dx fs, x = .ref a ∧ H2 a = some (.ins C dx fs) ∧ Cls K C ∧ NoAttr K C f ∧ fs.length < 1000 ∧ D.nx σ (upd H2 a (.ins C dx (putF f y fs)))) : sFld K ta tv f D σ H := h
/-- a new object, to be made by its __init__ -/
def rMkN (C : Addr) (sp : Sp) (gV : List V → List V → List V) (E : XK) (vs zs : List V) (H : Hp) (Q : VK) : Prop := ∀ x dx, H x = none → H dx = none → dx ≠ x → sp (gV (.ref x :: vs) zs) (upd (upd H dx (.own x)) x (.ins C dx [])) (fun v H3 => v = .non ∧ Q (.ref x) H3) E
def rMk (C : Addr) (sp : Sp) (dvs : List V) (E : XK) (vs : List V) (H : Hp) (Q : VK) : Prop := ∀ x dx, H x = none → H dx = none → dx ≠ x → sp (.ref x :: (vs ++ dvs)) (upd (upd H dx (.own x)) x (.ins C dx [])) (fun v H3 => v = .non ∧ Q (.ref x) H3) E
theorem i_make {C : Addr} {sp : Sp} {dvs : List V} {E : XK} {t : TA} {σ : L2.St} {H : Hp} {Q : VK} (h : t σ H fun vs H1 => rMk C sp dvs E vs H1 Q) : tMake C sp dvs E t σ H Q := h
theorem i_makeN {C : Addr} {n m : Nat} {sp : Sp} {gV : List V → List V → List V} {E : XK} {t tk : TA} {σ : L2.St} {H : Hp} {Q : VK} (h : t σ H fun vs H1 => tk σ H1 fun zs H2 => vs.length = n ∧ zs.length = m ∧ rMkN C sp gV E vs zs H2 Q) : tMakeN C n m sp gV E t tk σ H Q := h
theorem i_meth {C : Addr} {m : Str} {sp : Sp} {dvs : List V} {E : XK} {ta : TE} {t : TA} {σ : L2.St} {H : Hp} {Q : VK} (h : ta σ H fun x H1 => ∃ a dx fs, x = .ref a ∧ H1 a = some (.ins C dx fs) ∧ fs.lookup m = none ∧ t σ H1 fun vs H2 => sp (x :: (vs ++ dvs)) H2 Q E) : tMeth C m sp dvs E ta t σ H Q := h
theorem ixN_last {n : Nat} : ixN (n + 1) (-1) = some n := by
  unfold ixN
  rw [if_neg (by decide), if_pos (by omega)]
  congr 1
  omega
theorem i_ixLast {K : PySem.W.Frag} {H : Hp} {p : Addr} {xs : List V} {v : V} {Q : VK} (h : SqL K H p (xs ++ [v])) (q : Q v H) : rIxL K (.ref p) (.int (-1)) H Q := by
  refine ⟨p, xs ++ [v], -1, v, rfl, rfl, h, ?_, q⟩
  unfold atI
  rw [List.length_append, List.length_singleton, ixN_last]
  simp
theorem i_setLast {H : Hp} {p : Addr} {xs : List V} {v w : V} {Q : Hp → Prop} (h : H p = some (.lst (xs ++ [v]))) (q : Q (upd H p (.lst (xs ++ [w])))) : rSetL (.ref p) (.int (-1)) w H Q := by
  refine ⟨p, xs ++ [v], -1, xs.length, rfl, rfl, h, by rw [List.length_append, List.length_singleton, ixN_last], ?_⟩
  rw [show (xs ++ [v]).set xs.length w = xs ++ [w] by simp]
  exact q
theorem isi_list {K : PySem.W.Frag} {H : Hp} {p : Addr} {xs : List V} {Q : VK} (e : H p = some (.lst xs)) (q : Q (.bl true) H) : rIsi K [.ref p, .ty "list"] H Q := ⟨_, _, _, _, true, rfl, .ty _, .base (.lst e), rfl, q⟩
theorem isi_own {K : PySem.W.Frag} {H : Hp} {x : V} {C : Addr} {Q : VK} (e : TyX K H x (.ref C)) (q : Q (.bl true) H) : rIsi K [x, .ref C] H Q := ⟨_, _, _, _, true, rfl, .own C, e, if_pos (beq_self_eq_true _), q⟩
theorem i_yes {σ : L2.St} {H : Hp} {Q : Bool → Hp → Prop} (h : Q true H) : tYes σ H Q := h
set_option maxHeartbeats 8000000
local macro_rules | `(tactic| walk_at "c") => `(tactic| first | omega | decide | exact ⟨by omega, by omega⟩ | exact ⟨by decide, by decide⟩ | exact .inl ⟨by omega, by omega⟩ | exact .inr ⟨by omega, by omega⟩ | exact ⟨by omega, by omega, by omega⟩ | exact ⟨by decide, by decide, by decide⟩ | exact le_line (Nat.le_of_ble_eq_true rfl))
local macro_rules | `(tactic| walk_at "a") => `(tactic| with_reducible (first | refine i_seq ?_ | refine i_asg ?_ | refine i_cons ?_ | refine i_c ?_ | refine i_nil ?_ | refine i_op ?_ | refine i_call ?_ | refine i_cb ?_ | refine i_name ?_ | refine i_next ?_ | refine i_ret ?_ | refine i_drop ?_ | refine i_if ?_ | refine i_test ?_ | refine i_and ?_ | refine i_or ?_ | refine i_not ?_ | refine i_ite ?_ | refine i_lst ?_ | refine i_tup ?_ | refine i_bm ?_ | refine i_un ?_ | refine i_par ?_ | refine i_gsub ?_ | refine i_chain ?_ | refine i_sl ?_ | refine i_nopart ?_ | refine i_part ?_ | refine i_m1 ?_ | refine i_m0 ?_ | refine i_lc ?_ | refine i_iList ?_ | refine i_iTup ?_ | refine i_iStr ?_ | refine i_r1 ?_ | refine i_set ?_ | refine i_callk ?_ | refine i_callN ?_ | refine i_ckw ?_ | refine i_revL ?_ | refine i_tB ?_ | refine i_fld ?_ | refine i_sfld ?_ | refine i_make ?_ | refine i_makeN ?_ | refine i_meth ?_ | refine i_andV ?_ | refine i_orV ?_ | refine i_notV ?_ | refine iteT ?_ | refine iteF ?_ | refine i_yes ?_))
local macro_rules | `(tactic| walk_at "s") => `(tactic| repeat (first | walk_at "a" | refine i_var rfl ?_ | refine i_aug rfl ?_ | refine And.intro ⟨_, rfl⟩ ?_ | refine ⟨_, rfl, ?_⟩ | refine ⟨_, _, rfl, rfl, ?_⟩ | refine ⟨_, _, rfl, ?_⟩ | refine ⟨rfl, ?_⟩ | refine And.intro (by walk_at "c") ?_))
abbrev FunDf_joined (K : PySem.W.Frag) (f : Addr) (fd : FuncData) : Prop := FunD K "joined" "joined" (defArgs sJoined) (defBody sJoined) (defScope sJoined) [.int 0] [] f fd
abbrev FunDf_Stretch___init__ (K : PySem.W.Frag) (f : Addr) (fd : FuncData) : Prop := FunD K "__init__" "Stretch.__init__" (defArgs sSInit) (defBody sSInit) (defScope sSInit) [.non] [] f fd
structure Ev (K : PySem.W.Frag) (mg : Str → Option Value) (base : Heap) where
  f_wall : Addr
  fd_wall : FuncData
  F_wall : Fun K "_wall" "_wall" sWall f_wall fd_wall
  b_wall : Binds K fd_wall ["k"] []
  g_wall : mg "_wall" = some (.ref f_wall)
  fshow_time : Addr
  fdshow_time : FuncData
  Fshow_time : Fun K "show_time" "show_time" sShow fshow_time fdshow_time
  bshow_time : Binds K fdshow_time ["minute"] []
  gshow_time : mg "show_time" = some (.ref fshow_time)
  fmeet : Addr
  fdmeet : FuncData
  Fmeet : Fun K "meet" "meet" sMeet fmeet fdmeet
  bmeet : Binds K fdmeet ["one", "other"] []
  gmeet : mg "meet" = some (.ref fmeet)
  fjoined : Addr
  fdjoined : FuncData
  Fjoined : FunDf_joined K fjoined fdjoined
  gjoined : mg "joined" = some (.ref fjoined)
  fgaps : Addr
  fdgaps : FuncData
  Fgaps : Fun K "gaps" "gaps" sGaps fgaps fdgaps
  bgaps : Binds K fdgaps ["some", "within"] []
  ggaps : mg "gaps" = some (.ref fgaps)
  f_in_weeks : Addr
  fd_in_weeks : FuncData
  F_in_weeks : Fun K "_in_weeks" "_in_weeks" sInWeeks f_in_weeks fd_in_weeks
  b_in_weeks : Binds K fd_in_weeks ["some", "first", "behind"] []
  g_in_weeks : mg "_in_weeks" = some (.ref f_in_weeks)
  f_where : Addr
  fd_where : FuncData
  F_where : Fun K "_where" "_where" sWhere f_where fd_where
  b_where : Binds K fd_where ["rule", "allowed"] []
  g_where : mg "_where" = some (.ref f_where)
  f_some_or_rest : Addr
  fd_some_or_rest : FuncData
  F_some_or_rest : Fun K "_some_or_rest" "_some_or_rest" sSomeOrRest f_some_or_rest fd_some_or_rest
  b_some_or_rest : Binds K fd_some_or_rest ["some", "told"] []
  g_some_or_rest : mg "_some_or_rest" = some (.ref f_some_or_rest)
  f_where_alone : Addr
  fd_where_alone : FuncData
  F_where_alone : Fun K "_where_alone" "_where_alone" sWhereAlone f_where_alone fd_where_alone
  b_where_alone : Binds K fd_where_alone ["rule"] []
  g_where_alone : mg "_where_alone" = some (.ref f_where_alone)
  f_hours_of : Addr
  fd_hours_of : FuncData
  F_hours_of : Fun K "_hours_of" "_hours_of" sHoursOf f_hours_of fd_hours_of
  b_hours_of : Binds K fd_hours_of ["hours", "midnight"] []
  g_hours_of : mg "_hours_of" = some (.ref f_hours_of)
  fallowed_in : Addr
  fdallowed_in : FuncData
  Fallowed_in : Fun K "allowed_in" "allowed_in" sAllowedIn fallowed_in fdallowed_in
  ballowed_in : Binds K fdallowed_in ["rule", "within"] []
  gallowed_in : mg "allowed_in" = some (.ref fallowed_in)
  f_law_tape : Addr
  fd_law_tape : FuncData
  F_law_tape : Fun K "_law_tape" "_law_tape" sTape f_law_tape fd_law_tape
  b_law_tape : Binds K fd_law_tape ["_law_script"] []
  g_law_tape : mg "_law_tape" = some (.ref f_law_tape)
  f_law_draw : Addr
  fd_law_draw : FuncData
  F_law_draw : Fun K "_law_draw" "_law_draw" sDraw f_law_draw fd_law_draw
  b_law_draw : Binds K fd_law_draw ["_law_tape_here", "_law_many"] []
  g_law_draw : mg "_law_draw" = some (.ref f_law_draw)
  f_law_pick : Addr
  fd_law_pick : FuncData
  F_law_pick : Fun K "_law_pick" "_law_pick" sPick f_law_pick fd_law_pick
  b_law_pick : Binds K fd_law_pick ["_law_tape_here", "_law_some"] []
  g_law_pick : mg "_law_pick" = some (.ref f_law_pick)
  f_law_rule : Addr
  fd_law_rule : FuncData
  F_law_rule : Fun K "_law_rule" "_law_rule" sRule f_law_rule fd_law_rule
  b_law_rule : Binds K fd_law_rule ["_law_tape_here", "_law_deep"] []
  g_law_rule : mg "_law_rule" = some (.ref f_law_rule)
  f_law_wide : Addr
  fd_law_wide : FuncData
  F_law_wide : Fun K "_law_wide" "_law_wide" sWide f_law_wide fd_law_wide
  b_law_wide : Binds K fd_law_wide ["_law_tape_here"] []
  g_law_wide : mg "_law_wide" = some (.ref f_law_wide)
  f_law_object : Addr
  fd_law_object : FuncData
  F_law_object : Fun K "_law_object" "_law_object" sObject f_law_object fd_law_object
  b_law_object : Binds K fd_law_object ["_law_told_rule"] []
  g_law_object : mg "_law_object" = some (.ref f_law_object)
  f_law_allows : Addr
  fd_law_allows : FuncData
  F_law_allows : Fun K "_law_allows" "_law_allows" sAllows f_law_allows fd_law_allows
  b_law_allows : Binds K fd_law_allows ["_law_told_rule", "_law_minute"] []
  g_law_allows : mg "_law_allows" = some (.ref f_law_allows)
  f_law_clocks : Addr
  fd_law_clocks : FuncData
  F_law_clocks : Fun K "_law_clocks" "_law_clocks" sClocks f_law_clocks fd_law_clocks
  b_law_clocks : Binds K fd_law_clocks ["_law_told_rule"] []
  g_law_clocks : mg "_law_clocks" = some (.ref f_law_clocks)
  f_law_pieces : Addr
  fd_law_pieces : FuncData
  F_law_pieces : Fun K "_law_pieces" "_law_pieces" sPieces f_law_pieces fd_law_pieces
  b_law_pieces : Binds K fd_law_pieces ["_law_told_rule", "_law_first", "_law_behind"] []
  g_law_pieces : mg "_law_pieces" = some (.ref f_law_pieces)
  f_law_is : Addr
  fd_law_is : FuncData
  F_law_is : Fun K "_law_is" "_law_is" sLIs f_law_is fd_law_is
  b_law_is : Binds K fd_law_is ["_law_told", "_law_due"] []
  g_law_is : mg "_law_is" = some (.ref f_law_is)
  f_law_wide_right : Addr
  fd_law_wide_right : FuncData
  F_law_wide_right : Fun K "_law_wide_right" "_law_wide_right" sWideRight f_law_wide_right fd_law_wide_right
  b_law_wide_right : Binds K fd_law_wide_right ["_law_tape_here"] []
  g_law_wide_right : mg "_law_wide_right" = some (.ref f_law_wide_right)
  f_law_deep_right : Addr
  fd_law_deep_right : FuncData
  F_law_deep_right : Fun K "_law_deep_right" "_law_deep_right" sDeepRight f_law_deep_right fd_law_deep_right
  b_law_deep_right : Binds K fd_law_deep_right ["_law_tape_here"] []
  g_law_deep_right : mg "_law_deep_right" = some (.ref f_law_deep_right)
  flaw : Addr
  fdlaw : FuncData
  Flaw : Fun K "law" "law" sLaw flaw fdlaw
  blaw : Binds K fdlaw ["_law_script"] []
  glaw : mg "law" = some (.ref flaw)
  fRule_allows : Addr
  fdRule_allows : FuncData
  FRule_allows : Fun K "allows" "Rule.allows" sRuleAllows fRule_allows fdRule_allows
  bRule_allows : Binds K fdRule_allows ["self", "minute"] []
  fHours___init__ : Addr
  fdHours___init__ : FuncData
  FHours___init__ : Fun K "__init__" "Hours.__init__" sHoursInit fHours___init__ fdHours___init__
  bHours___init__ : Binds K fdHours___init__ ["self", "first", "behind"] []
  fHours___eq__ : Addr
  fdHours___eq__ : FuncData
  FHours___eq__ : Fun K "__eq__" "Hours.__eq__" sHoursEq fHours___eq__ fdHours___eq__
  bHours___eq__ : Binds K fdHours___eq__ ["self", "other"] []
  fHours___str__ : Addr
  fdHours___str__ : FuncData
  FHours___str__ : Fun K "__str__" "Hours.__str__" sHoursStr fHours___str__ fdHours___str__
  bHours___str__ : Binds K fdHours___str__ ["self"] []
  fHours_allows : Addr
  fdHours_allows : FuncData
  FHours_allows : Fun K "allows" "Hours.allows" sHoursAllows fHours_allows fdHours_allows
  bHours_allows : Binds K fdHours_allows ["self", "minute"] []
  fDays___init__ : Addr
  fdDays___init__ : FuncData
  FDays___init__ : Fun K "__init__" "Days.__init__" sDaysInit fDays___init__ fdDays___init__
  bDays___init__ : Binds K fdDays___init__ ["self", "days"] []
  fDays___eq__ : Addr
  fdDays___eq__ : FuncData
  FDays___eq__ : Fun K "__eq__" "Days.__eq__" sDaysEq fDays___eq__ fdDays___eq__
  bDays___eq__ : Binds K fdDays___eq__ ["self", "other"] []
  fDays___str__ : Addr
  fdDays___str__ : FuncData
  FDays___str__ : Fun K "__str__" "Days.__str__" sDaysStr fDays___str__ fdDays___str__
  bDays___str__ : Binds K fdDays___str__ ["self"] []
  fDays_allows : Addr
  fdDays_allows : FuncData
  FDays_allows : Fun K "allows" "Days.allows" sDaysAllows fDays_allows fdDays_allows
  bDays_allows : Binds K fdDays_allows ["self", "minute"] []
  fUnless___init__ : Addr
  fdUnless___init__ : FuncData
  FUnless___init__ : Fun K "__init__" "Unless.__init__" sUnlessInit fUnless___init__ fdUnless___init__
  bUnless___init__ : Binds K fdUnless___init__ ["self", "rule"] []
  fUnless___eq__ : Addr
  fdUnless___eq__ : FuncData
  FUnless___eq__ : Fun K "__eq__" "Unless.__eq__" sUnlessEq fUnless___eq__ fdUnless___eq__
  bUnless___eq__ : Binds K fdUnless___eq__ ["self", "other"] []
  fUnless___str__ : Addr
  fdUnless___str__ : FuncData
  FUnless___str__ : Fun K "__str__" "Unless.__str__" sUnlessStr fUnless___str__ fdUnless___str__
  bUnless___str__ : Binds K fdUnless___str__ ["self"] []
  fUnless_allows : Addr
  fdUnless_allows : FuncData
  FUnless_allows : Fun K "allows" "Unless.allows" sUnlessAllows fUnless_allows fdUnless_allows
  bUnless_allows : Binds K fdUnless_allows ["self", "minute"] []
  fBoth___init__ : Addr
  fdBoth___init__ : FuncData
  FBoth___init__ : Fun K "__init__" "Both.__init__" sBothInit fBoth___init__ fdBoth___init__
  bBoth___init__ : Binds K fdBoth___init__ ["self", "rules"] []
  fBoth___eq__ : Addr
  fdBoth___eq__ : FuncData
  FBoth___eq__ : Fun K "__eq__" "Both.__eq__" sBothEq fBoth___eq__ fdBoth___eq__
  bBoth___eq__ : Binds K fdBoth___eq__ ["self", "other"] []
  fBoth___str__ : Addr
  fdBoth___str__ : FuncData
  FBoth___str__ : Fun K "__str__" "Both.__str__" sBothStr fBoth___str__ fdBoth___str__
  bBoth___str__ : Binds K fdBoth___str__ ["self"] []
  fBoth_allows : Addr
  fdBoth_allows : FuncData
  FBoth_allows : Fun K "allows" "Both.allows" sBothAllows fBoth_allows fdBoth_allows
  bBoth_allows : Binds K fdBoth_allows ["self", "minute"] []
  fEither___init__ : Addr
  fdEither___init__ : FuncData
  FEither___init__ : Fun K "__init__" "Either.__init__" sEitherInit fEither___init__ fdEither___init__
  bEither___init__ : Binds K fdEither___init__ ["self", "rules"] []
  fEither___eq__ : Addr
  fdEither___eq__ : FuncData
  FEither___eq__ : Fun K "__eq__" "Either.__eq__" sEitherEq fEither___eq__ fdEither___eq__
  bEither___eq__ : Binds K fdEither___eq__ ["self", "other"] []
  fEither___str__ : Addr
  fdEither___str__ : FuncData
  FEither___str__ : Fun K "__str__" "Either.__str__" sEitherStr fEither___str__ fdEither___str__
  bEither___str__ : Binds K fdEither___str__ ["self"] []
  fEither_allows : Addr
  fdEither_allows : FuncData
  FEither_allows : Fun K "allows" "Either.allows" sEitherAllows fEither_allows fdEither_allows
  bEither_allows : Binds K fdEither_allows ["self", "minute"] []
  fStretch___init__ : Addr
  fdStretch___init__ : FuncData
  FStretch___init__ : FunDf_Stretch___init__ K fStretch___init__ fdStretch___init__
  fStretch___eq__ : Addr
  fdStretch___eq__ : FuncData
  FStretch___eq__ : Fun K "__eq__" "Stretch.__eq__" sSEq fStretch___eq__ fdStretch___eq__
  bStretch___eq__ : Binds K fdStretch___eq__ ["self", "other"] []
  fStretch___len__ : Addr
  fdStretch___len__ : FuncData
  FStretch___len__ : Fun K "__len__" "Stretch.__len__" sSLen fStretch___len__ fdStretch___len__
  bStretch___len__ : Binds K fdStretch___len__ ["self"] []
  fStretch___str__ : Addr
  fdStretch___str__ : FuncData
  FStretch___str__ : Fun K "__str__" "Stretch.__str__" sSStr fStretch___str__ fdStretch___str__
  bStretch___str__ : Binds K fdStretch___str__ ["self"] []
  fStretch___repr__ : Addr
  fdStretch___repr__ : FuncData
  FStretch___repr__ : Fun K "__repr__" "Stretch.__repr__" sSRepr fStretch___repr__ fdStretch___repr__
  bStretch___repr__ : Binds K fdStretch___repr__ ["self"] []
  fWeek___init__ : Addr
  fdWeek___init__ : FuncData
  FWeek___init__ : Fun K "__init__" "Week.__init__" sWeekInit fWeek___init__ fdWeek___init__
  bWeek___init__ : Binds K fdWeek___init__ ["self", "rule"] []
  fWeek_soonest : Addr
  fdWeek_soonest : FuncData
  FWeek_soonest : Fun K "soonest" "Week.soonest" sWeekSoonest fWeek_soonest fdWeek_soonest
  bWeek_soonest : Binds K fdWeek_soonest ["self", "minute", "long"] []
  fWeek_allowed_within : Addr
  fdWeek_allowed_within : FuncData
  FWeek_allowed_within : Fun K "allowed_within" "Week.allowed_within" sWeekAllowedWithin fWeek_allowed_within fdWeek_allowed_within
  bWeek_allowed_within : Binds K fdWeek_allowed_within ["self", "within"] []
  fNoStretch___init__ : Addr
  fdNoStretch___init__ : FuncData
  FNoStretch___init__ : Fun K "__init__" "NoStretch.__init__" sNInit fNoStretch___init__ fdNoStretch___init__
  bNoStretch___init__ : Binds K fdNoStretch___init__ ["self", "first", "behind"] []
  ccjoined : Addr
  cpjoined : Addr
  cdjoined : fdjoined.code = .ref ccjoined
  tbjoined : LamX.TabB base mg ccjoined cpjoined
  tDAY : Tok
  mDAY : mg "DAY" = some (.int 1440 tDAY)
  tHOUR : Tok
  mHOUR : mg "HOUR" = some (.int 60 tHOUR)
  tWEEK : Tok
  mWEEK : mg "WEEK" = some (.int 7 tWEEK)
  tMINUTES : Tok
  mMINUTES : mg "MINUTES" = some (.int 10080 tMINUTES)
  tWEEKS_AHEAD : Tok
  mWEEKS_AHEAD : mg "WEEKS_AHEAD" = some (.int 3 tWEEKS_AHEAD)
  mArithmeticError : mg "ArithmeticError" = none
  mall : mg "all" = none
  many : mg "any" = none
  mdivmod : mg "divmod" = none
  mint : mg "int" = none
  misinstance : mg "isinstance" = none
  mlen : mg "len" = none
  mlist : mg "list" = none
  mmax : mg "max" = none
  mmin : mg "min" = none
  mrange : mg "range" = none
  mset : mg "set" = none
  msorted : mg "sorted" = none
  mstr : mg "str" = none
  mtuple : mg "tuple" = none
  mzip : mg "zip" = none
  CRule : Addr
  CHours : Addr
  CDays : Addr
  CUnless : Addr
  CBoth : Addr
  CEither : Addr
  CStretch : Addr
  CWeek : Addr
  CNoStretch : Addr
  gCNoStretch : mg "NoStretch" = some (.ref CNoStretch)
  oxNoStretch : OexB K CNoStretch
  exNoStretch : PySem.W.subIn K (.ref CNoStretch) (.type "BaseException") = some true
  hdNoStretch : PySem.W.hasDictIn K CNoStretch = true
  tyNoStretch : PySem.W.typeIn K (.ref CNoStretch) = some (.type "type")
  icNoStretch : PySem.W.isClsIn K CNoStretch = true
  seNoStretch : PySem.W.subIn K (.ref CNoStretch) (.ref CNoStretch) = some true
  upNoStretch : PySem.W.subIn K (.ref CNoStretch) (.type "ArithmeticError") = some true
  gaNoStretch : PySem.W.findIn K (.ref CNoStretch) "__getattribute__" = some (some (.builtin "BaseException.__getattribute__"))
  ggNoStretch : PySem.W.findIn K (.ref CNoStretch) "__getattr__" = some none
  haNoStretch : PySem.W.findIn K (.ref CNoStretch) "__class__" = some (some (.builtin "object.__class__"))
  hnNoStretch : PySem.W.specialIn K (.builtin "object.__class__") "__get__" = some (some (.builtin "getset_descriptor.__get__"))
  htNoStretch : PySem.W.takesIn K (.builtin "object.__class__") = some true
  hmNoStretch : PySem.W.mroIn K CNoStretch (.type "object") = some true
  nNoStretch_first : PySem.W.findIn K (.ref CNoStretch) "first" = some none
  nNoStretch_behind : PySem.W.findIn K (.ref CNoStretch) "behind" = some none
  aNoStretch___init__ : PySem.W.findIn K (.ref CNoStretch) "__init__" = some (some (.ref fNoStretch___init__))
  iNoStretch___init__ : PySem.W.isFn K (.ref fNoStretch___init__) = true
  kNoStretch___init__ : PySem.W.keepIn K (.ref fNoStretch___init__) = true
  gCRule : mg "Rule" = some (.ref CRule)
  pgRule : PySem.W.plainGet K CRule Str.empty = true
  hdRule : PySem.W.hasDictIn K CRule = true
  poRule : PySem.W.plainOver K CRule = true
  saRule : PySem.W.findIn K (.ref CRule) "__setattr__" = some (some (.builtin "object.__setattr__"))
  mkRule : PySem.W.makesIn K CRule = true
  kcRule : PySem.W.keepIn K (.ref CRule) = true
  haRule : PySem.W.findIn K (.ref CRule) "__class__" = some (some (.builtin "object.__class__"))
  hnRule : PySem.W.specialIn K (.builtin "object.__class__") "__get__" = some (some (.builtin "getset_descriptor.__get__"))
  htRule : PySem.W.takesIn K (.builtin "object.__class__") = some true
  hmRule : PySem.W.mroIn K CRule (.type "object") = some true
  nfRule : PySem.W.notFirst K CRule (.ref CRule) = true
  aRule_allows : PySem.W.findIn K (.ref CRule) "allows" = some (some (.ref fRule_allows))
  iRule_allows : PySem.W.isFn K (.ref fRule_allows) = true
  kRule_allows : PySem.W.keepIn K (.ref fRule_allows) = true
  gCHours : mg "Hours" = some (.ref CHours)
  pgHours : PySem.W.plainGet K CHours Str.empty = true
  hdHours : PySem.W.hasDictIn K CHours = true
  poHours : PySem.W.plainOver K CHours = true
  saHours : PySem.W.findIn K (.ref CHours) "__setattr__" = some (some (.builtin "object.__setattr__"))
  mkHours : PySem.W.makesIn K CHours = true
  kcHours : PySem.W.keepIn K (.ref CHours) = true
  haHours : PySem.W.findIn K (.ref CHours) "__class__" = some (some (.builtin "object.__class__"))
  hnHours : PySem.W.specialIn K (.builtin "object.__class__") "__get__" = some (some (.builtin "getset_descriptor.__get__"))
  htHours : PySem.W.takesIn K (.builtin "object.__class__") = some true
  hmHours : PySem.W.mroIn K CHours (.type "object") = some true
  nfHours : PySem.W.notFirst K CHours (.ref CHours) = true
  nHours_first : PySem.W.findIn K (.ref CHours) "first" = some none
  nHours_behind : PySem.W.findIn K (.ref CHours) "behind" = some none
  aHours___init__ : PySem.W.findIn K (.ref CHours) "__init__" = some (some (.ref fHours___init__))
  iHours___init__ : PySem.W.isFn K (.ref fHours___init__) = true
  kHours___init__ : PySem.W.keepIn K (.ref fHours___init__) = true
  aHours___eq__ : PySem.W.findIn K (.ref CHours) "__eq__" = some (some (.ref fHours___eq__))
  iHours___eq__ : PySem.W.isFn K (.ref fHours___eq__) = true
  kHours___eq__ : PySem.W.keepIn K (.ref fHours___eq__) = true
  aHours___str__ : PySem.W.findIn K (.ref CHours) "__str__" = some (some (.ref fHours___str__))
  iHours___str__ : PySem.W.isFn K (.ref fHours___str__) = true
  kHours___str__ : PySem.W.keepIn K (.ref fHours___str__) = true
  aHours_allows : PySem.W.findIn K (.ref CHours) "allows" = some (some (.ref fHours_allows))
  iHours_allows : PySem.W.isFn K (.ref fHours_allows) = true
  kHours_allows : PySem.W.keepIn K (.ref fHours_allows) = true
  gCDays : mg "Days" = some (.ref CDays)
  pgDays : PySem.W.plainGet K CDays Str.empty = true
  hdDays : PySem.W.hasDictIn K CDays = true
  poDays : PySem.W.plainOver K CDays = true
  saDays : PySem.W.findIn K (.ref CDays) "__setattr__" = some (some (.builtin "object.__setattr__"))
  mkDays : PySem.W.makesIn K CDays = true
  kcDays : PySem.W.keepIn K (.ref CDays) = true
  haDays : PySem.W.findIn K (.ref CDays) "__class__" = some (some (.builtin "object.__class__"))
  hnDays : PySem.W.specialIn K (.builtin "object.__class__") "__get__" = some (some (.builtin "getset_descriptor.__get__"))
  htDays : PySem.W.takesIn K (.builtin "object.__class__") = some true
  hmDays : PySem.W.mroIn K CDays (.type "object") = some true
  nfDays : PySem.W.notFirst K CDays (.ref CDays) = true
  nDays_days : PySem.W.findIn K (.ref CDays) "days" = some none
  aDays___init__ : PySem.W.findIn K (.ref CDays) "__init__" = some (some (.ref fDays___init__))
  iDays___init__ : PySem.W.isFn K (.ref fDays___init__) = true
  kDays___init__ : PySem.W.keepIn K (.ref fDays___init__) = true
  aDays___eq__ : PySem.W.findIn K (.ref CDays) "__eq__" = some (some (.ref fDays___eq__))
  iDays___eq__ : PySem.W.isFn K (.ref fDays___eq__) = true
  kDays___eq__ : PySem.W.keepIn K (.ref fDays___eq__) = true
  aDays___str__ : PySem.W.findIn K (.ref CDays) "__str__" = some (some (.ref fDays___str__))
  iDays___str__ : PySem.W.isFn K (.ref fDays___str__) = true
  kDays___str__ : PySem.W.keepIn K (.ref fDays___str__) = true
  aDays_allows : PySem.W.findIn K (.ref CDays) "allows" = some (some (.ref fDays_allows))
  iDays_allows : PySem.W.isFn K (.ref fDays_allows) = true
  kDays_allows : PySem.W.keepIn K (.ref fDays_allows) = true
  gCUnless : mg "Unless" = some (.ref CUnless)
  pgUnless : PySem.W.plainGet K CUnless Str.empty = true
  hdUnless : PySem.W.hasDictIn K CUnless = true
  poUnless : PySem.W.plainOver K CUnless = true
  saUnless : PySem.W.findIn K (.ref CUnless) "__setattr__" = some (some (.builtin "object.__setattr__"))
  mkUnless : PySem.W.makesIn K CUnless = true
  kcUnless : PySem.W.keepIn K (.ref CUnless) = true
  haUnless : PySem.W.findIn K (.ref CUnless) "__class__" = some (some (.builtin "object.__class__"))
  hnUnless : PySem.W.specialIn K (.builtin "object.__class__") "__get__" = some (some (.builtin "getset_descriptor.__get__"))
  htUnless : PySem.W.takesIn K (.builtin "object.__class__") = some true
  hmUnless : PySem.W.mroIn K CUnless (.type "object") = some true
  nfUnless : PySem.W.notFirst K CUnless (.ref CUnless) = true
  nUnless_rule : PySem.W.findIn K (.ref CUnless) "rule" = some none
  aUnless___init__ : PySem.W.findIn K (.ref CUnless) "__init__" = some (some (.ref fUnless___init__))
  iUnless___init__ : PySem.W.isFn K (.ref fUnless___init__) = true
  kUnless___init__ : PySem.W.keepIn K (.ref fUnless___init__) = true
  aUnless___eq__ : PySem.W.findIn K (.ref CUnless) "__eq__" = some (some (.ref fUnless___eq__))
  iUnless___eq__ : PySem.W.isFn K (.ref fUnless___eq__) = true
  kUnless___eq__ : PySem.W.keepIn K (.ref fUnless___eq__) = true
  aUnless___str__ : PySem.W.findIn K (.ref CUnless) "__str__" = some (some (.ref fUnless___str__))
  iUnless___str__ : PySem.W.isFn K (.ref fUnless___str__) = true
  kUnless___str__ : PySem.W.keepIn K (.ref fUnless___str__) = true
  aUnless_allows : PySem.W.findIn K (.ref CUnless) "allows" = some (some (.ref fUnless_allows))
  iUnless_allows : PySem.W.isFn K (.ref fUnless_allows) = true
  kUnless_allows : PySem.W.keepIn K (.ref fUnless_allows) = true
  gCBoth : mg "Both" = some (.ref CBoth)
  pgBoth : PySem.W.plainGet K CBoth Str.empty = true
  hdBoth : PySem.W.hasDictIn K CBoth = true
  poBoth : PySem.W.plainOver K CBoth = true
  saBoth : PySem.W.findIn K (.ref CBoth) "__setattr__" = some (some (.builtin "object.__setattr__"))
  mkBoth : PySem.W.makesIn K CBoth = true
  kcBoth : PySem.W.keepIn K (.ref CBoth) = true
  haBoth : PySem.W.findIn K (.ref CBoth) "__class__" = some (some (.builtin "object.__class__"))
  hnBoth : PySem.W.specialIn K (.builtin "object.__class__") "__get__" = some (some (.builtin "getset_descriptor.__get__"))
  htBoth : PySem.W.takesIn K (.builtin "object.__class__") = some true
  hmBoth : PySem.W.mroIn K CBoth (.type "object") = some true
  nfBoth : PySem.W.notFirst K CBoth (.ref CBoth) = true
  nBoth_rules : PySem.W.findIn K (.ref CBoth) "rules" = some none
  aBoth___init__ : PySem.W.findIn K (.ref CBoth) "__init__" = some (some (.ref fBoth___init__))
  iBoth___init__ : PySem.W.isFn K (.ref fBoth___init__) = true
  kBoth___init__ : PySem.W.keepIn K (.ref fBoth___init__) = true
  aBoth___eq__ : PySem.W.findIn K (.ref CBoth) "__eq__" = some (some (.ref fBoth___eq__))
  iBoth___eq__ : PySem.W.isFn K (.ref fBoth___eq__) = true
  kBoth___eq__ : PySem.W.keepIn K (.ref fBoth___eq__) = true
  aBoth___str__ : PySem.W.findIn K (.ref CBoth) "__str__" = some (some (.ref fBoth___str__))
  iBoth___str__ : PySem.W.isFn K (.ref fBoth___str__) = true
  kBoth___str__ : PySem.W.keepIn K (.ref fBoth___str__) = true
  aBoth_allows : PySem.W.findIn K (.ref CBoth) "allows" = some (some (.ref fBoth_allows))
  iBoth_allows : PySem.W.isFn K (.ref fBoth_allows) = true
  kBoth_allows : PySem.W.keepIn K (.ref fBoth_allows) = true
  gCEither : mg "Either" = some (.ref CEither)
  pgEither : PySem.W.plainGet K CEither Str.empty = true
  hdEither : PySem.W.hasDictIn K CEither = true
  poEither : PySem.W.plainOver K CEither = true
  saEither : PySem.W.findIn K (.ref CEither) "__setattr__" = some (some (.builtin "object.__setattr__"))
  mkEither : PySem.W.makesIn K CEither = true
  kcEither : PySem.W.keepIn K (.ref CEither) = true
  haEither : PySem.W.findIn K (.ref CEither) "__class__" = some (some (.builtin "object.__class__"))
  hnEither : PySem.W.specialIn K (.builtin "object.__class__") "__get__" = some (some (.builtin "getset_descriptor.__get__"))
  htEither : PySem.W.takesIn K (.builtin "object.__class__") = some true
  hmEither : PySem.W.mroIn K CEither (.type "object") = some true
  nfEither : PySem.W.notFirst K CEither (.ref CEither) = true
  nEither_rules : PySem.W.findIn K (.ref CEither) "rules" = some none
  aEither___init__ : PySem.W.findIn K (.ref CEither) "__init__" = some (some (.ref fEither___init__))
  iEither___init__ : PySem.W.isFn K (.ref fEither___init__) = true
  kEither___init__ : PySem.W.keepIn K (.ref fEither___init__) = true
  aEither___eq__ : PySem.W.findIn K (.ref CEither) "__eq__" = some (some (.ref fEither___eq__))
  iEither___eq__ : PySem.W.isFn K (.ref fEither___eq__) = true
  kEither___eq__ : PySem.W.keepIn K (.ref fEither___eq__) = true
  aEither___str__ : PySem.W.findIn K (.ref CEither) "__str__" = some (some (.ref fEither___str__))
  iEither___str__ : PySem.W.isFn K (.ref fEither___str__) = true
  kEither___str__ : PySem.W.keepIn K (.ref fEither___str__) = true
  aEither_allows : PySem.W.findIn K (.ref CEither) "allows" = some (some (.ref fEither_allows))
  iEither_allows : PySem.W.isFn K (.ref fEither_allows) = true
  kEither_allows : PySem.W.keepIn K (.ref fEither_allows) = true
  gCStretch : mg "Stretch" = some (.ref CStretch)
  pgStretch : PySem.W.plainGet K CStretch Str.empty = true
  hdStretch : PySem.W.hasDictIn K CStretch = true
  poStretch : PySem.W.plainOver K CStretch = true
  saStretch : PySem.W.findIn K (.ref CStretch) "__setattr__" = some (some (.builtin "object.__setattr__"))
  mkStretch : PySem.W.makesIn K CStretch = true
  kcStretch : PySem.W.keepIn K (.ref CStretch) = true
  haStretch : PySem.W.findIn K (.ref CStretch) "__class__" = some (some (.builtin "object.__class__"))
  hnStretch : PySem.W.specialIn K (.builtin "object.__class__") "__get__" = some (some (.builtin "getset_descriptor.__get__"))
  htStretch : PySem.W.takesIn K (.builtin "object.__class__") = some true
  hmStretch : PySem.W.mroIn K CStretch (.type "object") = some true
  nfStretch : PySem.W.notFirst K CStretch (.ref CStretch) = true
  nStretch_first : PySem.W.findIn K (.ref CStretch) "first" = some none
  nStretch_behind : PySem.W.findIn K (.ref CStretch) "behind" = some none
  neStretch : PySem.W.findIn K (.ref CStretch) "__ne__" = some (some (.builtin "object.__ne__"))
  icStretch : PySem.W.isClsIn K CStretch = true
  tyStretch : PySem.W.typeIn K (.ref CStretch) = some (.type "type")
  subStretch_NoneType : PySem.W.subIn K (.ref CStretch) (.type "NoneType") = some false
  kitStretch_NoneType : PySem.W.subIn K (.type "NoneType") (.ref CStretch) = some false
  ntStretch_NoneType : PySem.W.notFirst K CStretch (.type "NoneType") = true
  subStretch_int : PySem.W.subIn K (.ref CStretch) (.type "int") = some false
  kitStretch_int : PySem.W.subIn K (.type "int") (.ref CStretch) = some false
  ntStretch_int : PySem.W.notFirst K CStretch (.type "int") = true
  subStretch_str : PySem.W.subIn K (.ref CStretch) (.type "str") = some false
  kitStretch_str : PySem.W.subIn K (.type "str") (.ref CStretch) = some false
  ntStretch_str : PySem.W.notFirst K CStretch (.type "str") = true
  subStretch_list : PySem.W.subIn K (.ref CStretch) (.type "list") = some false
  kitStretch_list : PySem.W.subIn K (.type "list") (.ref CStretch) = some false
  ntStretch_list : PySem.W.notFirst K CStretch (.type "list") = true
  subStretch_tuple : PySem.W.subIn K (.ref CStretch) (.type "tuple") = some false
  kitStretch_tuple : PySem.W.subIn K (.type "tuple") (.ref CStretch) = some false
  ntStretch_tuple : PySem.W.notFirst K CStretch (.type "tuple") = true
  subStretch_dict : PySem.W.subIn K (.ref CStretch) (.type "dict") = some false
  kitStretch_dict : PySem.W.subIn K (.type "dict") (.ref CStretch) = some false
  ntStretch_dict : PySem.W.notFirst K CStretch (.type "dict") = true
  aStretch___init__ : PySem.W.findIn K (.ref CStretch) "__init__" = some (some (.ref fStretch___init__))
  iStretch___init__ : PySem.W.isFn K (.ref fStretch___init__) = true
  kStretch___init__ : PySem.W.keepIn K (.ref fStretch___init__) = true
  aStretch___eq__ : PySem.W.findIn K (.ref CStretch) "__eq__" = some (some (.ref fStretch___eq__))
  iStretch___eq__ : PySem.W.isFn K (.ref fStretch___eq__) = true
  kStretch___eq__ : PySem.W.keepIn K (.ref fStretch___eq__) = true
  aStretch___len__ : PySem.W.findIn K (.ref CStretch) "__len__" = some (some (.ref fStretch___len__))
  iStretch___len__ : PySem.W.isFn K (.ref fStretch___len__) = true
  kStretch___len__ : PySem.W.keepIn K (.ref fStretch___len__) = true
  aStretch___str__ : PySem.W.findIn K (.ref CStretch) "__str__" = some (some (.ref fStretch___str__))
  iStretch___str__ : PySem.W.isFn K (.ref fStretch___str__) = true
  kStretch___str__ : PySem.W.keepIn K (.ref fStretch___str__) = true
  aStretch___repr__ : PySem.W.findIn K (.ref CStretch) "__repr__" = some (some (.ref fStretch___repr__))
  iStretch___repr__ : PySem.W.isFn K (.ref fStretch___repr__) = true
  kStretch___repr__ : PySem.W.keepIn K (.ref fStretch___repr__) = true
  gCWeek : mg "Week" = some (.ref CWeek)
  pgWeek : PySem.W.plainGet K CWeek Str.empty = true
  hdWeek : PySem.W.hasDictIn K CWeek = true
  poWeek : PySem.W.plainOver K CWeek = true
  saWeek : PySem.W.findIn K (.ref CWeek) "__setattr__" = some (some (.builtin "object.__setattr__"))
  mkWeek : PySem.W.makesIn K CWeek = true
  kcWeek : PySem.W.keepIn K (.ref CWeek) = true
  haWeek : PySem.W.findIn K (.ref CWeek) "__class__" = some (some (.builtin "object.__class__"))
  hnWeek : PySem.W.specialIn K (.builtin "object.__class__") "__get__" = some (some (.builtin "getset_descriptor.__get__"))
  htWeek : PySem.W.takesIn K (.builtin "object.__class__") = some true
  hmWeek : PySem.W.mroIn K CWeek (.type "object") = some true
  nfWeek : PySem.W.notFirst K CWeek (.ref CWeek) = true
  nWeek__allowed : PySem.W.findIn K (.ref CWeek) "_allowed" = some none
  nWeek__runs : PySem.W.findIn K (.ref CWeek) "_runs" = some none
  aWeek___init__ : PySem.W.findIn K (.ref CWeek) "__init__" = some (some (.ref fWeek___init__))
  iWeek___init__ : PySem.W.isFn K (.ref fWeek___init__) = true
  kWeek___init__ : PySem.W.keepIn K (.ref fWeek___init__) = true
  aWeek_soonest : PySem.W.findIn K (.ref CWeek) "soonest" = some (some (.ref fWeek_soonest))
  iWeek_soonest : PySem.W.isFn K (.ref fWeek_soonest) = true
  kWeek_soonest : PySem.W.keepIn K (.ref fWeek_soonest) = true
  aWeek_allowed_within : PySem.W.findIn K (.ref CWeek) "allowed_within" = some (some (.ref fWeek_allowed_within))
  iWeek_allowed_within : PySem.W.isFn K (.ref fWeek_allowed_within) = true
  kWeek_allowed_within : PySem.W.keepIn K (.ref fWeek_allowed_within) = true
  icBoth : PySem.W.isClsIn K CBoth = true
  tyBoth : PySem.W.typeIn K (.ref CBoth) = some (.type "type")
  icDays : PySem.W.isClsIn K CDays = true
  tyDays : PySem.W.typeIn K (.ref CDays) = some (.type "type")
  icEither : PySem.W.isClsIn K CEither = true
  tyEither : PySem.W.typeIn K (.ref CEither) = some (.type "type")
  icHours : PySem.W.isClsIn K CHours = true
  tyHours : PySem.W.typeIn K (.ref CHours) = some (.type "type")
  icUnless : PySem.W.isClsIn K CUnless = true
  tyUnless : PySem.W.typeIn K (.ref CUnless) = some (.type "type")
  seBoth : PySem.W.subIn K (.ref CBoth) (.ref CBoth) = some true
  seDays : PySem.W.subIn K (.ref CDays) (.ref CDays) = some true
  seEither : PySem.W.subIn K (.ref CEither) (.ref CEither) = some true
  seHours : PySem.W.subIn K (.ref CHours) (.ref CHours) = some true
  noHours_Unless : PySem.W.subIn K (.ref CHours) (.ref CUnless) = some false
  noHours_Both : PySem.W.subIn K (.ref CHours) (.ref CBoth) = some false
  noHours_Either : PySem.W.subIn K (.ref CHours) (.ref CEither) = some false
  noHours_Days : PySem.W.subIn K (.ref CHours) (.ref CDays) = some false
  noDays_Unless : PySem.W.subIn K (.ref CDays) (.ref CUnless) = some false
  noDays_Both : PySem.W.subIn K (.ref CDays) (.ref CBoth) = some false
  noDays_Either : PySem.W.subIn K (.ref CDays) (.ref CEither) = some false
  noBoth_Unless : PySem.W.subIn K (.ref CBoth) (.ref CUnless) = some false
  noEither_Unless : PySem.W.subIn K (.ref CEither) (.ref CUnless) = some false
  noEither_Both : PySem.W.subIn K (.ref CEither) (.ref CBoth) = some false
theorem kb_joined_1 {K : PySem.W.Frag} {mg : Str → Option Value} {base : Heap} (T : Ev K mg base) : ∃ its : List Value, KBn K T.fdjoined ["some", "apart"] 1 [] (fun us ws => pickL (us ++ its ++ ws) [0, 1]) (fun vs zs => pickL (vs ++ [.int 0] ++ zs) [0, 1]) :=
  kbD T.Fjoined 1 [] [0, 1] (by intro z; cases z) fun _ _ _ _ _ _ _ us its ws h1 h2 h3 => match us, its, ws, h1, h2, h3 with | [_], [_], [], _, _, _ => ⟨_, rfl, rfl⟩
theorem kb_Stretch___init___3 {K : PySem.W.Frag} {mg : Str → Option Value} {base : Heap} (T : Ev K mg base) : ∃ its : List Value, KBn K T.fdStretch___init__ ["self", "first", "behind"] 3 [] (fun us ws => pickL (us ++ its ++ ws) [0, 1, 2]) (fun vs zs => pickL (vs ++ [.non] ++ zs) [0, 1, 2]) :=
  kbD T.FStretch___init__ 3 [] [0, 1, 2] (by intro z; cases z) fun _ _ _ _ _ _ _ us its ws h1 h2 h3 => match us, its, ws, h1, h2, h3 with | [_, _, _], [_], [], _, _, _ => ⟨_, rfl, rfl⟩
theorem kb_allowed_in_0_within_rule {K : PySem.W.Frag} {mg : Str → Option Value} {base : Heap} (T : Ev K mg base) : KBn K T.fdallowed_in ["rule", "within"] 0 ["within", "rule"] (fun us ws => pickL (us ++ ws) [1, 0]) (fun vs zs => pickL (vs ++ zs) [1, 0]) :=
  kbF T.Fallowed_in 0 ["within", "rule"] [1, 0] fun _ _ _ _ _ _ us ws h1 h2 => match us, ws, h1, h2 with | [], [_, _], _, _ => rfl
theorem cl_Rule {K : PySem.W.Frag} {mg : Str → Option Value} {base : Heap} (T : Ev K mg base) : Cls K T.CRule := ⟨T.pgRule, T.hdRule, T.poRule, T.saRule⟩
theorem mt_Rule_allows {K : PySem.W.Frag} {mg : Str → Option Value} {base : Heap} (T : Ev K mg base) : Meth K T.CRule "allows" T.fRule_allows := ⟨T.aRule_allows, T.iRule_allows, T.kRule_allows⟩
theorem cl_Hours {K : PySem.W.Frag} {mg : Str → Option Value} {base : Heap} (T : Ev K mg base) : Cls K T.CHours := ⟨T.pgHours, T.hdHours, T.poHours, T.saHours⟩
theorem mt_Hours___init__ {K : PySem.W.Frag} {mg : Str → Option Value} {base : Heap} (T : Ev K mg base) : Meth K T.CHours "__init__" T.fHours___init__ := ⟨T.aHours___init__, T.iHours___init__, T.kHours___init__⟩
theorem mk_Hours {K : PySem.W.Frag} {mg : Str → Option Value} {base : Heap} (T : Ev K mg base) : Mk K T.CHours T.fHours___init__ := ⟨T.mkHours, T.aHours___init__, T.iHours___init__, T.kcHours⟩
theorem mt_Hours___eq__ {K : PySem.W.Frag} {mg : Str → Option Value} {base : Heap} (T : Ev K mg base) : Meth K T.CHours "__eq__" T.fHours___eq__ := ⟨T.aHours___eq__, T.iHours___eq__, T.kHours___eq__⟩
theorem mt_Hours___str__ {K : PySem.W.Frag} {mg : Str → Option Value} {base : Heap} (T : Ev K mg base) : Meth K T.CHours "__str__" T.fHours___str__ := ⟨T.aHours___str__, T.iHours___str__, T.kHours___str__⟩
theorem mt_Hours_allows {K : PySem.W.Frag} {mg : Str → Option Value} {base : Heap} (T : Ev K mg base) : Meth K T.CHours "allows" T.fHours_allows := ⟨T.aHours_allows, T.iHours_allows, T.kHours_allows⟩
theorem cl_Days {K : PySem.W.Frag} {mg : Str → Option Value} {base : Heap} (T : Ev K mg base) : Cls K T.CDays := ⟨T.pgDays, T.hdDays, T.poDays, T.saDays⟩
theorem mt_Days___init__ {K : PySem.W.Frag} {mg : Str → Option Value} {base : Heap} (T : Ev K mg base) : Meth K T.CDays "__init__" T.fDays___init__ := ⟨T.aDays___init__, T.iDays___init__, T.kDays___init__⟩
theorem mk_Days {K : PySem.W.Frag} {mg : Str → Option Value} {base : Heap} (T : Ev K mg base) : Mk K T.CDays T.fDays___init__ := ⟨T.mkDays, T.aDays___init__, T.iDays___init__, T.kcDays⟩
theorem mt_Days___eq__ {K : PySem.W.Frag} {mg : Str → Option Value} {base : Heap} (T : Ev K mg base) : Meth K T.CDays "__eq__" T.fDays___eq__ := ⟨T.aDays___eq__, T.iDays___eq__, T.kDays___eq__⟩
theorem mt_Days___str__ {K : PySem.W.Frag} {mg : Str → Option Value} {base : Heap} (T : Ev K mg base) : Meth K T.CDays "__str__" T.fDays___str__ := ⟨T.aDays___str__, T.iDays___str__, T.kDays___str__⟩
theorem mt_Days_allows {K : PySem.W.Frag} {mg : Str → Option Value} {base : Heap} (T : Ev K mg base) : Meth K T.CDays "allows" T.fDays_allows := ⟨T.aDays_allows, T.iDays_allows, T.kDays_allows⟩
theorem cl_Unless {K : PySem.W.Frag} {mg : Str → Option Value} {base : Heap} (T : Ev K mg base) : Cls K T.CUnless := ⟨T.pgUnless, T.hdUnless, T.poUnless, T.saUnless⟩
theorem mt_Unless___init__ {K : PySem.W.Frag} {mg : Str → Option Value} {base : Heap} (T : Ev K mg base) : Meth K T.CUnless "__init__" T.fUnless___init__ := ⟨T.aUnless___init__, T.iUnless___init__, T.kUnless___init__⟩
theorem mk_Unless {K : PySem.W.Frag} {mg : Str → Option Value} {base : Heap} (T : Ev K mg base) : Mk K T.CUnless T.fUnless___init__ := ⟨T.mkUnless, T.aUnless___init__, T.iUnless___init__, T.kcUnless⟩
theorem mt_Unless___eq__ {K : PySem.W.Frag} {mg : Str → Option Value} {base : Heap} (T : Ev K mg base) : Meth K T.CUnless "__eq__" T.fUnless___eq__ := ⟨T.aUnless___eq__, T.iUnless___eq__, T.kUnless___eq__⟩
theorem mt_Unless___str__ {K : PySem.W.Frag} {mg : Str → Option Value} {base : Heap} (T : Ev K mg base) : Meth K T.CUnless "__str__" T.fUnless___str__ := ⟨T.aUnless___str__, T.iUnless___str__, T.kUnless___str__⟩
theorem mt_Unless_allows {K : PySem.W.Frag} {mg : Str → Option Value} {base : Heap} (T : Ev K mg base) : Meth K T.CUnless "allows" T.fUnless_allows := ⟨T.aUnless_allows, T.iUnless_allows, T.kUnless_allows⟩
theorem cl_Both {K : PySem.W.Frag} {mg : Str → Option Value} {base : Heap} (T : Ev K mg base) : Cls K T.CBoth := ⟨T.pgBoth, T.hdBoth, T.poBoth, T.saBoth⟩
theorem mt_Both___init__ {K : PySem.W.Frag} {mg : Str → Option Value} {base : Heap} (T : Ev K mg base) : Meth K T.CBoth "__init__" T.fBoth___init__ := ⟨T.aBoth___init__, T.iBoth___init__, T.kBoth___init__⟩
theorem mk_Both {K : PySem.W.Frag} {mg : Str → Option Value} {base : Heap} (T : Ev K mg base) : Mk K T.CBoth T.fBoth___init__ := ⟨T.mkBoth, T.aBoth___init__, T.iBoth___init__, T.kcBoth⟩
theorem mt_Both___eq__ {K : PySem.W.Frag} {mg : Str → Option Value} {base : Heap} (T : Ev K mg base) : Meth K T.CBoth "__eq__" T.fBoth___eq__ := ⟨T.aBoth___eq__, T.iBoth___eq__, T.kBoth___eq__⟩
theorem mt_Both___str__ {K : PySem.W.Frag} {mg : Str → Option Value} {base : Heap} (T : Ev K mg base) : Meth K T.CBoth "__str__" T.fBoth___str__ := ⟨T.aBoth___str__, T.iBoth___str__, T.kBoth___str__⟩
theorem mt_Both_allows {K : PySem.W.Frag} {mg : Str → Option Value} {base : Heap} (T : Ev K mg base) : Meth K T.CBoth "allows" T.fBoth_allows := ⟨T.aBoth_allows, T.iBoth_allows, T.kBoth_allows⟩
theorem cl_Either {K : PySem.W.Frag} {mg : Str → Option Value} {base : Heap} (T : Ev K mg base) : Cls K T.CEither := ⟨T.pgEither, T.hdEither, T.poEither, T.saEither⟩
theorem mt_Either___init__ {K : PySem.W.Frag} {mg : Str → Option Value} {base : Heap} (T : Ev K mg base) : Meth K T.CEither "__init__" T.fEither___init__ := ⟨T.aEither___init__, T.iEither___init__, T.kEither___init__⟩
theorem mk_Either {K : PySem.W.Frag} {mg : Str → Option Value} {base : Heap} (T : Ev K mg base) : Mk K T.CEither T.fEither___init__ := ⟨T.mkEither, T.aEither___init__, T.iEither___init__, T.kcEither⟩
theorem mt_Either___eq__ {K : PySem.W.Frag} {mg : Str → Option Value} {base : Heap} (T : Ev K mg base) : Meth K T.CEither "__eq__" T.fEither___eq__ := ⟨T.aEither___eq__, T.iEither___eq__, T.kEither___eq__⟩
theorem mt_Either___str__ {K : PySem.W.Frag} {mg : Str → Option Value} {base : Heap} (T : Ev K mg base) : Meth K T.CEither "__str__" T.fEither___str__ := ⟨T.aEither___str__, T.iEither___str__, T.kEither___str__⟩
theorem mt_Either_allows {K : PySem.W.Frag} {mg : Str → Option Value} {base : Heap} (T : Ev K mg base) : Meth K T.CEither "allows" T.fEither_allows := ⟨T.aEither_allows, T.iEither_allows, T.kEither_allows⟩
theorem cl_Stretch {K : PySem.W.Frag} {mg : Str → Option Value} {base : Heap} (T : Ev K mg base) : Cls K T.CStretch := ⟨T.pgStretch, T.hdStretch, T.poStretch, T.saStretch⟩
theorem mt_Stretch___init__ {K : PySem.W.Frag} {mg : Str → Option Value} {base : Heap} (T : Ev K mg base) : Meth K T.CStretch "__init__" T.fStretch___init__ := ⟨T.aStretch___init__, T.iStretch___init__, T.kStretch___init__⟩
theorem mk_Stretch {K : PySem.W.Frag} {mg : Str → Option Value} {base : Heap} (T : Ev K mg base) : Mk K T.CStretch T.fStretch___init__ := ⟨T.mkStretch, T.aStretch___init__, T.iStretch___init__, T.kcStretch⟩
theorem mt_Stretch___eq__ {K : PySem.W.Frag} {mg : Str → Option Value} {base : Heap} (T : Ev K mg base) : Meth K T.CStretch "__eq__" T.fStretch___eq__ := ⟨T.aStretch___eq__, T.iStretch___eq__, T.kStretch___eq__⟩
theorem mt_Stretch___len__ {K : PySem.W.Frag} {mg : Str → Option Value} {base : Heap} (T : Ev K mg base) : Meth K T.CStretch "__len__" T.fStretch___len__ := ⟨T.aStretch___len__, T.iStretch___len__, T.kStretch___len__⟩
theorem mt_Stretch___str__ {K : PySem.W.Frag} {mg : Str → Option Value} {base : Heap} (T : Ev K mg base) : Meth K T.CStretch "__str__" T.fStretch___str__ := ⟨T.aStretch___str__, T.iStretch___str__, T.kStretch___str__⟩
theorem mt_Stretch___repr__ {K : PySem.W.Frag} {mg : Str → Option Value} {base : Heap} (T : Ev K mg base) : Meth K T.CStretch "__repr__" T.fStretch___repr__ := ⟨T.aStretch___repr__, T.iStretch___repr__, T.kStretch___repr__⟩
theorem cl_Week {K : PySem.W.Frag} {mg : Str → Option Value} {base : Heap} (T : Ev K mg base) : Cls K T.CWeek := ⟨T.pgWeek, T.hdWeek, T.poWeek, T.saWeek⟩
theorem mt_Week___init__ {K : PySem.W.Frag} {mg : Str → Option Value} {base : Heap} (T : Ev K mg base) : Meth K T.CWeek "__init__" T.fWeek___init__ := ⟨T.aWeek___init__, T.iWeek___init__, T.kWeek___init__⟩
theorem mk_Week {K : PySem.W.Frag} {mg : Str → Option Value} {base : Heap} (T : Ev K mg base) : Mk K T.CWeek T.fWeek___init__ := ⟨T.mkWeek, T.aWeek___init__, T.iWeek___init__, T.kcWeek⟩
theorem mt_Week_soonest {K : PySem.W.Frag} {mg : Str → Option Value} {base : Heap} (T : Ev K mg base) : Meth K T.CWeek "soonest" T.fWeek_soonest := ⟨T.aWeek_soonest, T.iWeek_soonest, T.kWeek_soonest⟩
theorem mt_Week_allowed_within {K : PySem.W.Frag} {mg : Str → Option Value} {base : Heap} (T : Ev K mg base) : Meth K T.CWeek "allowed_within" T.fWeek_allowed_within := ⟨T.aWeek_allowed_within, T.iWeek_allowed_within, T.kWeek_allowed_within⟩
def TT {K : PySem.W.Frag} {mg : Str → Option Value} {base : Heap} (T : Ev K mg base) : List (Addr × Str) := [(T.cpjoined, ("joined" ++ ".<locals>." ++ "<lambda>"))]
theorem tt_in_joined {K : PySem.W.Frag} {mg : Str → Option Value} {base : Heap} (T : Ev K mg base) : (T.cpjoined, (("joined" ++ ".<locals>." ++ "<lambda>") : Str)) ∈ TT T := by simp [TT]
theorem tt_one_joined {K : PySem.W.Frag} {mg : Str → Option Value} {base : Heap} (T : Ev K mg base) : ∀ p ∈ TT T, p.1 = T.cpjoined → p.2 = (("joined" ++ ".<locals>." ++ "<lambda>") : Str) := by
  intro p hp e
  unfold TT at hp
  simp only [List.mem_cons, List.not_mem_nil, or_false] at hp
  rcases hp with rfl
  · rfl
/-! ### the tape, by what is known of the names -/
section
variable {P : Program} {w : World} {K : PySem.W.Frag} {mg : Str → Option Value} {base : Heap} (T : Ev K mg base)
theorem ok_law_draw : FnOk P w K mg base CX0 1 T.f_law_draw T.fd_law_draw ["_law_tape_here", "_law_many"] spDraw := ok_draw T.F_law_draw ⟨T.mlen⟩
theorem ok_law_pick : FnOk P w K mg base CX0 2 T.f_law_pick T.fd_law_pick ["_law_tape_here", "_law_some"] spPick := ok_pick T.F_law_pick ⟨T.mlen⟩ T.F_law_draw T.g_law_draw T.b_law_draw
theorem ok_law_tape : FnOk P w K mg base CX0 1 T.f_law_tape T.fd_law_tape ["_law_script"] (spTape K) := ok_tape T.F_law_tape ⟨T.mlen⟩
end
theorem dr {H : Hp} {F c : Addr} (b : Int) {n : Nat} {Q : VK} {E : XK} (hT : Tape H F c n) (b0 : 0 < b) (b1 : b < 1073741824) (hn : n < 1000000)
    (q : ∀ d H', 0 ≤ d → d < b → Tape H' F c (n + 1) → Keep F H H' → Q (.int d) H') : spDraw [.ref F, .int b] H Q E := ⟨F, c, b, n, rfl, b0, b1, hn, hT, q⟩
theorem pk {H : Hp} {F c p : Addr} {xs : List V} {n : Nat} {Q : VK} {E : XK} (hT : Tape H F c n) (hp : H p = some (.lst xs)) (ne : p ≠ F) (l0 : 0 < xs.length) (l1 : xs.length < 1000000) (hn : n < 1000000)
    (q : ∀ x H', x ∈ xs → Tape H' F c (n + 1) → Keep F H H' → Q x H') : spPick [.ref F, .ref p] H Q E := ⟨F, c, p, xs, n, rfl, hp, ne, l0, l1, hn, hT, fun _ x H' e => q x H' (List.mem_of_getElem? e)⟩
/-- of a list that is written there -/
theorem pkn {H : Hp} {F c : Addr} {xs : List V} {n : Nat} {Q : VK} {E : XK} (hT : Tape H F c n) (l0 : 0 < xs.length) (l1 : xs.length < 1000000) (hn : n < 1000000)
    (q : ∀ x H', x ∈ xs → Tape H' F c (n + 1) → Keep F H H' → Q x H') : ∀ p, H p = none → spPick [.ref F, .ref p] (upd H p (.lst xs)) Q E := fun p hp =>
  pk (hT.new hp) upd_same (hT.ne hp) l0 l1 hn fun x H' m t k => q x H' m t ((Keep.refl.new hp).trans k)
theorem Tape.tape {H : Hp} {F c : Addr} {n : Nat} (h : Tape H F c n) : ∃ ys, H F = some (.lst ys) := by
  obtain ⟨t, r, ns, h1, _⟩ := h.ex
  exact ⟨_, h1⟩
/-- a place that was free ahead of all that is kept -/
theorem Keep.free {F : Addr} {H H' : Hp} {p : Addr} (k : Keep F H H') (hp : H' p = none) (ne : p ≠ F) : H p = none := by
  cases e : H p with
  | none => rfl
  | some o => have := k p o ne e; rw [hp] at this; cases this
theorem emp (x : Str) : Str.empty ++ x = x := ext_tl (by show (Str.empty ++ x).cps.toList = _; rw [Str.cps_append]; simp [Str.empty])
theorem tl_app (x y : Str) : tl (x ++ y) = tl x ++ tl y := by unfold tl; rw [Str.cps_append]; simp
/-- texts of at most m small letters -/
def LowN (m : Nat) (z : Str) : Prop := z.length ≤ m ∧ ∀ c ∈ tl z, 97 ≤ c ∧ c ≤ 122
theorem tl_cut (z : Str) (lo hi : Option Int) : tl (cutS z lo hi) = ((tl z).drop (HT.sIx z.length 0 lo)).take (HT.sIx z.length z.length hi - HT.sIx z.length 0 lo) := by
  unfold tl cutS; simp
theorem cut_low {m : Nat} {z : Str} {lo hi : Option Int} (h : LowN m z) : LowN m (cutS z lo hi) := by
  refine ⟨?_, fun c hc => ?_⟩
  · have := TL.len_tl (cutS z lo hi)
    have h2 := TL.len_tl z
    rw [this, tl_cut, List.length_take, List.length_drop]
    have := h.1
    omega
  · rw [tl_cut] at hc
    exact h.2 c (List.mem_of_mem_drop (List.mem_of_mem_take hc))
theorem app_low {m k : Nat} {y z : Str} (h : LowN m y) (h2 : LowN k z) : LowN (m + k) (y ++ z) := by
  refine ⟨by rw [Str.length_append]; exact Nat.add_le_add h.1 h2.1, fun c hc => ?_⟩
  rw [tl_app] at hc
  rcases List.mem_append.mp hc with hc | hc
  · exact h.2 c hc
  · exact h2.2 c hc
theorem one_low {c : Nat} (h : 97 ≤ c ∧ c ≤ 122) : LowN 1 ⟨#[c]⟩ := ⟨Nat.le_refl _, fun d hd => by
  have : d = c := by simpa [tl] using hd
  rw [this]; exact h⟩
theorem join_low : ∀ ys : List Str, (∀ y ∈ ys, LowN 1 y ∧ y.length = 1) → (TL.joinL [] (ys.map tl)).length = ys.length ∧ ∀ c ∈ TL.joinL [] (ys.map tl), 97 ≤ c ∧ c ≤ 122
  | [], _ => ⟨rfl, fun c hc => by cases hc⟩
  | [y], h => by
    have hy := h y List.mem_cons_self
    exact ⟨by show (tl y).length = 1; rw [← TL.len_tl]; exact hy.2, hy.1.2⟩
  | y :: z :: r, h => by
    have hy := h y List.mem_cons_self
    obtain ⟨i1, i2⟩ := join_low (z :: r) fun w hw => h w (List.mem_cons_of_mem _ hw)
    refine ⟨?_, fun c hc => ?_⟩
    · show (tl y ++ ([] ++ TL.joinL [] ((z :: r).map tl))).length = (z :: r).length + 1
      rw [List.length_append, List.nil_append, i1, ← TL.len_tl, hy.2]
      omega
    · have hc' : c ∈ tl y ++ ([] ++ TL.joinL [] ((z :: r).map tl)) := hc
      rw [List.nil_append] at hc'
      rcases List.mem_append.mp hc' with hc' | hc'
      · exact hy.1.2 c hc'
      · exact i2 c hc'
theorem base_low {ys : List Str} (h : ∀ y ∈ ys, LowN 1 y ∧ y.length = 1) : LowN ys.length (Txt.join Str.empty ys) ∧ (Txt.join Str.empty ys).length = ys.length := by
  obtain ⟨a, b⟩ := join_low ys h
  have e : tl (Txt.join Str.empty ys) = TL.joinL [] (ys.map tl) := by rw [TL.join_eq, TL.tl_join]; rfl
  have l : (Txt.join Str.empty ys).length = ys.length := by rw [TL.len_tl, e, a]
  exact ⟨⟨Nat.le_of_eq l, fun c hc => b c (by rw [← e]; exact hc)⟩, l⟩
theorem letter : ∀ j : Nat, j < 26 → ∃ c, (tl "abcdefghijklmnopqrstuvwxyz")[j]? = some c ∧ 97 ≤ c ∧ c ≤ 122 := by
  have : ∀ j : Nat, j < 26 → (tl "abcdefghijklmnopqrstuvwxyz")[j]? = some (97 + j) := by decide +kernel
  intro j h
  exact ⟨_, this j h, by omega, by omega⟩
theorem LowN.mono {m k : Nat} {z : Str} (h : LowN m z) (l : m ≤ k) : LowN k z := ⟨Nat.le_trans h.1 l, h.2⟩
theorem letter_at {j : Nat} (h : j < 26) : (tl "abcdefghijklmnopqrstuvwxyz")[j]? = some (97 + j) := by
  have : ∀ j : Nat, j < 26 → (tl "abcdefghijklmnopqrstuvwxyz")[j]? = some (97 + j) := by decide +kernel
  exact this j h
theorem cut_before_len {z : Str} {t : Nat} (h : t < z.length) : (tl (cutS z none (some (t : Int)))).length = t := by
  have lz := TL.len_tl z
  rw [tl_cut, HT.sIx_none, show HT.sIx z.length z.length (some (t : Int)) = min t z.length from HT.sIx_nat z.length _ t, List.length_take, List.length_drop]
  omega
theorem cut_before {m : Nat} {z : Str} {t : Nat} (h : LowN m z) (ht : t < z.length) : LowN t (cutS z none (some (t : Int))) :=
  ⟨by rw [TL.len_tl]; exact Nat.le_of_eq (cut_before_len ht), (cut_low h).2⟩
theorem cut_after {m : Nat} {z : Str} {t : Nat} (h : LowN m z) (ht : t < z.length) : LowN (z.length - (t + 1)) (cutS z (some ((t : Int) + 1)) none) := by
  refine ⟨?_, (cut_low h).2⟩
  have lz := TL.len_tl z
  rw [TL.len_tl, tl_cut, HT.sIx_none, show HT.sIx z.length 0 (some ((t : Int) + 1)) = min (t + 1) z.length from HT.sIx_nat z.length _ (t + 1), List.length_take, List.length_drop]
  omega
theorem cut_from {xs : List V} {t : Nat} (h : t ≤ xs.length) : cutV xs (some (t : Int)) none = xs.drop t := by
  unfold cutV
  rw [show HT.sIx xs.length 0 (some (t : Int)) = min t xs.length from HT.sIx_nat xs.length 0 t, HT.sIx_none, Nat.min_eq_left h]
  exact List.take_of_length_le (by rw [List.length_drop]; exact Nat.le_refl _)
theorem cut_to {xs : List V} {t : Nat} (h : t ≤ xs.length) : cutV xs none (some (t : Int)) = xs.take t := by
  unfold cutV
  rw [HT.sIx_none, show HT.sIx xs.length xs.length (some (t : Int)) = min t xs.length from HT.sIx_nat xs.length _ t, Nat.min_eq_left h]
  show (xs.drop 0).take (t - 0) = _
  rw [Nat.sub_zero]; rfl
/-! ### data: of what depth, and how long its text -/
structure OkD (d : PyData) (k m : Nat) : Prop where
  lay : d.canLay0 = true
  dep : d.depth ≤ k
  sho : d.showable = true
  len : d.shown.length ≤ m
theorem logs {i : Int} (h : i.natAbs < 10000000000) : i.natAbs.log2 < 1920 := by
  by_cases z : i.natAbs = 0
  · rw [z]; decide
  · exact (Nat.log2_lt z).mpr (Nat.lt_of_lt_of_le h (Nat.le_trans (show 10000000000 ≤ 2 ^ 64 by decide) (Nat.pow_le_pow_right (by decide) (by decide : 64 ≤ 1920))))
theorem small10 {i : Int} (h : i.natAbs < 10000000000) : (Str.ofString (toString i)).length ≤ 11 := by
  have := PySem.int_text_length_le10 (a := i) (k := 10) (by decide) h
  rw [PySem.ofString_length]
  exact this
theorem okd_none : OkD .none 0 4 := ⟨by simp [PyData.canLay0], by simp [PyData.depth], by simp [PyData.showable], by rw [PyData.shown]; decide⟩
theorem okd_bool (b : Bool) : OkD (.bool b) 0 5 := ⟨by simp [PyData.canLay0], by simp [PyData.depth], by simp [PyData.showable], by rw [PyData.shown]; cases b <;> decide⟩
theorem okd_int {i : Int} (h : i.natAbs < 10000000000) : OkD (.int i) 0 11 := ⟨by simp [PyData.canLay0], by simp [PyData.depth], by simp [PyData.showable, logs h], by rw [PyData.shown]; exact small10 h⟩
theorem okd_str {x : Str} {n : Nat} (h : PyData.strOk x = true) (l : x.length ≤ n) : OkD (.str x) 0 (10 * n + 2) := by
  refine ⟨by simp [PyData.canLay0, h], by simp [PyData.depth], by simp [PyData.showable], ?_⟩
  rw [PyData.shown]
  refine Nat.le_trans (PySem.StrLaws.reprText_len x fun c hc => ?_) (by omega)
  unfold PyData.strOk at h
  have := Array.all_eq_true_iff_forall_mem.mp h c (by simpa using hc)
  exact Nat.lt_trans (of_decide_eq_true this) (by decide)
theorem OkD.mono {d : PyData} {k m k' m' : Nat} (h : OkD d k m) (a : k ≤ k') (b : m ≤ m') : OkD d k' m' := ⟨h.lay, Nat.le_trans h.dep a, h.sho, Nat.le_trans h.len b⟩
theorem okd_all {k m : Nat} : ∀ ds : List PyData, (∀ d ∈ ds, OkD d k m) → PyData.canLayAll0 ds = true ∧ PyData.depthAll ds ≤ k ∧ PyData.showableAll ds = true ∧ piled (PyData.shownAll ds) ≤ ds.length * (m + 2)
  | [], _ => ⟨by simp [PyData.canLayAll0], by simp [PyData.depthAll], by simp [PyData.showableAll], by simp [PyData.shownAll, piled_nil]⟩
  | d :: ds, h => by
    have h1 := h d List.mem_cons_self
    obtain ⟨a, b, c, e⟩ := okd_all ds fun x hx => h x (List.mem_cons_of_mem _ hx)
    refine ⟨by simp [PyData.canLayAll0, h1.lay, a], ?_, by simp [PyData.showableAll, h1.sho, c], ?_⟩
    · have := h1.dep
      simp only [PyData.depthAll]; omega
    · have := h1.len
      rw [PyData.shownAll, piled_cons, List.length_cons, Nat.add_mul]; omega
theorem list_text : ∀ ts : List Str, (listText ts).length ≤ piled ts + 2
  | [] => by decide
  | t :: r => by
    have h := textFrom_length_pos r 1 (("[" : Str) ++ (if (0 : Nat) > 0 then ", " else "" : String) ++ t) (Nat.succ_pos 0)
    have e : ((("[" : Str) ++ (if (0 : Nat) > 0 then ", " else "" : String) ++ t)).length = 1 + t.length := by rw [Str.length_append, Str.length_append]; rfl
    have x1 : (listText (t :: r)).length = (textFrom 0 "[" (t :: r)).length + 1 := by show (textFrom 0 "[" (t :: r) ++ "]").length = _; rw [Str.length_append]; rfl
    have x2 : (textFrom 0 "[" (t :: r)).length = (textFrom 1 (("[" : Str) ++ (if (0 : Nat) > 0 then ", " else "" : String) ++ t) r).length := rfl
    rw [x1, x2, h, e, piled_cons]; omega
theorem okd_tup {k m n : Nat} {ds : List PyData} (h : ∀ d ∈ ds, OkD d k m) (l : ds.length ≤ n) : OkD (.tuple ds) (k + 1) (n * (m + 2) + 2) := by
  obtain ⟨a, b, c, e⟩ := okd_all ds h
  refine ⟨by simp only [PyData.canLay0]; exact a, by simp only [PyData.depth]; omega, by simp only [PyData.showable]; exact c, ?_⟩
  rw [PyData.shown]
  have := PySem.fmt_text (PyData.shownAll ds)
  have := Nat.mul_le_mul_right (m + 2) l
  omega
theorem okd_lst {k m n : Nat} {ds : List PyData} (h : ∀ d ∈ ds, OkD d k m) (l : ds.length ≤ n) : OkD (.list ds) (k + 1) (n * (m + 2) + 2) := by
  obtain ⟨a, b, c, e⟩ := okd_all ds h
  refine ⟨by simp only [PyData.canLay0]; exact a, by simp only [PyData.depth]; omega, by simp only [PyData.showable]; exact c, ?_⟩
  rw [PyData.shown]
  have := list_text (PyData.shownAll ds)
  have := Nat.mul_le_mul_right (m + 2) l
  omega
theorem okd_map {α : Type} {k m n : Nat} {f : α → PyData} {l : List α} (h : ∀ x ∈ l, OkD (f x) k m) (e : l.length ≤ n) : OkD (.list (l.map f)) (k + 1) (n * (m + 2) + 2) :=
  okd_lst (fun d hd => by obtain ⟨x, hx, rfl⟩ := List.mem_map.mp hd; exact h x hx) (by rw [List.length_map]; exact e)
theorem OkD.shaped {d : PyData} {k m : Nat} (h : OkD d k m) (a : k ≤ 64 := by decide) : SeqAt.shaped d = true := by
  show (d.canLay0 && decide (d.depth ≤ 64)) = true
  rw [h.lay, decide_eq_true (Nat.le_trans h.dep a)]; rfl
theorem OkD.line {d : PyData} {k m : Nat} (h : OkD d k m) (a : m ≤ 100000 := by decide) : d.shown.length ≤ sizeLine := le_line (Nat.le_trans h.len a)
theorem OkD.refl {d : PyData} {k m : Nat} (h : OkD d k m) : PyData.eqv d d = true := SeqAt.eqv_refl _ h.lay
/-- repr of such data -/
theorem OkD.rep {K : PySem.W.Frag} {H : Hp} {v : V} {d : PyData} {k m : Nat} {Q : VK} (h : OkD d k m) (hd : Dp K H v d) (q : Q (.str d.shown) H) (a : k ≤ 64 := by decide) (b : m ≤ 100000 := by decide) : rReprD K [v] H Q :=
  ⟨v, d, rfl, hd, h.shaped a, h.sho, h.line b, q⟩
/-- a thing is not other than itself -/
theorem ne_self {α : Type} [DecidableEq α] (x : α) : (!decide (x = x)) = false := by rw [decide_eq_true rfl]; rfl
theorem OkD.same {K : PySem.W.Frag} {H : Hp} {u v : V} {d : PyData} {k m : Nat} {Q : VK} (h : OkD d k m) (hu : Dp K H u d) (hv : Dp K H v d) (q : Q (.bl true) H) (a : k ≤ 64 := by decide) : rEqD K u v H Q :=
  ⟨d, d, hu, hv, h.shaped a, h.shaped a, by rw [h.refl]; exact q⟩
theorem OkD.not {K : PySem.W.Frag} {H : Hp} {u v : V} {d : PyData} {k m : Nat} {Q : VK} (h : OkD d k m) (hu : Dp K H u d) (hv : Dp K H v d) (q : Q (.bl false) H) (a : k ≤ 64 := by decide) : rNeD K u v H Q :=
  ⟨d, d, hu, hv, h.shaped a, h.shaped a, by rw [h.refl]; exact q⟩
theorem low_strOk {m : Nat} {z : Str} (h : LowN m z) : PyData.strOk z = true := by
  unfold PyData.strOk
  rw [Array.all_eq_true_iff_forall_mem]
  intro c hc
  have := h.2 c (by simpa [tl] using hc)
  exact decide_eq_true (by omega)
set_option maxHeartbeats 8000000
local macro_rules | `(tactic| walk_at "c") => `(tactic| first | omega | decide | exact ⟨by omega, by omega⟩ | exact ⟨by decide, by decide⟩ | exact .inl ⟨by omega, by omega⟩ | exact .inr ⟨by omega, by omega⟩ | exact ⟨by omega, by omega, by omega⟩ | exact ⟨by decide, by decide, by decide⟩ | exact le_line (Nat.le_of_ble_eq_true rfl))
local macro_rules | `(tactic| walk_at "a") => `(tactic| with_reducible (first | refine i_seq ?_ | refine i_asg ?_ | refine i_cons ?_ | refine i_c ?_ | refine i_nil ?_ | refine i_op ?_ | refine i_call ?_ | refine i_cb ?_ | refine i_name ?_ | refine i_next ?_ | refine i_ret ?_ | refine i_drop ?_ | refine i_if ?_ | refine i_test ?_ | refine i_and ?_ | refine i_or ?_ | refine i_not ?_ | refine i_ite ?_ | refine i_lst ?_ | refine i_tup ?_ | refine i_bm ?_ | refine i_un ?_ | refine i_par ?_ | refine i_gsub ?_ | refine i_chain ?_ | refine i_sl ?_ | refine i_nopart ?_ | refine i_part ?_ | refine i_m1 ?_ | refine i_m0 ?_ | refine i_lc ?_ | refine i_iList ?_ | refine i_iTup ?_ | refine i_iStr ?_ | refine i_r1 ?_ | refine i_set ?_ | refine i_callk ?_ | refine i_callN ?_ | refine i_ckw ?_ | refine i_revL ?_ | refine i_tB ?_ | refine i_fld ?_ | refine i_sfld ?_ | refine i_make ?_ | refine i_makeN ?_ | refine i_meth ?_ | refine i_andV ?_ | refine i_orV ?_ | refine i_notV ?_ | refine iteT ?_ | refine iteF ?_ | refine i_yes ?_))
local macro_rules | `(tactic| walk_at "s") => `(tactic| repeat (first | walk_at "a" | refine i_var rfl ?_ | refine i_aug rfl ?_ | refine And.intro ⟨_, rfl⟩ ?_ | refine ⟨_, rfl, ?_⟩ | refine ⟨_, _, rfl, rfl, ?_⟩ | refine ⟨_, _, rfl, ?_⟩ | refine ⟨rfl, ?_⟩ | refine And.intro (by walk_at "c") ?_))
/-! ### a Stretch -/
theorem fb : ¬ (("first" : Str) = "behind") := by decide +kernel
def strF (a b : Int) : List (Str × V) := putF "behind" (.int b) (putF "first" (.int a) [])
theorem strF_first (a b : Int) : (strF a b).lookup ("first" : Str) = some (.int a) := by
  unfold strF
  rw [lookup_putF, if_neg fb, lookup_putF, if_pos rfl]
theorem strF_behind (a b : Int) : (strF a b).lookup ("behind" : Str) = some (.int b) := by
  unfold strF
  rw [lookup_putF, if_pos rfl]
/-- a Stretch of these minutes stands at p -/
def StrAt (C : Addr) (H : Hp) (p : Addr) (a b : Int) : Prop := ∃ dx, H p = some (.ins C dx (strF a b))
theorem StrAt.same {C : Addr} {H H' : Hp} {p : Addr} {a b : Int} (h : StrAt C H p a b) (s : Same H H') : StrAt C H' p a b := by
  obtain ⟨dx, e⟩ := h; exact ⟨dx, s _ _ e⟩
theorem StrAt.sm {TT : List (Addr × Str)} {C : Addr} {H H' : Hp} {p : Addr} {a b : Int} (h : StrAt C H p a b) (s : Sm TT H H') : StrAt C H' p a b := by
  obtain ⟨dx, e⟩ := h; exact ⟨dx, s.at e⟩
theorem StrAt.keep {C T : Addr} {ys : List V} {H H' : Hp} {p : Addr} {a b : Int} (h : StrAt C H p a b) (hT : H T = some (.lst ys)) (s : Keep T H H') : StrAt C H' p a b := by
  obtain ⟨dx, e⟩ := h; exact ⟨dx, s _ _ (ne_of e hT (by intro z; cases z)) e⟩
/-- Stretch objects, one by one -/
def StrsAt (C : Addr) (H : Hp) (xs : List V) (ps : List (Int × Int)) : Prop := Paired (fun x q => ∃ p, x = V.ref p ∧ StrAt C H p q.1 q.2) xs ps
theorem StrsAt.mono {C : Addr} {H H' : Hp} (f : ∀ p a b, StrAt C H p a b → StrAt C H' p a b) {xs : List V} {ps : List (Int × Int)} (h : StrsAt C H xs ps) : StrsAt C H' xs ps := by
  unfold StrsAt at h ⊢
  induction h with
  | nil => exact .nil
  | cons a _ ih =>
    obtain ⟨p, e, h⟩ := a
    exact .cons ⟨p, e, f _ _ _ h⟩ ih
theorem StrsAt.same {C : Addr} {H H' : Hp} {xs : List V} {ps : List (Int × Int)} (h : StrsAt C H xs ps) (s : Same H H') : StrsAt C H' xs ps := h.mono fun _ _ _ z => z.same s
theorem StrsAt.sm {TT : List (Addr × Str)} {C : Addr} {H H' : Hp} {xs : List V} {ps : List (Int × Int)} (h : StrsAt C H xs ps) (s : Sm TT H H') : StrsAt C H' xs ps := h.mono fun _ _ _ z => z.sm s
/-- a list is none of them -/
theorem StrsAt.upd {C : Addr} {H : Hp} {f : Addr} {ys : List V} {o : HO} {xs : List V} {ps : List (Int × Int)} (h : StrsAt C H xs ps) (hf : H f = some (.lst ys)) : StrsAt C (upd H f o) xs ps := h.mono fun _ _ _ ⟨dx, e⟩ => ⟨dx, by rw [upd_ne (ne_of e hf (by intro z; cases z))]; exact e⟩
theorem StrsAt.len {C : Addr} {H : Hp} {xs : List V} {ps : List (Int × Int)} (h : StrsAt C H xs ps) : xs.length = ps.length := Paired.length h
theorem paired_at {α β : Type} {R : α → β → Prop} : ∀ {l : List α} {m : List β} {i : Nat} {x : α}, Paired R l m → l[i]? = some x → ∃ y, m[i]? = some y ∧ R x y
  | _, _, _, _, .nil, e => by cases e
  | _, _, 0, _, .cons a _, e => by cases e; exact ⟨_, rfl, a⟩
  | _, _, i + 1, _, .cons _ r, e => paired_at (i := i) r e
theorem paired_app {α β : Type} {R : α → β → Prop} : ∀ {l l' : List α} {m m' : List β}, Paired R l m → Paired R l' m' → Paired R (l ++ l') (m ++ m')
  | _, _, _, _, .nil, h => h
  | _, _, _, _, .cons a r, h => .cons a (paired_app r h)
theorem paired_rev {α β : Type} {R : α → β → Prop} : ∀ {l : List α} {m : List β}, Paired R l m → Paired R l.reverse m.reverse
  | _, _, .nil => .nil
  | _, _, .cons a r => by
    rw [List.reverse_cons, List.reverse_cons]
    exact paired_app (paired_rev r) (.cons a .nil)
theorem StrsAt.at {C : Addr} {H : Hp} {xs : List V} {ps : List (Int × Int)} (h : StrsAt C H xs ps) {i : Nat} {x : V} (e : xs[i]? = some x) : ∃ p a b, x = .ref p ∧ ps[i]? = some (a, b) ∧ StrAt C H p a b := by
  obtain ⟨⟨a, b⟩, h1, p, rfl, h2⟩ := paired_at h e
  exact ⟨p, a, b, rfl, h1, h2⟩
theorem StrsAt.snoc {C : Addr} {H : Hp} {xs : List V} {ps : List (Int × Int)} {p : Addr} {a b : Int} (h : StrsAt C H xs ps) (hp : StrAt C H p a b) : StrsAt C H (xs ++ [.ref p]) (ps ++ [(a, b)]) := paired_app h (.cons ⟨p, rfl, hp⟩ .nil)
theorem made_same {H H' : Hp} {x dx : Addr} {o1 o2 : HO} (hx : H x = none) (hdx : H dx = none) (k : ∀ y o, y ≠ x → (upd (upd H dx o1) x o2) y = some o → H' y = some o) : Same H H' := fun y o e =>
  k y o (ne_of_none e hx) (by rw [upd_ne (ne_of_none e hx), upd_ne (ne_of_none e hdx)]; exact e)
def spSInit (C : Addr) : Sp := fun vs H Q _ => ∃ (p dx : Addr) (a b : Int) (y : V), vs = [.ref p, .int a, y] ∧ (y = .int b ∨ y = .non ∧ b = a + 1) ∧ a ≤ b ∧ H p = some (.ins C dx []) ∧ ∀ H', StrAt C H' p a b → (∀ x o, x ≠ p → H x = some o → H' x = some o) → Q .non H'
theorem mkStr {C : Addr} {H : Hp} {a b : Int} {y : V} {Q : VK} {E : XK} {gV : List V → List V → List V} {vs zs : List V} (hy : y = .int b ∨ y = .non ∧ b = a + 1) (hab : a ≤ b) (q : ∀ x H', H x = none → StrAt C H' x a b → Same H H' → Q (.ref x) H')
    (hv : ∀ x, gV (.ref x :: vs) zs = [.ref x, .int a, y] := by intro _; rfl) : rMkN C (spSInit C) gV E vs zs H Q := fun x dx hx hd ne =>
  ⟨x, dx, a, b, y, hv x, hy, hab, upd_same, fun H' e k => ⟨rfl, q x H' hx e (made_same hx hd k)⟩⟩
def spSEq (K : PySem.W.Frag) (C : Addr) : Sp := fun vs H Q _ => ∃ (p : Addr) (y : V) (a b : Int), vs = [.ref p, y] ∧ StrAt C H p a b ∧
  ((∃ q c d, y = .ref q ∧ StrAt C H q c d ∧ Q (.bl (decide (a = c) && decide (b = d))) H) ∨ (∃ t, TyX K H y t ∧ PySem.W.kitOne K t (.ref C) = some false ∧ Q (.bl false) H))
def spSLen (C : Addr) : Sp := fun vs H Q _ => ∃ (p : Addr) (a b : Int), vs = [.ref p] ∧ StrAt C H p a b ∧ a ≤ b ∧ b - a < 2 ^ 62 ∧ Q (.int (b - a)) H
theorem kitC {K : PySem.W.Frag} {C : Addr} : PySem.W.kitOne K (.ref C) (.ref C) = some true := if_pos (beq_self_eq_true _)
section
variable {P : Program} {w : World} {K : PySem.W.Frag} {mg : Str → Option Value} {base : Heap} (T : Ev K mg base)
theorem i_first {H : Hp} {p : Addr} {a b : Int} {Q : VK} (h : StrAt T.CStretch H p a b) (q : Q (.int a) H) : rFld K "first" (.ref p) H Q := by
  obtain ⟨dx, e⟩ := h
  exact ⟨p, _, dx, _, _, rfl, e, cl_Stretch T, T.nStretch_first, strF_first _ _, q⟩
theorem i_behind {H : Hp} {p : Addr} {a b : Int} {Q : VK} (h : StrAt T.CStretch H p a b) (q : Q (.int b) H) : rFld K "behind" (.ref p) H Q := by
  obtain ⟨dx, e⟩ := h
  exact ⟨p, _, dx, _, _, rfl, e, cl_Stretch T, T.nStretch_behind, strF_behind _ _, q⟩
theorem isStr {H : Hp} {p : Addr} {a b : Int} (h : StrAt T.CStretch H p a b) : TyX K H (.ref p) (.ref T.CStretch) := by
  obtain ⟨dx, e⟩ := h
  exact .base (.ins e (cl_Stretch T) T.haStretch T.hnStretch T.htStretch T.hmStretch)
theorem okStretch___init__ : FnOk P w K mg base CX0 1 T.fStretch___init__ T.fdStretch___init__ ["self", "first", "behind"] (spSInit T.CStretch) := by
  refine T.FStretch___init__.okN scSInit (fun vs H Q E h => ?_) (fun cdv A outer s H vs Q E hr h => ?_)
  · obtain ⟨p, dx, a, b, y, rfl, _⟩ := h
    rfl
  · obtain ⟨p, dx, a, b, y, rfl, hy, hab, hp, q⟩ := h
    refine ⟨_,
      (pss_cut (ps_if (pt_cmpR op_isN (pv 2) pe_non (nomark _))
      (pss_one (ps_set (i := 2) scSInit.nd rfl (.inl rfl) (pe_op op_add (pv 1) pe_int)))
      pss_nil)
      (pss_cons (ps_if (pt_cmpR op_lt (pv 2) (pv 1) (nomark _))
      (pss_one ps_never)
      pss_nil)
      (pss_cons (ps_fld (pv 0) (pv 1) rfl)
      (pss_one (ps_fld (pv 0) (pv 2) rfl)))))
      , ?_⟩
    refine ⟨fun σ H2 => σ = [some (.ref p), some (.int a), some (.int b)] ∧ H2 = H, ?_, ?_⟩
    · rcases hy with rfl | ⟨rfl, rfl⟩
      · refine ⟨_, rfl, rfl, _, rfl, ite2 (fun d => absurd (of_decide_eq_true d) (by intro z; cases z)) (fun _ => ⟨rfl, rfl⟩)⟩
      · refine ⟨_, rfl, rfl, _, rfl, ite2 (fun _ => ?_) (fun d => absurd (decide_eq_true rfl) d)⟩
        exact ⟨_, rfl, _, _, rfl, rfl, rfl, rfl⟩
    rintro σ H2 ⟨rfl, rfl⟩
    refine ⟨_, rfl, _, rfl, _, _, rfl, rfl, _, rfl, ite2 (fun d => absurd (of_decide_eq_true d) (by omega)) (fun _ => ?_)⟩
    refine ⟨_, rfl, _, rfl, p, T.CStretch, dx, _, rfl, hp, cl_Stretch T, T.nStretch_first, (by show 0 < 1000; decide), ?_⟩
    refine ⟨_, rfl, _, rfl, p, T.CStretch, dx, _, rfl, upd_same, cl_Stretch T, T.nStretch_behind, (by show 1 < 1000; decide), ?_⟩
    exact q _ ⟨dx, upd_same⟩ fun x o n e => by rw [upd_ne n, upd_ne n]; exact e
theorem okStretch___len__ : FnOk P w K mg base CX0 1 T.fStretch___len__ T.fdStretch___len__ ["self"] (spSLen T.CStretch) := by
  refine T.FStretch___len__.ok scSLen (fun vs H Q E h => ?_) (fun cdv A outer s H vs Q E hr h => ?_)
  · obtain ⟨p, a, b, rfl, _⟩ := h
    rfl
  · obtain ⟨p, a, b, rfl, hp, h1, h2, q⟩ := h
    refine ⟨_, pss_one (ps_ret (pe_lenRg (by rfl) T.mlen (prg_2 (by rfl) T.mrange (pe_fld (pv 0) rfl) (pe_fld (pv 0) rfl)))), ?_⟩
    obtain ⟨dx, ep⟩ := id hp
    refine ⟨_, rfl, p, T.CStretch, dx, _, _, rfl, ep, cl_Stretch T, T.nStretch_first, strF_first a b, _, rfl, p, T.CStretch, dx, _, _, rfl, ep, cl_Stretch T, T.nStretch_behind, strF_behind a b, a, b, rfl, rfl, by omega, ?_⟩
    rw [show ((((b - a).toNat : Nat)) : Int) = b - a by omega]
    exact q
theorem okStretch___eq__ : FnOk P w K mg base CX0 1 T.fStretch___eq__ T.fdStretch___eq__ ["self", "other"] (spSEq K T.CStretch) := by
  refine T.FStretch___eq__.ok scSEq (fun vs H Q E h => ?_) (fun cdv A outer s H vs Q E hr h => ?_)
  · obtain ⟨p, y, a, b, rfl, _⟩ := h
    rfl
  · obtain ⟨p, y, a, b, rfl, hp, hy⟩ := h
    refine ⟨_,
      (pss_one (ps_ret (pe_and (pe_callB call_isi (by rfl) T.misinstance (by decide +kernel) (pa_cons (pv 1) (pa_cons (pe_glob (v := .ref T.CStretch) (by rfl) T.gCStretch rfl) pa_nil))) (pe_and (pe_cmpR op_eq (pe_fld (pv 0) rfl) (pe_fld (pv 1) rfl) (nomark _)) (pe_one (pe_cmpR op_eq (pe_fld (pv 0) rfl) (pe_fld (pv 1) rfl) (nomark _)))))))
      , ?_⟩
    obtain ⟨dx, ep⟩ := id hp
    rcases hy with ⟨r, c, d, rfl, hr', q⟩ | ⟨t, ty, hk, q⟩
    · obtain ⟨dy, er⟩ := id hr'
      refine ⟨_, rfl, _, _, _, _, true, rfl, .own T.CStretch, isStr T hr', kitC, true, rfl, ?_⟩
      refine ⟨_, rfl, p, T.CStretch, dx, _, _, rfl, ep, cl_Stretch T, T.nStretch_first, strF_first a b, _, rfl, r, T.CStretch, dy, _, _, rfl, er, cl_Stretch T, T.nStretch_first, strF_first c d, rfl, _, rfl, ?_⟩
      refine ite2 (fun c1 => ?_) (fun c1 => ?_)
      · have e1 : a = c := V.int.inj (of_decide_eq_true c1)
        refine ⟨_, rfl, p, T.CStretch, dx, _, _, rfl, ep, cl_Stretch T, T.nStretch_behind, strF_behind a b, _, rfl, r, T.CStretch, dy, _, _, rfl, er, cl_Stretch T, T.nStretch_behind, strF_behind c d, rfl, ?_⟩
        have z : (decide (a = c) && decide (b = d)) = decide (V.int b = V.int d) := by
          rw [decide_eq_true e1, Bool.true_and]
          exact decide_eq_decide.mpr ⟨fun e => congrArg V.int e, fun e => V.int.inj e⟩
        rw [z] at q
        exact q
      · have e1 : ¬ a = c := fun e => c1 (decide_eq_true (congrArg V.int e))
        rw [decide_eq_false e1, Bool.false_and] at q
        exact q
    · exact ⟨_, rfl, _, _, _, _, false, rfl, .own T.CStretch, ty, hk, false, rfl, q⟩
end
section
variable {K : PySem.W.Frag} {mg : Str → Option Value} {base : Heap} (T : Ev K mg base)
theorem neStr {H : Hp} {p q : Addr} {a b : Int} {Q : VK} (h1 : StrAt T.CStretch H p a b) (h2 : StrAt T.CStretch H q a b) (q0 : Q (.bl false) H) : rOwnY K T.CStretch (spSEq K T.CStretch) E0 QNot (.ref p) (.ref q) H Q := by
  obtain ⟨dx, e⟩ := id h1
  exact ⟨p, dx, _, _, rfl, e, isStr T h2, T.nfStretch, p, _, a, b, rfl, h1, .inl ⟨q, a, b, rfl, h2, _, rfl, by rw [decide_eq_true rfl, decide_eq_true rfl]; exact q0⟩⟩
end
/-! ### == of lists of them -/
section
variable {C : Addr} {K : PySem.W.Frag}
def RStr (C : Addr) : Addr → Addr → Bool → Hp → Prop := fun p q r H => ∃ a b c d, StrAt C H p a b ∧ StrAt C H q c d ∧ r = (decide (a = c) && decide (b = d))
theorem monStretch : MonB (DInsB C (RStr C)) := monB_ins fun p q r H H' e ⟨a, b, c, d, h1, h2, h3⟩ => ⟨a, b, c, d, h1.same e, h2.same e, h3⟩
theorem selfStretch (p : Addr) (r : Bool) (H : Hp) (h : RStr C p p r H) : r = true := by
  obtain ⟨a, b, c, d, ⟨dx, h1⟩, ⟨dy, h2⟩, h3⟩ := h
  rw [h1] at h2
  have e : strF a b = strF c d := by injection h2 with h2; injection h2
  have e1 := strF_first a b
  have e2 := strF_behind a b
  rw [e, strF_first] at e1
  rw [e, strF_behind] at e2
  cases e1
  cases e2
  rw [h3, decide_eq_true rfl, decide_eq_true rfl]; rfl
theorem hspStretch (p q : Addr) (r : Bool) (H : Hp) (Q : VK) (h : RStr C p q r H) (hq : ∀ H', Ext H H' → Q (.bl r) H') : spSEq K C [.ref p, .ref q] H Q E0 := by
  obtain ⟨a, b, c, d, h1, h2, h3⟩ := h
  exact ⟨p, _, a, b, rfl, h1, .inl ⟨q, c, d, rfl, h2, by rw [← h3]; exact hq H Ext.rfl'⟩⟩
/-- lists of them: alike just where their minutes are -/
theorem strs_eq {H : Hp} {p q : Addr} {xs ys : List V} {ps qs : List (Int × Int)} (hp : H p = some (.lst xs)) (hq : H q = some (.lst ys)) (h1 : StrsAt C H xs ps) (h2 : StrsAt C H ys qs) (e : ps = qs) : DListB (DInsB C (RStr C)) (.ref p) (.ref q) true H := by
  subst e
  have l1 := h1.len
  have l2 := h2.len
  refine ⟨p, q, xs, ys, rfl, rfl, hp, hq, .inr ⟨by omega, xs.length, Nat.le_refl _, (decide_eq_true rfl).symm, fun i x y hx hy hi => ?_⟩⟩
  have hlt : i < xs.length := (List.getElem?_eq_some_iff.mp hx).1
  obtain ⟨o, a, b, rfl, e1, o1⟩ := h1.at hx
  obtain ⟨o', c, d, rfl, e2, o2⟩ := h2.at hy
  rw [e1] at e2
  cases e2
  obtain ⟨dx, z1⟩ := id o1
  obtain ⟨dy, z2⟩ := id o2
  rw [decide_eq_true hlt]
  exact ⟨o, o', dx, dy, _, _, rfl, rfl, z1, z2, a, b, a, b, o1, o2, by rw [decide_eq_true rfl, decide_eq_true rfl]; rfl⟩
end
set_option maxHeartbeats 8000000
local macro_rules | `(tactic| walk_at "c") => `(tactic| first | omega | decide | exact ⟨by omega, by omega⟩ | exact ⟨by decide, by decide⟩ | exact .inl ⟨by omega, by omega⟩ | exact .inr ⟨by omega, by omega⟩ | exact ⟨by omega, by omega, by omega⟩ | exact ⟨by decide, by decide, by decide⟩ | exact le_line (Nat.le_of_ble_eq_true rfl))
local macro_rules | `(tactic| walk_at "a") => `(tactic| with_reducible (first | refine i_seq ?_ | refine i_asg ?_ | refine i_cons ?_ | refine i_c ?_ | refine i_nil ?_ | refine i_op ?_ | refine i_call ?_ | refine i_cb ?_ | refine i_name ?_ | refine i_next ?_ | refine i_ret ?_ | refine i_drop ?_ | refine i_if ?_ | refine i_test ?_ | refine i_and ?_ | refine i_or ?_ | refine i_not ?_ | refine i_ite ?_ | refine i_lst ?_ | refine i_tup ?_ | refine i_bm ?_ | refine i_un ?_ | refine i_par ?_ | refine i_gsub ?_ | refine i_chain ?_ | refine i_sl ?_ | refine i_nopart ?_ | refine i_part ?_ | refine i_m1 ?_ | refine i_m0 ?_ | refine i_lc ?_ | refine i_iList ?_ | refine i_iTup ?_ | refine i_iStr ?_ | refine i_r1 ?_ | refine i_set ?_ | refine i_callk ?_ | refine i_callN ?_ | refine i_ckw ?_ | refine i_revL ?_ | refine i_tB ?_ | refine i_fld ?_ | refine i_sfld ?_ | refine i_make ?_ | refine i_makeN ?_ | refine i_meth ?_ | refine i_andV ?_ | refine i_orV ?_ | refine i_notV ?_ | refine iteT ?_ | refine iteF ?_ | refine i_yes ?_))
local macro_rules | `(tactic| walk_at "s") => `(tactic| repeat (first | walk_at "a" | refine i_var rfl ?_ | refine i_aug rfl ?_ | refine And.intro ⟨_, rfl⟩ ?_ | refine ⟨_, rfl, ?_⟩ | refine ⟨_, _, rfl, rfl, ?_⟩ | refine ⟨_, _, rfl, ?_⟩ | refine ⟨rfl, ?_⟩ | refine And.intro (by walk_at "c") ?_))
/-! ### stretches put together -/
section
open SrtO (Swo)
open LamX (Tabs)
def lt1 (p q : Int × Int) : Bool := ltI p.1 q.1
theorem swo_lt1 : Swo lt1 := ⟨fun x y => swo_ltI.asym _ _, fun x y z => swo_ltI.tr _ _ _⟩
def full (ps : List (Int × Int)) : List (Int × Int) := ps.filter fun p => decide (p.1 < p.2)
/-- what joined tells -/
def jnd (ap : Int) (ps : List (Int × Int)) : List (Int × Int) := (mrgs ap (iSort lt1 (full ps))).reverse
theorem mrgs_succ {ap : Int} {l : List (Int × Int)} {i : Nat} {p : Int × Int} (h : l[i]? = some p) : mrgs ap (l.take (i + 1)) = mrg ap (mrgs ap (l.take i)) p := by
  unfold mrgs
  rw [List.take_succ, h, List.foldl_append]; rfl
theorem mrg_le {ap : Int} (acc : List (Int × Int)) (p : Int × Int) : (mrg ap acc p).length ≤ acc.length + 1 := by
  cases acc with
  | nil => exact Nat.le_refl _
  | cons q r =>
    unfold mrg
    dsimp only
    split
    · exact Nat.le_succ _
    · exact Nat.le_refl _
theorem mrgs_le {ap : Int} (l : List (Int × Int)) : (mrgs ap l).length ≤ l.length := by
  have go : ∀ (l acc : List (Int × Int)), (l.foldl (mrg ap) acc).length ≤ acc.length + l.length := by
    intro l
    induction l with
    | nil => intro acc; exact Nat.le_refl _
    | cons p r ih =>
      intro acc
      rw [List.foldl_cons, List.length_cons]
      have := ih (mrg ap acc p)
      have := mrg_le (ap := ap) acc p
      omega
  have := go l []
  unfold mrgs
  simpa using this
theorem full_mem {ps : List (Int × Int)} {p : Int × Int} (h : p ∈ full ps) : p ∈ ps ∧ p.1 < p.2 := by
  have := List.mem_filter.mp h
  exact ⟨this.1, of_decide_eq_true this.2⟩
theorem srt1 {l : List (Int × Int)} : (iSort lt1 l).Pairwise fun p q => p.1 ≤ q.1 :=
  (iSort_ok swo_lt1 l).1.imp fun {p q} h => by
    have : decide (q.1 < p.1) = false := h
    have := of_decide_eq_false this
    omega
/-- sorted by their first minutes -/
theorem byKeys_str {C : Addr} {H : Hp} {xs : List V} {ps : List (Int × Int)} (h : StrsAt C H xs ps) : StrsAt C H (byKeys ltI (ps.map (·.1)) xs) (iSort lt1 ps) := by
  unfold StrsAt at h ⊢
  have p : Paired (fun (a : Int × V) (q : Int × Int) => a.1 = q.1 ∧ ∃ p, a.2 = V.ref p ∧ StrAt C H p q.1 q.2) ((ps.map (·.1)).zip xs) ps := by
    induction h with
    | nil => exact .nil
    | cons a r ih => exact .cons ⟨rfl, a⟩ ih
  have q := iSort_two (lt := fun a b : Int × V => ltI a.1 b.1) (lt' := lt1) (fun a b a' b' h1 h2 => by unfold lt1; rw [h1.1, h2.1]) p
  unfold byKeys
  generalize iSort (fun a b : Int × V => ltI a.1 b.1) ((ps.map (·.1)).zip xs) = l at q
  generalize iSort lt1 ps = m at q
  clear p h
  induction q with
  | nil => exact .nil
  | cons a _ ih => exact .cons a.2 ih
theorem paired_snoc_inv {α β : Type} {R : α → β → Prop} {y : β} : ∀ {l : List α} {m : List β}, Paired R l (m ++ [y]) → ∃ l0 x, l = l0 ++ [x] ∧ Paired R l0 m ∧ R x y
  | _, [], .cons a .nil => ⟨[], _, rfl, .nil, a⟩
  | _, z :: m, .cons a r => by
    obtain ⟨l0, x, rfl, h1, h2⟩ := paired_snoc_inv (m := m) r
    exact ⟨_ :: l0, x, rfl, .cons a h1, h2⟩
theorem if_max (x y : Int) : (if x > y then x else y) = max y x := by
  rw [Int.max_def]; split <;> split <;> omega
theorem full_succ {ps : List (Int × Int)} {i : Nat} {a b : Int} (h : ps[i]? = some (a, b)) : full (ps.take (i + 1)) = full (ps.take i) ++ (if a < b then [(a, b)] else []) := by
  unfold full
  rw [List.take_succ, h, List.filter_append]
  congr 1
  show List.filter _ [(a, b)] = _
  by_cases c : a < b
  · rw [if_pos c, List.filter_cons_of_pos (by simpa using c)]; rfl
  · rw [if_neg c, List.filter_cons_of_neg (by simpa using c)]; rfl
def spJoined (K : PySem.W.Frag) (C : Addr) (TT : List (Addr × Str)) : Sp := fun vs H Q _ => ∃ (p : Addr) (ap : Int) (xs : List V) (ps : List (Int × Int)), vs = [.ref p, .int ap] ∧ 0 ≤ ap ∧ SqL K H p xs ∧ StrsAt C H xs ps ∧ ps.length ≤ 40000 ∧ (∀ q ∈ ps, q.1 ≤ q.2 ∧ q.2 - q.1 < 2 ^ 61) ∧ Tabs TT H ∧
  ∀ r ys H', Sm TT H H' → H r = none → H' r = some (.lst ys) → StrsAt C H' ys (jnd ap ps) → Q (.ref r) H'
variable {P : Program} {w : World} {K : PySem.W.Frag} {mg : Str → Option Value} {base : Heap} (T : Ev K mg base)
theorem okjoined : FnOk P w K mg base CX0 5 T.fjoined T.fdjoined ["some", "apart"] (spJoined K T.CStretch (TT T)) := by
  refine T.Fjoined.okC T.cdjoined scJoined (fun vs H Q E h => ?_) (fun A outer s H vs Q E hr h => ?_)
  · obtain ⟨p, ap, xs, ps, rfl, _⟩ := h
    rfl
  · obtain ⟨p, ap, xs, ps, rfl, h0, hp, hx, hl, hb, tt, q⟩ := h
    refine ⟨_,
      (pss_cons (ps_setLc (i := 3) (own := [("stretch", 2)]) (g := gName 2)  rfl scJoined.nd rfl rfl (sw_true rfl rfl rfl (by decide +kernel)) (pi_list (pv 0)) (blkOk_by (N := NJoined) (own := [("stretch", 2)]) (sc := defScope sJoined) (by decide +kernel)) (fun _ _ _ _ _ => pg_name (i := 2) scJoined.nd rfl (Or.inl rfl)) (fun _ _ _ _ _ => pts_one (pt_cmpR op_gt (pe_callB (call_lenOwn (mt_Stretch___len__ T).at_ (mt_Stretch___len__ T).fn (okStretch___len__ T) T.bStretch___len__ (hr.mono (by decide)) pass0) (by rfl) T.mlen PySem.boot_len (pa_cons (pv 2) pa_nil)) pe_int (nomark _))) (fun _ _ _ _ _ => (pv 2)))
      (pss_cons (ps_set (i := 4) scJoined.nd rfl (.inl rfl) (pe_lst pa_nil))
      (pss_cons (ps_for PassesOwn.never rfl (pi_list (pe_callBK (call_sortL (k := 0) (px := "row") (params := lamPa lJoined_0) (body := lamBo lJoined_0) (scope := lamSc lJoined_0) (qual := ("joined" ++ ".<locals>." ++ "<lambda>")) (N := NlJoined_0) keyI sclJoined_0 blJoined_0 (hr.mono (by decide)) (fun f c A outer s H hr => (show PE _ _ (tFld K (tVar 0) "first") from pe_fld (pv 0) rfl))) (by rfl) T.msorted (by decide +kernel) (pa_cons (pv 3) pa_nil) (pk_cons (pe_lam3 (TT := TT T) (params := lamPa lJoined_0) (body := lamBo lJoined_0) (scope := lamSc lJoined_0) T.tbjoined rfl (tt_in_joined T) (tt_one_joined T)) pk_nil))) (pg_name (i := 2) scJoined.nd rfl (.inl rfl))
      (pss_one (ps_if (PW.pt (pw_and (pt_truth (pv 4) (by intro _; rfl)) (pw_and1 (pt_cmpR op_le (pe_op op_sub (pe_fld (pv 2) rfl) (pe_fld (pe_ix ix_list (pv 4) (pe_un un_neg pe_int) (fun _ _ => rfl)) rfl)) (pv 1) (nomark _)))))
      (pss_one (ps_asg (pe_makeN (mk_Stretch T) (okStretch___init__ T) (hr.mono (by decide)) (by rfl) T.gCStretch (kb_Stretch___init___3 T).choose_spec pass0 (pa_cons (pe_fld (pe_ix ix_list (pv 4) (pe_un un_neg pe_int) (fun _ _ => rfl)) rfl) (pa_cons (pe_callB (call_max2 rfl) (by rfl) T.mmax (by decide +kernel) (pa_cons (pe_fld (pe_ix ix_list (pv 4) (pe_un un_neg pe_int) (fun _ _ => rfl)) rfl) (pa_cons (pe_fld (pv 2) rfl) pa_nil))) pa_nil)) pk_nil) (pg_sub (pv 4) (pe_un un_neg pe_int) set_list)))
      (pss_one (ps_expr (pe_bm PySem.F.plainAttrs_list PySem.F.slot_list_append PySem.F.type_list_append mt_append (pv 4) (pa_cons (pv 2) pa_nil)))))))
      (pss_one (ps_ret (pv 4))))))
      , ?_⟩
    have hxl := hx.len
    walk_at "s"
    refine ⟨⟨_, hp⟩, fun D hD => ?_⟩
    refine lc_list (K := K) (a := p) (xs := xs) (fun i H' => ∃ ys, H' D = some (.lst ys) ∧ StrsAt T.CStretch H' ys (full (ps.take i)) ∧ Same H H') ⟨[], upd_same, .nil, same_upd hD⟩ (fun i H' _ ⟨_, _, _, z⟩ => sqL_same hp z) ?_ ?_
    · rintro i x H' hxi ⟨ys, eD, hys, si⟩
      obtain ⟨o, a, b, rfl, hpi, ho⟩ := hx.at hxi
      have hi : i < xs.length := (List.getElem?_eq_some_iff.mp hxi).1
      have ho' := ho.same si
      have hab := hb _ (List.mem_of_getElem? hpi)
      have hyl : ys.length ≤ i := by
        have := hys.len
        have h2 : (full (ps.take i)).length ≤ (ps.take i).length := List.length_filter_le _ _
        rw [List.length_take] at h2; omega
      obtain ⟨dx, eo⟩ := id ho'
      walk_at "s"
      refine ⟨o, dx, _, rfl, eo, o, a, b, rfl, ho', hab.1, Int.lt_trans hab.2 (by decide), b - a, rfl, by have := hab.1; show 0 ≤ b - a; dsimp only at this; omega, Int.lt_trans hab.2 (by decide), ?_⟩
      walk_at "s"
      rw [full_succ hpi]
      refine ite2 (fun c1 => ?_) (fun c1 => ?_)
      · have c2 : a < b := by have := of_decide_eq_true c1; omega
        rw [if_pos c2]
        walk_at "s"
        refine ⟨ys, eD, lt_line (by omega), ys ++ [.ref o], upd_same, (hys.snoc ho').upd eD, app_same hD si⟩
      · have c2 : ¬ a < b := fun z => c1 (decide_eq_true (by omega))
        rw [if_neg c2, List.append_nil]
        exact ⟨ys, eD, hys, si⟩
    · rintro H' ⟨ys, eD, hys, si⟩
      rw [hxl, List.take_length] at hys
      have hyl := hys.len
      have hfl : (full ps).length ≤ ps.length := List.length_filter_le _ _
      walk_at "s"
      intro t ht
      have s2 : Sm (TT T) H (upd H' t (.lst [])) := (si.trans (same_upd ht)).sm
      have eD2 := upd_at (o := .lst []) ht eD
      have hys2 := hys.same (same_upd (o := .lst []) ht)
      have et2 : (upd H' t (.lst [])) t = some (.lst []) := upd_same
      have ht0 : H t = none := (si.sm (TT := TT T)).none ht
      generalize upd H' t (.lst []) = H2 at s2 eD2 hys2 et2
      walk_at "s"
      refine ⟨s2.2.1 tt, fun f c H3 e3 t3 n3 hf hc => ?_⟩
      have s23 : Sm (TT T) H2 H3 := ⟨e3, fun _ => t3, n3⟩
      have hys3 := hys2.sm s23
      walk_at "s"
      refine ⟨D, f, c, ys, (full ps).map (·.1), rfl, rfl, hf, hc, SqL.of (s23.at eD2), by rw [List.length_map, hyl], fun j x k H4 hxj hk s4 => ?_, fun H4 r s4 hr4 => ?_⟩
      · obtain ⟨o, a, b, rfl, hpj, ho⟩ := hys3.at hxj
        rw [List.getElem?_map, hpj] at hk
        cases hk
        walk_at "s"
        refine i_first T (ho.same s4) ?_
        exact ⟨same_refl, rfl⟩
      have s24 : Sm (TT T) H2 (upd H4 r (.lst (byKeys ltI ((full ps).map (·.1)) ys))) := s23.trans (s4.sm.trans (sm_upd hr4))
      have hS := byKeys_str (hys3.same (s4.trans (same_upd (o := .lst (byKeys ltI ((full ps).map (·.1)) ys)) hr4)))
      have er : (upd H4 r (.lst (byKeys ltI ((full ps).map (·.1)) ys))) r = some (.lst (byKeys ltI ((full ps).map (·.1)) ys)) := upd_same
      have ntr : r ≠ t := fun z => by rw [z] at hr4; have := s4 _ _ (s23.at et2); rw [hr4] at this; cases this
      generalize upd H4 r (.lst (byKeys ltI ((full ps).map (·.1)) ys)) = H5 at s24 hS er
      generalize byKeys ltI ((full ps).map (·.1)) ys = zs at hS er
      generalize hSe : iSort lt1 (full ps) = S at hS
      have hSm : ∀ q ∈ S, q.1 < q.2 := fun q hq => (full_mem (iSort_mem.mp (by rw [hSe]; exact hq))).2
      have hSs : S.Pairwise fun p q => p.1 ≤ q.1 := by rw [← hSe]; exact srt1
      have hSl : S.length ≤ ps.length := by rw [← hSe, iSort_len]; exact hfl
      have hzl := hS.len
      walk_at "s"
      refine ⟨⟨zs, SqL.of er⟩, ?_⟩
      refine for_list (K := K) (a := r) (xs := zs) (fun i σ H' => ∃ (w2 : Option V) (ts : List V), σ = [some (.ref p), some (.int ap), w2, some (.ref D), some (.ref t)] ∧ H' t = some (.lst ts) ∧ StrsAt T.CStretch H' ts (mrgs ap (S.take i)).reverse ∧ StrsAt T.CStretch H' zs S ∧ H' r = some (.lst zs) ∧ Sm (TT T) H H')
        ⟨_, [], rfl, s24.at et2, .nil, hS, er, s2.trans s24⟩ (fun i σ H' _ ⟨_, _, _, _, _, _, z, _⟩ => SqL.of z) ?_ ?_
      · rintro i x σ H6 hxi ⟨w2, ts, rfl, et, hts, hz', er6, s6⟩
        obtain ⟨o, a, b, rfl, hpi, ho⟩ := hz'.at hxi
        have hi : i < zs.length := (List.getElem?_eq_some_iff.mp hxi).1
        have hab := hSm _ (List.mem_of_getElem? hpi)
        have htl := hts.len
        have hml : (mrgs ap (S.take i)).length ≤ (S.take i).length := mrgs_le _
        rw [List.length_take] at hml
        rw [List.length_reverse] at htl
        rw [mrgs_succ hpi]
        have hcov := (covR_mrgs h0 (fun q hq => hSm q (List.mem_of_mem_take hq)) (hSs.sublist (List.take_sublist i S))).list h0
        have app : StrsAt T.CStretch H6 (ts ++ [.ref o]) ((mrgs ap (S.take i)).reverse ++ [(a, b)]) := hts.snoc ho
        -- told.append
        have addS : mrg ap (mrgs ap (S.take i)) (a, b) = (a, b) :: mrgs ap (S.take i) → ∃ (w2' : Option V) (ts' : List V), [some (.ref p), some (.int ap), some (.ref o), some (.ref D), some (.ref t)] = [some (.ref p), some (.int ap), w2', some (.ref D), some (.ref t)] ∧ (upd H6 t (.lst (ts ++ [.ref o]))) t = some (.lst ts') ∧ StrsAt T.CStretch (upd H6 t (.lst (ts ++ [.ref o]))) ts' (mrg ap (mrgs ap (S.take i)) (a, b)).reverse ∧ StrsAt T.CStretch (upd H6 t (.lst (ts ++ [.ref o]))) zs S ∧ (upd H6 t (.lst (ts ++ [.ref o]))) r = some (.lst zs) ∧ Sm (TT T) H (upd H6 t (.lst (ts ++ [.ref o]))) := fun e =>
          ⟨_, _, rfl, upd_same, by rw [e, List.reverse_cons]; exact app.upd et, hz'.upd et, by rw [upd_ne ntr]; exact er6, s6.lst ht0 et⟩
        walk_at "s"
        refine ⟨!ts.isEmpty, .inl ⟨_, SqL.of et, rfl⟩, ?_⟩
        generalize hacc : mrgs ap (S.take i) = acc at hts app addS hcov htl hml
        cases acc with
        | nil =>
          cases hts
          rw [show (!([] : List V).isEmpty) = false from rfl]
          walk_at "s"
          refine ⟨.inl ⟨rfl, _, SqL.of et⟩, ?_⟩
          walk_at "s"
          exact ⟨t, _, _, rfl, rfl, et, lt_line (by decide), addS rfl⟩
        | cons qr r0 =>
          obtain ⟨f1, t1⟩ := qr
          rw [List.reverse_cons] at hts
          obtain ⟨ts0, y, rfl, h1, p1, rfl, hp1⟩ := paired_snoc_inv hts
          rw [show (!(ts0 ++ [V.ref p1]).isEmpty) = true by cases ts0 <;> rfl]
          walk_at "s"
          refine i_first T ho ?_
          walk_at "s"
          refine i_ixLast (SqL.of et) ?_
          refine i_behind T hp1 ?_
          walk_at "s"
          have hff : f1 ≤ t1 := Int.le_of_lt (hcov.1 (f1, t1) List.mem_cons_self).1
          have htm : t1 ≤ max t1 b := Int.le_max_left _ _
          refine ite2 (fun c1 => ?_) (fun c1 => ?_)
          · have c2 : a - t1 ≤ ap := of_decide_eq_true c1
            walk_at "s"
            refine i_ixLast (SqL.of et) ?_
            refine i_first T hp1 ?_
            walk_at "s"
            refine i_ixLast (SqL.of et) ?_
            refine i_behind T hp1 ?_
            walk_at "s"
            refine i_behind T ho ?_
            walk_at "s"
            refine mkStr (a := f1) (b := max t1 b) (y := .int (if b > t1 then b else t1)) (.inl (congrArg V.int (if_max _ _))) (by omega) fun z H7 hz hz7 s7 => ?_
            have et7 := s7 _ _ et
            walk_at "s"
            refine i_setLast et7 ?_
            refine ⟨_, _, rfl, upd_same, ?_, (hz'.same s7).upd et7, by rw [upd_ne ntr]; exact s7 _ _ er6, (s6.trans s7.sm).lst ht0 et7⟩
            rw [show mrg ap ((f1, t1) :: r0) (a, b) = (f1, max t1 b) :: r0 from if_pos c2, List.reverse_cons]
            exact (StrsAt.snoc (StrsAt.same h1 s7) hz7).upd et7
          · have c2 : ¬ a - t1 ≤ ap := fun z => c1 (decide_eq_true z)
            walk_at "s"
            refine ⟨.inl ⟨rfl, _, SqL.of et⟩, ?_⟩
            walk_at "s"
            exact ⟨t, _, _, rfl, rfl, et, lt_line (by omega), addS (if_neg c2)⟩
      · rintro σ H6 ⟨w2, ts, rfl, et, hts, hz, er6, s6⟩
        rw [hzl, List.take_length] at hts
        walk_at "s"
        refine q t ts H6 s6 ht0 et ?_
        unfold jnd
        rw [hSe]; exact hts
end
set_option maxHeartbeats 8000000
local macro_rules | `(tactic| walk_at "c") => `(tactic| first | omega | decide | exact ⟨by omega, by omega⟩ | exact ⟨by decide, by decide⟩ | exact .inl ⟨by omega, by omega⟩ | exact .inr ⟨by omega, by omega⟩ | exact ⟨by omega, by omega, by omega⟩ | exact ⟨by decide, by decide, by decide⟩ | exact le_line (Nat.le_of_ble_eq_true rfl))
local macro_rules | `(tactic| walk_at "a") => `(tactic| with_reducible (first | refine i_seq ?_ | refine i_asg ?_ | refine i_cons ?_ | refine i_c ?_ | refine i_nil ?_ | refine i_op ?_ | refine i_call ?_ | refine i_cb ?_ | refine i_name ?_ | refine i_next ?_ | refine i_ret ?_ | refine i_drop ?_ | refine i_if ?_ | refine i_test ?_ | refine i_and ?_ | refine i_or ?_ | refine i_not ?_ | refine i_ite ?_ | refine i_lst ?_ | refine i_tup ?_ | refine i_bm ?_ | refine i_un ?_ | refine i_par ?_ | refine i_gsub ?_ | refine i_chain ?_ | refine i_sl ?_ | refine i_nopart ?_ | refine i_part ?_ | refine i_m1 ?_ | refine i_m0 ?_ | refine i_lc ?_ | refine i_iList ?_ | refine i_iTup ?_ | refine i_iStr ?_ | refine i_r1 ?_ | refine i_set ?_ | refine i_callk ?_ | refine i_callN ?_ | refine i_ckw ?_ | refine i_revL ?_ | refine i_tB ?_ | refine i_fld ?_ | refine i_sfld ?_ | refine i_make ?_ | refine i_makeN ?_ | refine i_meth ?_ | refine i_andV ?_ | refine i_orV ?_ | refine i_notV ?_ | refine iteT ?_ | refine iteF ?_ | refine i_yes ?_))
local macro_rules | `(tactic| walk_at "s") => `(tactic| repeat (first | walk_at "a" | refine i_var rfl ?_ | refine i_aug rfl ?_ | refine And.intro ⟨_, rfl⟩ ?_ | refine ⟨_, rfl, ?_⟩ | refine ⟨_, _, rfl, rfl, ?_⟩ | refine ⟨_, _, rfl, ?_⟩ | refine ⟨rfl, ?_⟩ | refine And.intro (by walk_at "c") ?_))
/-! ### gaps -/
section
open LamX (Tabs)
theorem if_min (x y : Int) : (if x < y then x else y) = min y x := by
  rw [Int.min_def]; split <;> split <;> omega
theorem jnd_cov {ps : List (Int × Int)} : CovR 0 (Cov ps) (jnd 0 ps).reverse := by
  unfold jnd
  rw [List.reverse_reverse]
  refine (covR_mrgs (Int.le_refl 0) (l := iSort lt1 (full ps)) (fun p hp => (full_mem (iSort_mem.mp hp)).2) srt1).congr fun x => ?_
  unfold Cov
  constructor
  · rintro ⟨p, hp, h⟩
    exact ⟨p, (full_mem (iSort_mem.mp hp)).1, h⟩
  · rintro ⟨p, hp, h1, h2⟩
    exact ⟨p, iSort_mem.mpr (List.mem_filter.mpr ⟨hp, decide_eq_true (by omega)⟩), h1, h2⟩
theorem jnd_ok {ps : List (Int × Int)} : (∀ p ∈ jnd 0 ps, p.1 < p.2 ∧ Cov ps p.1 ∧ Cov ps (p.2 - 1)) ∧ (jnd 0 ps).Pairwise (fun p q => p.2 < q.1) ∧ ∀ x, Cov (jnd 0 ps) x ↔ Cov ps x := by
  obtain ⟨h1, h2, h3⟩ := jnd_cov (ps := ps) |>.list (Int.le_refl 0)
  have h4 := jnd_cov (ps := ps) |>.just
  have cr : ∀ x, Cov (jnd 0 ps).reverse x ↔ Cov (jnd 0 ps) x := fun x => by
    unfold Cov
    exact ⟨fun ⟨p, hp, z⟩ => ⟨p, List.mem_reverse.mp hp, z⟩, fun ⟨p, hp, z⟩ => ⟨p, List.mem_reverse.mpr hp, z⟩⟩
  refine ⟨fun p hp => h1 p (List.mem_reverse.mpr hp), ?_, fun x => ⟨fun z => h4 x ((cr x).mpr z), fun z => (cr x).mp (h3 x z)⟩⟩
  have := List.pairwise_reverse.mp h2
  exact this.imp fun {p q} z => by omega
theorem jnd_len {ap : Int} {ps : List (Int × Int)} : (jnd ap ps).length ≤ ps.length := by
  unfold jnd
  rw [List.length_reverse]
  refine Nat.le_trans (mrgs_le _) ?_
  rw [iSort_len]
  exact List.length_filter_le _ _
theorem jnd_in {ps : List (Int × Int)} {lo hi : Int} (h : ∀ p ∈ ps, lo ≤ p.1 ∧ p.2 ≤ hi) : ∀ p ∈ jnd 0 ps, lo ≤ p.1 ∧ p.2 ≤ hi := fun p hp => by
  obtain ⟨_, ⟨a, ha, x1, x2⟩, ⟨b, hb, y1, y2⟩⟩ := jnd_ok.1 p hp
  have := h a ha
  have := h b hb
  omega
/-- what gaps tells -/
def gps (ps : List (Int × Int)) (a b : Int) : List (Int × Int) := (gend b (gfold b a (jnd 0 ps))).reverse
theorem gps_inv (ps : List (Int × Int)) (a b : Int) {i : Nat} (hi : i ≤ (jnd 0 ps).length) : GInv a b ((jnd 0 ps).take i) (gfold b a ((jnd 0 ps).take i)) := ginv (fun p hp => (jnd_ok.1 p hp).1) jnd_ok.2.1 i hi
theorem gps_cov (ps : List (Int × Int)) (a b : Int) : CovR 0 (fun x => a ≤ x ∧ x < b ∧ ¬ Cov ps x) (gps ps a b).reverse := by
  unfold gps
  rw [List.reverse_reverse]
  have g := gps_inv ps a b (Nat.le_refl _)
  rw [List.take_length] at g
  exact (gend_ok g).congr fun x => by rw [jnd_ok.2.2 x]
theorem gps_len (ps : List (Int × Int)) (a b : Int) : (gps ps a b).length ≤ ps.length + 1 := by
  unfold gps
  have g := gps_inv ps a b (Nat.le_refl _)
  rw [List.take_length] at g
  have h1 := g.len
  have h2 := jnd_len (ap := 0) (ps := ps)
  rw [List.length_reverse]
  unfold gend
  split
  · rw [List.length_cons]; omega
  · omega
theorem gfold_succ {a b : Int} {J : List (Int × Int)} {i : Nat} {p : Int × Int} (e : J[i]? = some p) : gfold b a (J.take (i + 1)) = gstep b (gfold b a (J.take i)) p := by
  rw [List.take_succ, e]
  exact gfold_snoc _ _
def slen (l : List (Int × Int)) : Int := (l.map fun p => p.2 - p.1).sum
/-- a promise of a def that tells a new list of stretches -/
def spGaps (K : PySem.W.Frag) (C : Addr) (TT : List (Addr × Str)) : Sp := fun vs H Q _ => ∃ (p o : Addr) (a b : Int) (xs : List V) (ps : List (Int × Int)), vs = [.ref p, .ref o] ∧ SqL K H p xs ∧ StrsAt C H xs ps ∧ StrAt C H o a b ∧ a ≤ b ∧ ps.length ≤ 30000 ∧ (∀ q ∈ ps, q.1 ≤ q.2 ∧ q.2 - q.1 < 2 ^ 61) ∧ Tabs TT H ∧
  ∀ r ys H', Sm TT H H' → H r = none → H' r = some (.lst ys) → StrsAt C H' ys (gps ps a b) → Q (.ref r) H'
variable {P : Program} {w : World} {K : PySem.W.Frag} {mg : Str → Option Value} {base : Heap} (T : Ev K mg base)
theorem okgaps : FnOk P w K mg base CX0 6 T.fgaps T.fdgaps ["some", "within"] (spGaps K T.CStretch (TT T)) := by
  refine T.Fgaps.ok scGaps (fun vs H Q E h => ?_) (fun cdv A outer s H vs Q E hr h => ?_)
  · obtain ⟨p, o, a, b, xs, ps, rfl, _⟩ := h
    rfl
  · obtain ⟨p, o, a, b, xs, ps, rfl, hp, hx, ho, hab, hl, hb, tt, q⟩ := h
    refine ⟨_,
      (pss_cons (ps_set (i := 2) scGaps.nd rfl (.inl rfl) (pe_lst pa_nil))
      (pss_cons (ps_set (i := 3) scGaps.nd rfl (.inl rfl) (pe_fld (pv 1) rfl))
      (pss_cons (ps_for PassesOwn.never rfl (pi_list (pe_callN (okjoined T) (hr.mono (by decide)) (by rfl) T.gjoined T.Fjoined.kp (kb_joined_1 T).choose_spec pass0 (pa_cons (pv 0) pa_nil) pk_nil)) (pg_name (i := 4) scGaps.nd rfl (.inl rfl))
      (pss_cons (ps_set (i := 5) scGaps.nd rfl (.inl rfl) (pe_callB (call_min2 rfl) (by rfl) T.mmin (by decide +kernel) (pa_cons (pe_fld (pv 4) rfl) (pa_cons (pe_fld (pv 1) rfl) pa_nil))))
      (pss_cut (ps_if (pt_cmpR op_lt (pv 3) (pv 5) (nomark _))
      (pss_one (ps_expr (pe_bm PySem.F.plainAttrs_list PySem.F.slot_list_append PySem.F.type_list_append mt_append (pv 2) (pa_cons (pe_makeN (mk_Stretch T) (okStretch___init__ T) (hr.mono (by decide)) (by rfl) T.gCStretch (kb_Stretch___init___3 T).choose_spec pass0 (pa_cons (pv 3) (pa_cons (pv 5) pa_nil)) pk_nil) pa_nil))))
      pss_nil)
      (pss_one (ps_set (i := 3) scGaps.nd rfl (.inl rfl) (pe_callB (call_max2 rfl) (by rfl) T.mmax (by decide +kernel) (pa_cons (pv 3) (pa_cons (pe_fld (pv 4) rfl) pa_nil))))))))
      (pss_cut (ps_if (pt_cmpR op_lt (pv 3) (pe_fld (pv 1) rfl) (nomark _))
      (pss_one (ps_expr (pe_bm PySem.F.plainAttrs_list PySem.F.slot_list_append PySem.F.type_list_append mt_append (pv 2) (pa_cons (pe_makeN (mk_Stretch T) (okStretch___init__ T) (hr.mono (by decide)) (by rfl) T.gCStretch (kb_Stretch___init___3 T).choose_spec pass0 (pa_cons (pv 3) (pa_cons (pe_fld (pv 1) rfl) pa_nil)) pk_nil) pa_nil))))
      pss_nil)
      (pss_one (ps_ret (pv 2)))))))
      , ?_⟩
    have hxl := hx.len
    walk_at "s"
    intro t ht
    have s01 : Sm (TT T) H (upd H t (.lst [])) := sm_upd ht
    have et : (upd H t (.lst [])) t = some (.lst []) := upd_same
    generalize upd H t (.lst []) = H1 at s01 et
    walk_at "s"
    refine i_first T (ho.sm s01) ?_
    walk_at "s"
    refine ⟨p, 0, xs, ps, rfl, Int.le_refl 0, sqL_sm hp s01, hx.sm s01, by omega, hb, s01.2.1 tt, fun r zs H2 s12 nr er hz => ?_⟩
    have s02 := s01.trans s12
    have ntr : r ≠ t := fun z => by rw [z, et] at nr; cases nr
    have hzl := hz.len
    have hjl := jnd_len (ap := 0) (ps := ps)
    refine ⟨r, rfl, ⟨zs, SqL.of er⟩, ?_⟩
    refine for_list (K := K) (a := r) (xs := zs) (fun i σ H' => ∃ (w4 w5 : Option V) (ts : List V), σ = [some (.ref p), some (.ref o), some (.ref t), some (.int (gfold b a ((jnd 0 ps).take i)).1), w4, w5] ∧ H' t = some (.lst ts) ∧ StrsAt T.CStretch H' ts (gfold b a ((jnd 0 ps).take i)).2.reverse ∧ StrsAt T.CStretch H' zs (jnd 0 ps) ∧ H' r = some (.lst zs) ∧ Sm (TT T) H H')
      ⟨_, _, [], rfl, s12.at et, .nil, hz, er, s02⟩ (fun i σ H' _ ⟨_, _, _, _, _, _, _, z, _⟩ => SqL.of z) ?_ ?_
    · rintro i x σ H3 hxi ⟨w4, w5, ts, rfl, et3, hts, hz3, er3, s03⟩
      obtain ⟨y, f, g, rfl, hpi, hy⟩ := hz3.at hxi
      have hi : i < zs.length := (List.getElem?_eq_some_iff.mp hxi).1
      have gi := gps_inv ps a b (i := i) (by omega)
      have gl := gi.len
      rw [List.length_take] at gl
      have htl := hts.len
      rw [List.length_reverse] at htl
      rw [gfold_succ hpi]
      generalize gfold b a ((jnd 0 ps).take i) = st at hts gi gl htl
      obtain ⟨h, acc⟩ := st
      have ho3 := ho.sm s03
      have ht0 : H t = none := ht
      walk_at "s"
      refine i_first T hy ?_
      walk_at "s"
      refine i_behind T ho3 ?_
      walk_at "s"
      rw [if_min]
      refine ⟨fun σ H' => ∃ ts', σ = [some (.ref p), some (.ref o), some (.ref t), some (.int h), some (.ref y), some (.int (min f b))] ∧ H' t = some (.lst ts') ∧ StrsAt T.CStretch H' ts' (gstep b (h, acc) (f, g)).2.reverse ∧ StrsAt T.CStretch H' zs (jnd 0 ps) ∧ H' r = some (.lst zs) ∧ Sm (TT T) H H', ?_, ?_⟩
      · walk_at "s"
        refine ite2 (fun c1 => ?_) (fun c1 => ?_)
        · have c2 : h < min f b := of_decide_eq_true c1
          have e2 : (gstep b (h, acc) (f, g)).2 = (h, min f b) :: acc := if_pos c2
          walk_at "s"
          refine ⟨.inl ⟨rfl, _, SqL.of et3⟩, ?_⟩
          walk_at "s"
          refine mkStr (a := h) (b := min f b) (y := .int (min f b)) (.inl rfl) (Int.le_of_lt c2) fun z H4 hz hz4 s34 => ?_
          walk_at "s"
          have et4 := s34 _ _ et3
          refine ⟨t, _, _, rfl, rfl, et4, lt_line (by omega), _, rfl, upd_same, ?_, (hz3.same s34).upd et4, by rw [upd_ne ntr]; exact s34 _ _ er3, (s03.trans s34.sm).lst ht0 et4⟩
          rw [e2, List.reverse_cons]
          exact ((hts.same s34).snoc hz4).upd et4
        · have c2 : ¬ h < min f b := fun z => c1 (decide_eq_true z)
          have e2 : (gstep b (h, acc) (f, g)).2 = acc := if_neg c2
          walk_at "s"
          exact ⟨ts, rfl, et3, by rw [e2]; exact hts, hz3, er3, s03⟩
      rintro σ H4 ⟨ts', rfl, et4, hts4, hz4, er4, s04⟩
      obtain ⟨y', f', g', ey, hpi', hy4⟩ := hz4.at hxi
      rw [hpi] at hpi'
      cases hpi'
      cases ey
      walk_at "s"
      refine i_behind T hy4 ?_
      walk_at "s"
      rw [if_max]
      exact ⟨_, _, ts', rfl, et4, hts4, hz4, er4, s04⟩
    · rintro σ H3 ⟨w4, w5, ts, rfl, et3, hts, hz3, er3, s03⟩
      rw [hzl, List.take_length] at hts ⊢
      have gi := gps_inv ps a b (Nat.le_refl _)
      rw [List.take_length] at gi
      have gl := gi.len
      have htl := hts.len
      rw [List.length_reverse] at htl
      have eg : gps ps a b = (gend b (gfold b a (jnd 0 ps))).reverse := rfl
      generalize gfold b a (jnd 0 ps) = st at hts gl htl eg
      obtain ⟨h, acc⟩ := st
      have ho3 := ho.sm s03
      walk_at "s"
      refine ⟨fun σ H' => ∃ (w4 w5 : Option V) (ts : List V), σ = [some (.ref p), some (.ref o), some (.ref t), some (.int h), w4, w5] ∧ H' t = some (.lst ts) ∧ StrsAt T.CStretch H' ts (gps ps a b) ∧ Sm (TT T) H H', ?_, ?_⟩
      · walk_at "s"
        refine i_behind T ho3 ?_
        walk_at "s"
        refine ite2 (fun c1 => ?_) (fun c1 => ?_)
        · have c2 : h < b := of_decide_eq_true c1
          have e2 : gend b (h, acc) = (h, b) :: acc := if_pos c2
          walk_at "s"
          refine ⟨.inl ⟨rfl, _, SqL.of et3⟩, ?_⟩
          walk_at "s"
          refine i_behind T ho3 ?_
          walk_at "s"
          refine mkStr (a := h) (b := b) (y := .int b) (.inl rfl) (Int.le_of_lt c2) fun z H4 hz hz4 s34 => ?_
          walk_at "s"
          have et4 := s34 _ _ et3
          refine ⟨t, _, _, rfl, rfl, et4, lt_line (by omega), _, _, _, rfl, upd_same, ?_, (s03.trans s34.sm).lst ht et4⟩
          rw [eg, e2, List.reverse_cons]
          exact ((hts.same s34).snoc hz4).upd et4
        · have c2 : ¬ h < b := fun z => c1 (decide_eq_true z)
          have e2 : gend b (h, acc) = acc := if_neg c2
          walk_at "s"
          exact ⟨_, _, ts, rfl, et3, by rw [eg, e2]; exact hts, s03⟩
      clear w4 w5 ts et3 hts htl
      rintro σ H4 ⟨w4, w5, ts, rfl, et4, hts4, s04⟩
      walk_at "s"
      exact q t ts H4 s04 ht et4 hts4
end
/-! ### lists of stretches side by side -/
section
/-- rising, none empty, more than ap apart -/
def Canon (ap : Int) (l : List (Int × Int)) : Prop := (∀ p ∈ l, p.1 < p.2) ∧ l.Pairwise fun p q => p.2 + ap < q.1
theorem canon_covR {ap : Int} (h0 : 0 ≤ ap) : ∀ (l : List (Int × Int)), (∀ p ∈ l, p.1 < p.2) → l.Pairwise (fun p q => q.2 + ap < p.1) → CovR ap (Cov l) l
  | [], _, _ => fun x ⟨p, hp, _⟩ => by cases hp
  | (f, t) :: r, h1, h2 => by
    obtain ⟨h3, h4⟩ := List.pairwise_cons.mp h2
    have hft : f < t := h1 _ List.mem_cons_self
    have low : ∀ x, Cov r x → x + ap < f - 0 ∧ x < f := fun x ⟨q, hq, q1, q2⟩ => by
      have : q.2 + ap < f := h3 q hq
      omega
    have here : ∀ x, f ≤ x → (Cov ((f, t) :: r) x ↔ x < t) := fun x hx => by
      constructor
      · rintro ⟨q, hq, q1, q2⟩
        rcases List.mem_cons.mp hq with rfl | hq
        · exact q2
        · have := low x ⟨q, hq, q1, q2⟩; omega
      · intro z
        exact ⟨_, List.mem_cons_self, hx, z⟩
    refine ⟨hft, (here f (Int.le_refl _)).mpr hft, (here _ (by omega)).mpr (by omega), fun x hx z => by have := (here x (by omega)).mp z; omega, fun m m1 m2 => ⟨m, Int.le_refl _, by omega, (here m m1).mpr (by omega)⟩, fun x x1 x2 => ?_, (canon_covR h0 r (fun p hp => h1 p (List.mem_cons_of_mem _ hp)) h4).congr fun x => ?_⟩
    · rintro ⟨q, hq, q1, q2⟩
      rcases List.mem_cons.mp hq with rfl | hq
      · dsimp only at q1; omega
      · have : q.2 + ap < f := h3 q hq
        omega
    · constructor
      · rintro ⟨q, hq, z⟩
        exact ⟨⟨q, List.mem_cons_of_mem _ hq, z⟩, (low x ⟨q, hq, z⟩).2⟩
      · rintro ⟨⟨q, hq, q1, q2⟩, z⟩
        rcases List.mem_cons.mp hq with rfl | hq
        · dsimp only at q1; omega
        · exact ⟨q, hq, q1, q2⟩
theorem cov_reverse (l : List (Int × Int)) (x : Int) : Cov l.reverse x ↔ Cov l x := by
  unfold Cov
  exact ⟨fun ⟨p, hp, z⟩ => ⟨p, List.mem_reverse.mp hp, z⟩, fun ⟨p, hp, z⟩ => ⟨p, List.mem_reverse.mpr hp, z⟩⟩
theorem Canon.covR {ap : Int} (h0 : 0 ≤ ap) {l : List (Int × Int)} (h : Canon ap l) : CovR ap (Cov l) l.reverse :=
  (canon_covR h0 l.reverse (fun p hp => h.1 p (List.mem_reverse.mp hp)) (List.pairwise_reverse.mpr h.2)).congr fun x => cov_reverse l x
theorem CovR.canon {ap : Int} (h0 : 0 ≤ ap) {l : List (Int × Int)} {P : Int → Prop} (h : CovR ap P l.reverse) : Canon ap l := by
  obtain ⟨h1, h2, _⟩ := h.list h0
  exact ⟨fun p hp => (h1 p (List.mem_reverse.mpr hp)).1, List.pairwise_reverse.mp h2⟩
theorem jnd_covR {ap : Int} (h0 : 0 ≤ ap) {ps : List (Int × Int)} : CovR ap (Cov ps) (jnd ap ps).reverse := by
  unfold jnd
  rw [List.reverse_reverse]
  refine (covR_mrgs h0 (l := iSort lt1 (full ps)) (fun p hp => (full_mem (iSort_mem.mp hp)).2) srt1).congr fun x => ?_
  unfold Cov
  constructor
  · rintro ⟨p, hp, h⟩
    exact ⟨p, (full_mem (iSort_mem.mp hp)).1, h⟩
  · rintro ⟨p, hp, h1, h2⟩
    exact ⟨p, iSort_mem.mpr (List.mem_filter.mpr ⟨hp, decide_eq_true (by omega)⟩), h1, h2⟩
theorem jnd_canon {ap : Int} (h0 : 0 ≤ ap) {ps : List (Int × Int)} : Canon ap (jnd ap ps) := (jnd_covR h0).canon h0
/-- put together once more, nothing changes -/
theorem canon_jnd {ap : Int} (h0 : 0 ≤ ap) {l : List (Int × Int)} (h : Canon ap l) : jnd ap l = l :=
  List.reverse_inj.mp (CovR.one h0 (jnd_covR h0) (h.covR h0))
theorem jnd_jnd {ap : Int} (h0 : 0 ≤ ap) {ps : List (Int × Int)} : jnd ap (jnd ap ps) = jnd ap ps := canon_jnd h0 (jnd_canon h0)
theorem gps_jnd {ps : List (Int × Int)} {a b : Int} : gps (jnd 0 ps) a b = gps ps a b :=
  List.reverse_inj.mp (CovR.one (Int.le_refl 0) (gps_cov (jnd 0 ps) a b) ((gps_cov ps a b).congr fun x => by rw [jnd_ok.2.2 x]))
theorem gps_canon {ps : List (Int × Int)} {a b : Int} : Canon 0 (gps ps a b) := (gps_cov ps a b).canon (Int.le_refl 0)
theorem gps_in {ps : List (Int × Int)} {a b : Int} : (∀ p ∈ gps ps a b, p.1 < p.2 ∧ a ≤ p.1 ∧ p.2 ≤ b ∧ ∀ x, p.1 ≤ x → x < p.2 → ¬ Cov ps x) ∧ ∀ x, a ≤ x → x < b → ¬ Cov ps x → Cov (gps ps a b) x := by
  have c := gps_cov ps a b
  obtain ⟨h1, _, h3⟩ := c.list (Int.le_refl 0)
  have h4 := c.just
  refine ⟨fun p hp => ?_, fun x x1 x2 x3 => (cov_reverse _ x).mp (h3 x ⟨x1, x2, x3⟩)⟩
  obtain ⟨y1, y2, y3⟩ := h1 p (List.mem_reverse.mpr hp)
  exact ⟨y1, y2.1, by have := y3.2.1; omega, fun x x1 x2 => (h4 x ⟨p, List.mem_reverse.mpr hp, x1, x2⟩).2.2⟩
/-- what the parts have within -/
def cutP (a b : Int) (p : Int × Int) : Option (Int × Int) := if max p.1 a < min p.2 b then some (max p.1 a, min p.2 b) else none
def kept (J : List (Int × Int)) (a b : Int) : List (Int × Int) := J.filterMap (cutP a b)
theorem kept_mem {J : List (Int × Int)} {a b : Int} {q : Int × Int} : q ∈ kept J a b ↔ ∃ p ∈ J, max p.1 a < min p.2 b ∧ q = (max p.1 a, min p.2 b) := by
  unfold kept cutP
  rw [List.mem_filterMap]
  constructor
  · rintro ⟨p, hp, e⟩
    split at e
    · rename_i c
      cases e
      exact ⟨p, hp, c, rfl⟩
    · cases e
  · rintro ⟨p, hp, c, rfl⟩
    exact ⟨p, hp, if_pos c⟩
theorem mx_mn (x y a b : Int) : (max x a < min y b ↔ x < y ∧ x < b ∧ a < y ∧ a < b) ∧ x ≤ max x a ∧ a ≤ max x a ∧ min y b ≤ y ∧ min y b ≤ b ∧ (max x a = x ∨ max x a = a) ∧ (min y b = y ∨ min y b = b) := by
  rw [Int.max_def, Int.min_def]
  split <;> split <;> omega
theorem kept_cov {J : List (Int × Int)} {a b x : Int} : Cov (kept J a b) x ↔ Cov J x ∧ a ≤ x ∧ x < b := by
  unfold Cov
  constructor
  · rintro ⟨q, hq, x1, x2⟩
    obtain ⟨p, hp, c, rfl⟩ := kept_mem.mp hq
    dsimp only at x1 x2
    obtain ⟨_, z1, z2, z3, z4, _⟩ := mx_mn p.1 p.2 a b
    exact ⟨⟨p, hp, by omega, by omega⟩, by omega, by omega⟩
  · rintro ⟨⟨p, hp, x1, x2⟩, y1, y2⟩
    obtain ⟨z0, z1, z2, z3, z4, z5, z6⟩ := mx_mn p.1 p.2 a b
    exact ⟨_, kept_mem.mpr ⟨p, hp, z0.mpr (by omega), rfl⟩, by dsimp only; omega, by dsimp only; omega⟩
theorem kept_canon {J : List (Int × Int)} {a b : Int} (h : Canon 0 J) : Canon 0 (kept J a b) := by
  refine ⟨fun q hq => ?_, ?_⟩
  · obtain ⟨p, hp, c, rfl⟩ := kept_mem.mp hq
    exact c
  · refine List.pairwise_filterMap.mpr (h.2.imp ?_)
    intro p q hpq u hu v hv
    unfold cutP at hu hv
    split at hu
    · split at hv
      · cases hu
        cases hv
        obtain ⟨_, z1, z2, z3, z4, _⟩ := mx_mn p.1 p.2 a b
        obtain ⟨_, y1, y2, y3, y4, _⟩ := mx_mn q.1 q.2 a b
        dsimp only
        omega
      · cases hv
    · cases hu
/-- side by side, from a on, to b -/
def Chain (a b : Int) : List (Int × Int) → Prop
  | [] => a = b
  | p :: r => p.1 = a ∧ p.1 < p.2 ∧ Chain p.2 b r
theorem chain_of : ∀ (L : List (Int × Int)) (a b : Int), a ≤ b → (∀ p ∈ L, p.1 < p.2 ∧ a ≤ p.1 ∧ p.2 ≤ b) → L.Pairwise (fun p q => p.1 ≤ q.1) → L.Pairwise (fun p q => ∀ x, ¬ (p.1 ≤ x ∧ x < p.2 ∧ q.1 ≤ x ∧ x < q.2)) → (∀ x, a ≤ x → x < b → Cov L x) → Chain a b L
  | [], a, b, hab, _, _, _, hc => by
    by_cases c : a < b
    · obtain ⟨p, hp, _⟩ := hc a (Int.le_refl _) c
      cases hp
    · show a = b
      omega
  | p :: r, a, b, hab, h1, h2, h3, hc => by
    obtain ⟨s1, s2⟩ := List.pairwise_cons.mp h2
    obtain ⟨d1, d2⟩ := List.pairwise_cons.mp h3
    obtain ⟨p1, p2, p3⟩ := h1 p List.mem_cons_self
    obtain ⟨q, hq, q1, q2⟩ := hc a (Int.le_refl _) (by omega)
    have hpa : p.1 = a := by
      rcases List.mem_cons.mp hq with rfl | hq
      · omega
      · have := s1 q hq; omega
    refine ⟨hpa, p1, chain_of r p.2 b p3 (fun z hz => ?_) s2 d2 fun x x1 x2 => ?_⟩
    · obtain ⟨z1, z2, z3⟩ := h1 z (List.mem_cons_of_mem _ hz)
      have := s1 z hz
      have := d1 z hz z.1
      exact ⟨z1, by omega, z3⟩
    · obtain ⟨z, hz, z1, z2⟩ := hc x (by omega) x2
      rcases List.mem_cons.mp hz with rfl | hz
      · omega
      · exact ⟨z, hz, z1, z2⟩
theorem chain_len : ∀ (L : List (Int × Int)) (a b : Int), Chain a b L → slen L = b - a
  | [], a, b, h => by
    have h : a = b := h
    rw [show slen [] = 0 from rfl]; omega
  | p :: r, a, b, ⟨h1, _, h3⟩ => by
    have e : slen (p :: r) = (p.2 - p.1) + slen r := by unfold slen; rw [List.map_cons, List.sum_cons]
    rw [e, chain_len r p.2 b h3]; omega
theorem slen_perm {l m : List (Int × Int)} (h : l.Perm m) : slen l = slen m := by
  induction h with
  | nil => rfl
  | cons x _ ih => unfold slen at ih ⊢; rw [List.map_cons, List.map_cons, List.sum_cons, List.sum_cons, ih]
  | swap x y l => unfold slen; simp only [List.map_cons, List.sum_cons]; omega
  | trans _ _ a b => rw [a, b]
/-- the rows of the law -/
theorem rows_chain {ps : List (Int × Int)} {a b : Int} (hab : a ≤ b) : Chain a b (iSort lt1 (kept (jnd 0 ps) a b ++ gps ps a b)) := by
  have kc := kept_canon (a := a) (b := b) (jnd_canon (Int.le_refl 0) (ps := ps))
  have gc := gps_canon (ps := ps) (a := a) (b := b)
  have gi := gps_in (ps := ps) (a := a) (b := b)
  have dis : ∀ {l : List (Int × Int)}, Canon 0 l → l.Pairwise (fun p q => ∀ x, ¬ (p.1 ≤ x ∧ x < p.2 ∧ q.1 ≤ x ∧ x < q.2)) := fun h => h.2.imp fun {p q} z x y => by omega
  have kd : ∀ q ∈ kept (jnd 0 ps) a b, a ≤ q.1 ∧ q.2 ≤ b ∧ ∀ x, q.1 ≤ x → x < q.2 → Cov ps x := fun q hq => by
    have hc := kc.1 q hq
    have c1 := kept_cov.mp (⟨q, hq, Int.le_refl _, hc⟩ : Cov (kept (jnd 0 ps) a b) q.1)
    have c2 := kept_cov.mp (⟨q, hq, by omega, by omega⟩ : Cov (kept (jnd 0 ps) a b) (q.2 - 1))
    exact ⟨by omega, by omega, fun x x1 x2 => (jnd_ok.2.2 x).mp (kept_cov.mp ⟨q, hq, x1, x2⟩).1⟩
  have dd : (kept (jnd 0 ps) a b ++ gps ps a b).Pairwise (fun p q => ∀ x, ¬ (p.1 ≤ x ∧ x < p.2 ∧ q.1 ≤ x ∧ x < q.2)) := by
    refine List.pairwise_append.mpr ⟨dis kc, dis gc, fun p hp q hq x z => ?_⟩
    exact (gi.1 q hq).2.2.2 x z.2.2.1 z.2.2.2 ((kd p hp).2.2 x z.1 z.2.1)
  have pm : (iSort lt1 (kept (jnd 0 ps) a b ++ gps ps a b)).Perm (kept (jnd 0 ps) a b ++ gps ps a b) := (iSort_ok swo_lt1 _).2.perm
  refine chain_of _ a b hab (fun p hp => ?_) srt1 ?_ fun x x1 x2 => ?_
  · rcases List.mem_append.mp (iSort_mem.mp hp) with h | h
    · exact ⟨kc.1 p h, (kd p h).1, (kd p h).2.1⟩
    · have := gi.1 p h
      exact ⟨this.1, this.2.1, this.2.2.1⟩
  · exact (pm.pairwise_iff (fun {p q} h x z => h x ⟨z.2.2.1, z.2.2.2, z.1, z.2.1⟩)).mpr dd
  · by_cases c : Cov ps x
    · obtain ⟨q, hq, z⟩ := kept_cov.mpr ⟨(jnd_ok.2.2 x).mpr c, x1, x2⟩
      exact ⟨q, iSort_mem.mpr (List.mem_append_left _ hq), z⟩
    · obtain ⟨q, hq, z⟩ := gi.2 x x1 x2 c
      exact ⟨q, iSort_mem.mpr (List.mem_append_right _ hq), z⟩
theorem part_sum {ps : List (Int × Int)} {a b : Int} (hab : a ≤ b) : slen (jnd 0 (kept (jnd 0 ps) a b)) + slen (jnd 0 (gps ps a b)) = b - a := by
  have e : ∀ l m : List (Int × Int), slen (l ++ m) = slen l + slen m := fun l m => by unfold slen; rw [List.map_append, List.sum_append_int]
  rw [canon_jnd (Int.le_refl 0) (kept_canon (jnd_canon (Int.le_refl 0))), canon_jnd (Int.le_refl 0) gps_canon, ← e, ← slen_perm (iSort_ok swo_lt1 _).2.perm]
  exact chain_len _ a b (rows_chain hab)
theorem kept_free {ps : List (Int × Int)} {a b : Int} : ∀ p ∈ kept (jnd 0 ps) a b, ∀ q ∈ gps ps a b, ¬ max p.1 q.1 < min p.2 q.2 := by
  intro p hp q hq z
  obtain ⟨z0, z1, z2, z3, z4, z5, z6⟩ := mx_mn p.1 p.2 q.1 q.2
  have gi := (gps_in (ps := ps) (a := a) (b := b)).1 q hq
  refine gi.2.2.2 (max p.1 q.1) (by omega) (by omega) ?_
  exact (jnd_ok.2.2 _).mp (kept_cov.mp ⟨p, hp, z1, by omega⟩).1
theorem nodup_len {α : Type} [BEq α] [LawfulBEq α] : ∀ {l m : List α}, l.Nodup → (∀ x ∈ l, x ∈ m) → l.length ≤ m.length
  | [], _, _, _ => Nat.zero_le _
  | x :: r, m, hn, hs => by
    obtain ⟨h1, h2⟩ := List.nodup_cons.mp hn
    have hx := hs x List.mem_cons_self
    have := nodup_len (m := m.erase x) h2 fun y hy => by
      have hne : y ≠ x := fun e => h1 (e ▸ hy)
      exact (List.mem_erase_of_ne hne).mpr (hs y (List.mem_cons_of_mem _ hy))
    rw [List.length_erase_of_mem hx] at this
    have : 0 < m.length := List.length_pos_of_mem hx
    rw [List.length_cons]
    omega
/-- wider apart: no more of them, and each within one -/
theorem wide_len {ap : Int} (h0 : 0 ≤ ap) {ps : List (Int × Int)} : (jnd ap ps).length ≤ (jnd 0 ps).length := by
  have cw := jnd_covR h0 (ps := ps)
  have kw := jnd_canon h0 (ps := ps)
  have k0 := jnd_canon (Int.le_refl 0) (ps := ps)
  have start : ∀ {l : List (Int × Int)} {P : Int → Prop}, CovR ap P l → ∀ p ∈ l, P p.1 ∧ ¬ P (p.1 - 1) := by
    intro l
    induction l with
    | nil => intro P _ p hp; cases hp
    | cons q r ih =>
      obtain ⟨f, t⟩ := q
      rintro P ⟨a, b, c, d, e, g, k⟩ p hp
      rcases List.mem_cons.mp hp with rfl | hp
      · exact ⟨b, g _ (by omega) (by dsimp only; omega)⟩
      · obtain ⟨x1, x2⟩ := ih k p hp
        exact ⟨x1.1, fun z => x2 ⟨z, by have := x1.2; omega⟩⟩
  have sub : ∀ x ∈ (jnd ap ps).map (·.1), x ∈ (jnd 0 ps).map (·.1) := fun x hx => by
    obtain ⟨p, hp, rfl⟩ := List.mem_map.mp hx
    obtain ⟨s1, s2⟩ := start cw p (List.mem_reverse.mpr hp)
    obtain ⟨q, hq, q1, q2⟩ := (jnd_ok.2.2 _).mpr s1
    have : q.1 = p.1 := by
      by_cases c : q.1 = p.1
      · exact c
      · exact absurd ((jnd_ok.2.2 _).mp ⟨q, hq, by omega, by omega⟩) s2
    exact List.mem_map.mpr ⟨q, hq, this⟩
  have nd : ((jnd ap ps).map (·.1)).Nodup := by
    refine List.pairwise_map.mpr (List.Pairwise.imp_of_mem (fun {p q} hp hq z => ?_) kw.2)
    have := kw.1 p hp
    omega
  have := nodup_len nd sub
  rwa [List.length_map, List.length_map] at this
theorem wide_in {ap : Int} (h0 : 0 ≤ ap) {ps : List (Int × Int)} : ∀ p ∈ jnd 0 ps, ∃ w ∈ jnd ap ps, w.1 ≤ p.1 ∧ p.2 ≤ w.2 := by
  intro p hp
  have cw := jnd_covR h0 (ps := ps)
  obtain ⟨_, _, h3⟩ := cw.list h0
  have kw := jnd_canon h0 (ps := ps)
  obtain ⟨y1, y2, _⟩ := jnd_ok.1 p hp
  obtain ⟨w, hw, w1, w2⟩ := (cov_reverse _ _).mp (h3 p.1 y2)
  refine ⟨w, hw, w1, ?_⟩
  by_cases c : p.2 ≤ w.2
  · exact c
  · have cp : Cov ps w.2 := (jnd_ok.2.2 _).mp ⟨p, hp, by omega, by omega⟩
    obtain ⟨v, hv, v1, v2⟩ := (cov_reverse _ _).mp (h3 w.2 cp)
    obtain ⟨i, hi, rfl⟩ := List.mem_iff_getElem.mp hw
    obtain ⟨j, hj, rfl⟩ := List.mem_iff_getElem.mp hv
    rcases Nat.lt_trichotomy i j with z | z | z
    · have := List.pairwise_iff_getElem.mp kw.2 i j hi hj z; omega
    · subst z; omega
    · have := List.pairwise_iff_getElem.mp kw.2 j i hj hi z
      have := kw.1 _ hw
      omega
/-- each one meets just what is put together where it lies -/
theorem own_part {ps : List (Int × Int)} : ∀ p ∈ ps, p.1 < p.2 → ∃ w ∈ jnd 0 ps, max p.1 w.1 = p.1 ∧ min p.2 w.2 = p.2 := by
  intro p hp hlt
  have k0 := jnd_canon (Int.le_refl 0) (ps := ps)
  have cv : ∀ x, p.1 ≤ x → x < p.2 → Cov (jnd 0 ps) x := fun x x1 x2 => (jnd_ok.2.2 x).mpr ⟨p, hp, x1, x2⟩
  obtain ⟨w, hw, w1, w2⟩ := cv p.1 (Int.le_refl _) hlt
  refine ⟨w, hw, by rw [Int.max_def]; split <;> omega, ?_⟩
  by_cases c : p.2 ≤ w.2
  · rw [Int.min_def]; split <;> omega
  · obtain ⟨v, hv, v1, v2⟩ := cv w.2 (by omega) (by omega)
    obtain ⟨i, hi, rfl⟩ := List.mem_iff_getElem.mp hw
    obtain ⟨j, hj, rfl⟩ := List.mem_iff_getElem.mp hv
    rcases Nat.lt_trichotomy i j with z | z | z
    · have := List.pairwise_iff_getElem.mp k0.2 i j hi hj z; omega
    · subst z; omega
    · have := List.pairwise_iff_getElem.mp k0.2 j i hj hi z
      have := k0.1 _ hw
      omega
end
set_option maxHeartbeats 8000000
local macro_rules | `(tactic| walk_at "c") => `(tactic| first | omega | decide | exact ⟨by omega, by omega⟩ | exact ⟨by decide, by decide⟩ | exact .inl ⟨by omega, by omega⟩ | exact .inr ⟨by omega, by omega⟩ | exact ⟨by omega, by omega, by omega⟩ | exact ⟨by decide, by decide, by decide⟩ | exact le_line (Nat.le_of_ble_eq_true rfl))
local macro_rules | `(tactic| walk_at "a") => `(tactic| with_reducible (first | refine i_seq ?_ | refine i_asg ?_ | refine i_cons ?_ | refine i_c ?_ | refine i_nil ?_ | refine i_op ?_ | refine i_call ?_ | refine i_cb ?_ | refine i_name ?_ | refine i_next ?_ | refine i_ret ?_ | refine i_drop ?_ | refine i_if ?_ | refine i_test ?_ | refine i_and ?_ | refine i_or ?_ | refine i_not ?_ | refine i_ite ?_ | refine i_lst ?_ | refine i_tup ?_ | refine i_bm ?_ | refine i_un ?_ | refine i_par ?_ | refine i_gsub ?_ | refine i_chain ?_ | refine i_sl ?_ | refine i_nopart ?_ | refine i_part ?_ | refine i_m1 ?_ | refine i_m0 ?_ | refine i_lc ?_ | refine i_iList ?_ | refine i_iTup ?_ | refine i_iStr ?_ | refine i_r1 ?_ | refine i_set ?_ | refine i_callk ?_ | refine i_callN ?_ | refine i_ckw ?_ | refine i_revL ?_ | refine i_tB ?_ | refine i_fld ?_ | refine i_sfld ?_ | refine i_make ?_ | refine i_makeN ?_ | refine i_meth ?_ | refine i_andV ?_ | refine i_orV ?_ | refine i_notV ?_ | refine iteT ?_ | refine iteF ?_ | refine i_yes ?_))
local macro_rules | `(tactic| walk_at "s") => `(tactic| repeat (first | walk_at "a" | refine i_var rfl ?_ | refine i_aug rfl ?_ | refine And.intro ⟨_, rfl⟩ ?_ | refine ⟨_, rfl, ?_⟩ | refine ⟨_, _, rfl, rfl, ?_⟩ | refine ⟨_, _, rfl, ?_⟩ | refine ⟨rfl, ?_⟩ | refine And.intro (by walk_at "c") ?_))
/-! ### what two have: meet -/
section
def spMeet (C : Addr) : Sp := fun vs H Q _ => ∃ (p o : Addr) (a b c d : Int), vs = [.ref p, .ref o] ∧ StrAt C H p a b ∧ StrAt C H o c d ∧
  (max a c < min b d → ∀ z H', Same H H' → H z = none → StrAt C H' z (max a c) (min b d) → Q (.ref z) H') ∧ (¬ max a c < min b d → Q .non H)
variable {P : Program} {w : World} {K : PySem.W.Frag} {mg : Str → Option Value} {base : Heap} (T : Ev K mg base)
theorem okmeet : FnOk P w K mg base CX0 3 T.fmeet T.fdmeet ["one", "other"] (spMeet T.CStretch) := by
  refine T.Fmeet.ok scMeet (fun vs H Q E h => ?_) (fun cdv A outer s H vs Q E hr h => ?_)
  · obtain ⟨p, o, a, b, c, d, rfl, _⟩ := h
    rfl
  · obtain ⟨p, o, a, b, c, d, rfl, hp, ho, q1, q2⟩ := h
    refine ⟨_,
      (pss_cons (ps_set (i := 2) scMeet.nd rfl (.inl rfl) (pe_callB (call_max2 rfl) (by rfl) T.mmax (by decide +kernel) (pa_cons (pe_fld (pv 0) rfl) (pa_cons (pe_fld (pv 1) rfl) pa_nil))))
      (pss_cons (ps_set (i := 3) scMeet.nd rfl (.inl rfl) (pe_callB (call_min2 rfl) (by rfl) T.mmin (by decide +kernel) (pa_cons (pe_fld (pv 0) rfl) (pa_cons (pe_fld (pv 1) rfl) pa_nil))))
      (pss_cons (ps_if (pt_cmpR op_lt (pv 2) (pv 3) (nomark _))
      (pss_one (ps_ret (pe_makeN (mk_Stretch T) (okStretch___init__ T) (hr.mono (by decide)) (by rfl) T.gCStretch (kb_Stretch___init___3 T).choose_spec pass0 (pa_cons (pv 2) (pa_cons (pv 3) pa_nil)) pk_nil)))
      pss_nil)
      (pss_one (ps_ret pe_non)))))
      , ?_⟩
    walk_at "s"
    refine i_first T hp ?_
    walk_at "s"
    refine i_first T ho ?_
    walk_at "s"
    refine i_behind T hp ?_
    walk_at "s"
    refine i_behind T ho ?_
    walk_at "s"
    rw [if_max, if_min]
    refine ite2 (fun c1 => ?_) (fun c1 => ?_)
    · have c2 : max a c < min b d := of_decide_eq_true c1
      walk_at "s"
      refine mkStr (a := max a c) (b := min b d) (y := .int (min b d)) (.inl rfl) (Int.le_of_lt c2) fun z H4 hz hz4 s34 => ?_
      walk_at "s"
      exact q1 c2 z H4 s34 hz hz4
    · exact q2 fun z => c1 (decide_eq_true z)
end
/-- a promise that is asked of nothing -/
theorem ok_none {P : Program} {w : World} {K : PySem.W.Frag} {mg : Str → Option Value} {base : Heap} {x qual : Str} {st : Stmt} {f : Addr} {fd : FuncData} {N ps : List Str} {k : Nat} {sp : Sp} (F : Fun K x qual st f fd) (S : FnScope N ps (defScope st)) (h : ∀ vs H Q E, ¬ sp vs H Q E) : FnOk P w K mg base CX0 (k + 1) f fd ps sp :=
  F.ok S (fun vs H Q E z => absurd z (h vs H Q E)) (fun cdv A outer s H vs Q E hr z => absurd z (h vs H Q E))
/-! ### rules -/
inductive RT where
  | hours (f b : Int)
  | days (ds : List Int)
  | unl (r : RT)
  | both (rs : List RT)
  | eith (rs : List RT)
inductive RK where
  | h | d | u | b | e
def RT.kind : RT → RK
  | .hours _ _ => .h
  | .days _ => .d
  | .unl _ => .u
  | .both _ => .b
  | .eith _ => .e
mutual
def alwc : RT → Int → Int → Bool
  | .hours f b, c, _ => if f < b then decide (f ≤ c) && decide (c < b) else decide (f ≤ c) || decide (c < b)
  | .days ds, _, w => decide (w ∈ ds)
  | .unl r, c, w => !alwc r c w
  | .both rs, c, w => (alws rs c w).all id
  | .eith rs, c, w => (alws rs c w).any id
def alws : List RT → Int → Int → List Bool
  | [], _, _ => []
  | r :: rs, c, w => alwc r c w :: alws rs c w
end
theorem alws_map : ∀ (rs : List RT) (c w : Int), alws rs c w = rs.map fun r => alwc r c w
  | [], _, _ => by simp [alws]
  | r :: rs, c, w => by simp [alws, alws_map rs c w]
/-- whether a rule allows a minute -/
def alw (r : RT) (m : Int) : Bool := alwc r (m.fmod 1440) ((m.fdiv 1440).fmod 7)
theorem alw_week (r : RT) (m : Int) : alw r (m + 10080) = alw r m := by
  unfold alw
  have e1 : (m + 10080).fmod 1440 = m.fmod 1440 := by
    rw [Int.fmod_eq_emod_of_nonneg _ (by decide), Int.fmod_eq_emod_of_nonneg _ (by decide)]; omega
  have e2 : ((m + 10080).fdiv 1440).fmod 7 = (m.fdiv 1440).fmod 7 := by
    rw [Int.fmod_eq_emod_of_nonneg _ (by decide), Int.fmod_eq_emod_of_nonneg _ (by decide), Int.fdiv_eq_ediv_of_nonneg _ (by decide), Int.fdiv_eq_ediv_of_nonneg _ (by decide)]; omega
  rw [e1, e2]
def hoF (f b : Int) : List (Str × V) := putF "behind" (.int b) (putF "first" (.int f) [])
theorem hoF_first (a b : Int) : (hoF a b).lookup ("first" : Str) = some (.int a) := by
  unfold hoF
  rw [lookup_putF, if_neg (by decide +kernel), lookup_putF, if_pos rfl]
theorem hoF_behind (a b : Int) : (hoF a b).lookup ("behind" : Str) = some (.int b) := by
  unfold hoF
  rw [lookup_putF, if_pos rfl]
theorem hoF_allows (a b : Int) : (hoF a b).lookup ("allows" : Str) = none := by
  unfold hoF
  rw [lookup_putF, if_neg (by decide +kernel), lookup_putF, if_neg (by decide +kernel)]; rfl
def oneF (f : Str) (x : V) : List (Str × V) := putF f x []
theorem oneF_at (f : Str) (x : V) : (oneF f x).lookup f = some x := by
  unfold oneF
  rw [lookup_putF, if_pos rfl]
theorem oneF_no {f g : Str} (x : V) (h : ¬ g = f) : (oneF f x).lookup g = none := by
  unfold oneF
  rw [lookup_putF, if_neg h]; rfl
/-- all that is no list is kept -/
def Solid (H H' : Hp) : Prop := ∀ p o, ((∀ ys, o ≠ HO.lst ys) ∧ ∀ ys, o ≠ HO.tbl ys) → H p = some o → H' p = some o
theorem solid_same {H H' : Hp} (s : Same H H') : Solid H H' := fun p o _ e => s p o e
theorem solid_keep {F : Addr} {ys : List V} {H H' : Hp} (hT : H F = some (.lst ys)) (s : Keep F H H') : Solid H H' := fun p o n e => s p o (ne_of e hT (n.1 ys)) e
section
variable {K : PySem.W.Frag} {mg : Str → Option Value} {base : Heap} (T : Ev K mg base)
def RK.cls : RK → Addr
  | .h => T.CHours
  | .d => T.CDays
  | .u => T.CUnless
  | .b => T.CBoth
  | .e => T.CEither
/-- a rule object, at most so deep -/
def RuleAt (H : Hp) : Nat → V → RT → Prop
  | 0, _, _ => False
  | d + 1, v, r => ∃ p dx fs, v = .ref p ∧ H p = some (.ins (r.kind.cls T) dx fs) ∧
    match r with
    | .hours f b => fs = hoF f b
    | .days ds => ∃ t, fs = oneF "days" (.ref t) ∧ H t = some (.tup (ds.map .int))
    | .unl r => ∃ x, fs = oneF "rule" x ∧ RuleAt H d x r
    | .both rs => ∃ t xs, fs = oneF "rules" (.ref t) ∧ H t = some (.tup xs) ∧ rs.length ≤ 1000 ∧ Paired (RuleAt H d) xs rs
    | .eith rs => ∃ t xs, fs = oneF "rules" (.ref t) ∧ H t = some (.tup xs) ∧ rs.length ≤ 1000 ∧ Paired (RuleAt H d) xs rs
theorem RuleAt.mono {H H' : Hp} (f : Solid H H') : ∀ {d : Nat} {v : V} {r : RT}, RuleAt T H d v r → RuleAt T H' d v r
  | 0, _, _, h => h.elim
  | d + 1, v, r, ⟨p, dx, fs, e, h, g⟩ => by
    refine ⟨p, dx, fs, e, f _ _ ⟨fun ys z => (by cases z), fun ys z => (by cases z)⟩ h, ?_⟩
    match r, g with
    | .hours _ _, g => exact g
    | .days _, ⟨t, g1, g2⟩ => exact ⟨t, g1, f _ _ ⟨fun ys z => (by cases z), fun ys z => (by cases z)⟩ g2⟩
    | .unl r, ⟨x, g1, g2⟩ => exact ⟨x, g1, RuleAt.mono f g2⟩
    | .both rs, ⟨t, xs, g1, g2, g4, g3⟩ => exact ⟨t, xs, g1, f _ _ ⟨fun ys z => (by cases z), fun ys z => (by cases z)⟩ g2, g4, paired_mono (fun _ _ z => RuleAt.mono f z) g3⟩
    | .eith rs, ⟨t, xs, g1, g2, g4, g3⟩ => exact ⟨t, xs, g1, f _ _ ⟨fun ys z => (by cases z), fun ys z => (by cases z)⟩ g2, g4, paired_mono (fun _ _ z => RuleAt.mono f z) g3⟩
theorem RuleAt.same {H H' : Hp} {d : Nat} {v : V} {r : RT} (h : RuleAt T H d v r) (s : Same H H') : RuleAt T H' d v r := h.mono T (solid_same s)
def spAllows (d : Nat) (k : RK) : Sp := fun vs H Q _ => ∃ (x : V) (m : Int) (r : RT), vs = [x, .int m] ∧ RuleAt T H d x r ∧ r.kind = k ∧ ∀ H', Same H H' → Q (.bl (alw r m)) H'
end
/-! ### walks within walks, by what one turn does -/
section
variable {K : PySem.W.Frag} {a : Addr} {xs : List V} {lo : Int} {n : Nat} {B : V → Hp → (Hp → Prop) → Prop} {H0 : Hp} {Qd : Hp → Prop}
theorem w_rng (Pv : Nat → Hp → Prop) (h0 : Pv 0 H0) (hs : ∀ i H, i < n → Pv i H → B (.int (lo + i)) H (Pv (i + 1))) (hd : ∀ H, Pv n H → Qd H) :
    ∃ W : Nat → Nat → Hp → Prop, (∃ m, W 0 m H0) ∧ ∀ i m H, W i m H → ((Itr lo n).stop i H ∧ Qd H) ∨ ((Itr lo n).go i H ∧ ∃ Nx : Hp → Prop, (∀ H', Nx H' → ∃ m', m' < m ∧ W (i + 1) m' H') ∧ ∀ x H', (Itr lo n).yld i H x H' → B x H' Nx) := by
  refine ⟨fun i m H => m = n - i ∧ i ≤ n ∧ Pv i H, ⟨_, rfl, Nat.zero_le _, h0⟩, fun i m H hw => ?_⟩
  obtain ⟨rfl, hi, p⟩ := hw
  rcases Nat.lt_or_ge i n with hlt | hge
  · exact .inr ⟨hlt, Pv (i + 1), fun H' p' => ⟨_, by omega, rfl, hlt, p'⟩, fun x H' y => by
      obtain ⟨e, y⟩ := y
      subst e y
      exact hs i _ hlt p⟩
  · have : i = n := by omega
    subst this
    exact .inl ⟨Nat.le_refl _, hd H p⟩
theorem w_list (Pv : Nat → Hp → Prop) (h0 : Pv 0 H0) (hl : ∀ i H, i ≤ xs.length → Pv i H → SqL K H a xs) (hs : ∀ i x H, xs[i]? = some x → Pv i H → B x H (Pv (i + 1))) (hd : ∀ H, Pv xs.length H → Qd H) :
    ∃ W : Nat → Nat → Hp → Prop, (∃ m, W 0 m H0) ∧ ∀ i m H, W i m H → ((Itl K a).stop i H ∧ Qd H) ∨ ((Itl K a).go i H ∧ ∃ Nx : Hp → Prop, (∀ H', Nx H' → ∃ m', m' < m ∧ W (i + 1) m' H') ∧ ∀ x H', (Itl K a).yld i H x H' → B x H' Nx) := by
  refine ⟨fun i m H => m = xs.length - i ∧ i ≤ xs.length ∧ Pv i H, ⟨_, rfl, Nat.zero_le _, h0⟩, fun i m H hw => ?_⟩
  obtain ⟨rfl, hi, p⟩ := hw
  have q := hl i H hi p
  rcases Nat.lt_or_ge i xs.length with hlt | hge
  · have hx : xs[i]? = some xs[i] := List.getElem?_eq_getElem hlt
    exact .inr ⟨⟨xs, _, q, hx⟩, Pv (i + 1), fun H' p' => ⟨_, by omega, rfl, hlt, p'⟩, fun x H' y => by
      obtain ⟨e, y⟩ := y
      subst e
      exact hs i x _ (y xs q) p⟩
  · have : i = xs.length := by omega
    subst this
    exact .inl ⟨⟨xs, q, Nat.le_refl _⟩, hd H p⟩
theorem w_tup (Pv : Nat → Hp → Prop) (h0 : Pv 0 H0) (hl : ∀ i H, i ≤ xs.length → Pv i H → SqT K H a xs) (hs : ∀ i x H, xs[i]? = some x → Pv i H → B x H (Pv (i + 1))) (hd : ∀ H, Pv xs.length H → Qd H) :
    ∃ W : Nat → Nat → Hp → Prop, (∃ m, W 0 m H0) ∧ ∀ i m H, W i m H → ((Itt K a).stop i H ∧ Qd H) ∨ ((Itt K a).go i H ∧ ∃ Nx : Hp → Prop, (∀ H', Nx H' → ∃ m', m' < m ∧ W (i + 1) m' H') ∧ ∀ x H', (Itt K a).yld i H x H' → B x H' Nx) := by
  refine ⟨fun i m H => m = xs.length - i ∧ i ≤ xs.length ∧ Pv i H, ⟨_, rfl, Nat.zero_le _, h0⟩, fun i m H hw => ?_⟩
  obtain ⟨rfl, hi, p⟩ := hw
  have q := hl i H hi p
  rcases Nat.lt_or_ge i xs.length with hlt | hge
  · have hx : xs[i]? = some xs[i] := List.getElem?_eq_getElem hlt
    exact .inr ⟨⟨xs, _, q, hx⟩, Pv (i + 1), fun H' p' => ⟨_, by omega, rfl, hlt, p'⟩, fun x H' y => by
      obtain ⟨e, y⟩ := y
      subst e
      exact hs i x _ (y xs q) p⟩
  · have : i = xs.length := by omega
    subst this
    exact .inl ⟨⟨xs, q, Nat.le_refl _⟩, hd H p⟩
end
/-! ### rules made -/
def spHoInit (C : Addr) : Sp := fun vs H Q _ => ∃ (p dx : Addr) (a b : Int), vs = [.ref p, .int a, .int b] ∧ H p = some (.ins C dx []) ∧ ∀ H', H' p = some (.ins C dx (hoF a b)) → (∀ x o, x ≠ p → H x = some o → H' x = some o) → Q .non H'
def spUnInit (C : Addr) : Sp := fun vs H Q _ => ∃ (p dx : Addr) (x : V), vs = [.ref p, x] ∧ H p = some (.ins C dx []) ∧ ∀ H', H' p = some (.ins C dx (oneF "rule" x)) → (∀ x o, x ≠ p → H x = some o → H' x = some o) → Q .non H'
def spTuInit (C : Addr) (f : Str) : Sp := fun vs H Q _ => ∃ (p dx t : Addr) (xs : List V), vs = [.ref p, .ref t] ∧ H p = some (.ins C dx []) ∧ H t = some (.tup xs) ∧ ∀ H', H' p = some (.ins C dx (oneF f (.ref t))) → (∀ x o, x ≠ p → H x = some o → H' x = some o) → Q .non H'
section
variable {P : Program} {w : World} {K : PySem.W.Frag} {mg : Str → Option Value} {base : Heap} (T : Ev K mg base)
theorem okHours___init__ : FnOk P w K mg base CX0 1 T.fHours___init__ T.fdHours___init__ ["self", "first", "behind"] (spHoInit T.CHours) := by
  refine T.FHours___init__.ok scHoursInit (fun vs H Q E h => ?_) (fun cdv A outer s H vs Q E hr h => ?_)
  · obtain ⟨p, dx, a, b, rfl, _⟩ := h
    rfl
  · obtain ⟨p, dx, a, b, rfl, hp, q⟩ := h
    refine ⟨_,
      (pss_cons (ps_fld (pv 0) (pv 1) rfl)
      (pss_one (ps_fld (pv 0) (pv 2) rfl)))
      , ?_⟩
    refine ⟨_, rfl, _, rfl, p, T.CHours, dx, _, rfl, hp, cl_Hours T, T.nHours_first, (by show 0 < 1000; decide), ?_⟩
    refine ⟨_, rfl, _, rfl, p, T.CHours, dx, _, rfl, upd_same, cl_Hours T, T.nHours_behind, (by show 1 < 1000; decide), ?_⟩
    exact q _ upd_same fun x o n e => by rw [upd_ne n, upd_ne n]; exact e
theorem okUnless___init__ : FnOk P w K mg base CX0 1 T.fUnless___init__ T.fdUnless___init__ ["self", "rule"] (spUnInit T.CUnless) := by
  refine T.FUnless___init__.ok scUnlessInit (fun vs H Q E h => ?_) (fun cdv A outer s H vs Q E hr h => ?_)
  · obtain ⟨p, dx, x, rfl, _⟩ := h
    rfl
  · obtain ⟨p, dx, x, rfl, hp, q⟩ := h
    refine ⟨_,
      (pss_one (ps_fld (pv 0) (pv 1) rfl))
      , ?_⟩
    refine ⟨_, rfl, _, rfl, p, T.CUnless, dx, _, rfl, hp, cl_Unless T, T.nUnless_rule, (by show 0 < 1000; decide), ?_⟩
    exact q _ upd_same fun x o n e => by rw [upd_ne n]; exact e
theorem okDays___init__ : FnOk P w K mg base CX0 1 T.fDays___init__ T.fdDays___init__ ["self", "days"] (spTuInit T.CDays "days") := by
  refine T.FDays___init__.ok scDaysInit (fun vs H Q E h => ?_) (fun cdv A outer s H vs Q E hr h => ?_)
  · obtain ⟨p, dx, t, xs, rfl, _⟩ := h
    rfl
  · obtain ⟨p, dx, t, xs, rfl, hp, ht, q⟩ := h
    refine ⟨_,
      (pss_one (ps_fld (pv 0) (pe_callTy call_tuple_of (by rfl) T.mtuple (by decide +kernel) (pa_cons (pv 1) pa_nil)) rfl))
      , ?_⟩
    refine ⟨_, rfl, t, xs, rfl, .inr ⟨SqT.of ht, ?_⟩⟩
    refine ⟨_, rfl, p, T.CDays, dx, _, rfl, hp, cl_Days T, T.nDays_days, (by show 0 < 1000; decide), ?_⟩
    exact q _ upd_same fun x o n e => by rw [upd_ne n]; exact e
theorem okBoth___init__ : FnOk P w K mg base CX0 1 T.fBoth___init__ T.fdBoth___init__ ["self", "rules"] (spTuInit T.CBoth "rules") := by
  refine T.FBoth___init__.ok scBothInit (fun vs H Q E h => ?_) (fun cdv A outer s H vs Q E hr h => ?_)
  · obtain ⟨p, dx, t, xs, rfl, _⟩ := h
    rfl
  · obtain ⟨p, dx, t, xs, rfl, hp, ht, q⟩ := h
    refine ⟨_,
      (pss_one (ps_fld (pv 0) (pe_callTy call_tuple_of (by rfl) T.mtuple (by decide +kernel) (pa_cons (pv 1) pa_nil)) rfl))
      , ?_⟩
    refine ⟨_, rfl, t, xs, rfl, .inr ⟨SqT.of ht, ?_⟩⟩
    refine ⟨_, rfl, p, T.CBoth, dx, _, rfl, hp, cl_Both T, T.nBoth_rules, (by show 0 < 1000; decide), ?_⟩
    exact q _ upd_same fun x o n e => by rw [upd_ne n]; exact e
theorem okEither___init__ : FnOk P w K mg base CX0 1 T.fEither___init__ T.fdEither___init__ ["self", "rules"] (spTuInit T.CEither "rules") := by
  refine T.FEither___init__.ok scEitherInit (fun vs H Q E h => ?_) (fun cdv A outer s H vs Q E hr h => ?_)
  · obtain ⟨p, dx, t, xs, rfl, _⟩ := h
    rfl
  · obtain ⟨p, dx, t, xs, rfl, hp, ht, q⟩ := h
    refine ⟨_,
      (pss_one (ps_fld (pv 0) (pe_callTy call_tuple_of (by rfl) T.mtuple (by decide +kernel) (pa_cons (pv 1) pa_nil)) rfl))
      , ?_⟩
    refine ⟨_, rfl, t, xs, rfl, .inr ⟨SqT.of ht, ?_⟩⟩
    refine ⟨_, rfl, p, T.CEither, dx, _, rfl, hp, cl_Either T, T.nEither_rules, (by show 0 < 1000; decide), ?_⟩
    exact q _ upd_same fun x o n e => by rw [upd_ne n]; exact e
end
/-! ### when rules allow, week by week -/
mutual
/-- all clocks and weekdays are some -/
def RT.fine : RT → Bool
  | .hours f b => decide (0 ≤ f ∧ f < 1440 ∧ 0 ≤ b ∧ b < 1440)
  | .days ds => ds.all (fun d => decide (0 ≤ d ∧ d < 7)) && decide (ds.length ≤ 7)
  | .unl r => RT.fine r
  | .both rs => RT.fines rs
  | .eith rs => RT.fines rs
def RT.fines : List RT → Bool
  | [] => true
  | r :: rs => RT.fine r && RT.fines rs
end
mutual
def RT.nodes : RT → Nat
  | .hours _ _ => 1
  | .days _ => 1
  | .unl r => RT.nodes r + 1
  | .both rs => RT.nodess rs + 1
  | .eith rs => RT.nodess rs + 1
def RT.nodess : List RT → Nat
  | [] => 0
  | r :: rs => RT.nodes r + RT.nodess rs
end
abbrev Pr2 := Int × Int
def hoursOf (f b mid : Int) : List Pr2 := if f < b then [(mid + f, mid + b)] else [(mid, mid + b), (mid + f, mid + 1440)]
def weekHours (f b : Int) : List Pr2 := (List.range 7).flatMap fun (j : Nat) => hoursOf f b ((0 + (j : Int)) * 1440)
def weekDays (ds : List Int) : List Pr2 := ds.map fun d => (d * 1440, (d + 1) * 1440)
def sor (l : List Pr2) (k : Bool) : List Pr2 := if k = true then jnd 0 l else gps l 0 10080
mutual
def wp : RT → Bool → List Pr2
  | .hours f b, k => sor (weekHours f b) k
  | .days ds, k => sor (weekDays ds) k
  | .unl r, k => wp r (!k)
  | .both rs, k => sor (wps rs false) (!k)
  | .eith rs, k => sor (wps rs true) k
def wps : List RT → Bool → List Pr2
  | [], _ => []
  | r :: rs, k => wp r k ++ wps rs k
end
def InW (l : List Pr2) : Prop := ∀ p ∈ l, 0 ≤ p.1 ∧ p.1 ≤ p.2 ∧ p.2 ≤ 10080
theorem cov_app {l m : List Pr2} (x : Int) : Cov (l ++ m) x ↔ Cov l x ∨ Cov m x := by
  unfold Cov
  constructor
  · rintro ⟨p, hp, h⟩
    rcases List.mem_append.mp hp with z | z
    · exact .inl ⟨p, z, h⟩
    · exact .inr ⟨p, z, h⟩
  · rintro (⟨p, hp, h⟩ | ⟨p, hp, h⟩)
    · exact ⟨p, List.mem_append_left _ hp, h⟩
    · exact ⟨p, List.mem_append_right _ hp, h⟩
theorem cov_hoursOf {f b mid x : Int} (h : 0 ≤ f ∧ f < 1440 ∧ 0 ≤ b ∧ b < 1440) : Cov (hoursOf f b mid) x ↔ mid ≤ x ∧ x < mid + 1440 ∧ (if f < b then f ≤ x - mid ∧ x - mid < b else f ≤ x - mid ∨ x - mid < b) := by
  unfold Cov hoursOf
  split
  · simp; omega
  · simp; omega
theorem cov_weekHours {f b x : Int} (h : 0 ≤ f ∧ f < 1440 ∧ 0 ≤ b ∧ b < 1440) : Cov (weekHours f b) x ↔ 0 ≤ x ∧ x < 10080 ∧ alw (.hours f b) x = true := by
  have e1 : x.fmod 1440 = x % 1440 := Int.fmod_eq_emod_of_nonneg _ (by decide)
  have ea : alw (.hours f b) x = true ↔ (if f < b then f ≤ x % 1440 ∧ x % 1440 < b else f ≤ x % 1440 ∨ x % 1440 < b) := by
    simp only [alw, alwc, e1]
    split <;> simp
  rw [ea]
  have : Cov (weekHours f b) x ↔ ∃ j : Nat, j < 7 ∧ Cov (hoursOf f b ((0 + (j : Int)) * 1440)) x := by
    unfold Cov weekHours
    constructor
    · rintro ⟨p, hp, z⟩
      obtain ⟨j, hj, hp⟩ := List.mem_flatMap.mp hp
      exact ⟨j, List.mem_range.mp hj, p, hp, z⟩
    · rintro ⟨j, hj, p, hp, z⟩
      exact ⟨p, List.mem_flatMap.mpr ⟨j, List.mem_range.mpr hj, hp⟩, z⟩
  rw [this]
  constructor
  · rintro ⟨j, hj, z⟩
    obtain ⟨z1, z2, z3⟩ := (cov_hoursOf h).mp z
    have e : x - (0 + (j : Int)) * 1440 = x % 1440 := by omega
    rw [e] at z3
    exact ⟨by omega, by omega, z3⟩
  · rintro ⟨h0, h1, z3⟩
    refine ⟨(x / 1440).toNat, by omega, (cov_hoursOf h).mpr ⟨by omega, by omega, ?_⟩⟩
    have e : x - (0 + (((x / 1440).toNat : Nat) : Int)) * 1440 = x % 1440 := by omega
    rw [e]; exact z3
theorem cov_weekDays {ds : List Int} {x : Int} (h : ∀ d ∈ ds, 0 ≤ d ∧ d < 7) : Cov (weekDays ds) x ↔ 0 ≤ x ∧ x < 10080 ∧ alw (.days ds) x = true := by
  have e1 : (x.fdiv 1440).fmod 7 = x / 1440 % 7 := by rw [Int.fmod_eq_emod_of_nonneg _ (by decide), Int.fdiv_eq_ediv_of_nonneg _ (by decide)]
  have ea : alw (.days ds) x = true ↔ x / 1440 % 7 ∈ ds := by simp only [alw, alwc, e1]; simp
  rw [ea]
  unfold Cov weekDays
  constructor
  · rintro ⟨p, hp, z1, z2⟩
    obtain ⟨d, hd, rfl⟩ := List.mem_map.mp hp
    have := h d hd
    simp only at z1 z2
    have e : x / 1440 % 7 = d := by omega
    rw [e]
    exact ⟨by omega, by omega, hd⟩
  · rintro ⟨h0, h1, hm⟩
    exact ⟨_, List.mem_map.mpr ⟨_, hm, rfl⟩, by simp only; omega, by simp only; omega⟩
theorem cov_sor {l : List Pr2} {k : Bool} {P : Int → Bool} (h : ∀ x, Cov l x ↔ 0 ≤ x ∧ x < 10080 ∧ P x = true) (x : Int) : Cov (sor l k) x ↔ 0 ≤ x ∧ x < 10080 ∧ P x = k := by
  unfold sor
  cases k with
  | true => rw [if_pos rfl, jnd_ok.2.2]; exact h x
  | false =>
    rw [if_neg (by decide)]
    constructor
    · rintro ⟨p, hp, z1, z2⟩
      obtain ⟨_, a1, a2, a3⟩ := gps_in.1 p hp
      refine ⟨by omega, by omega, ?_⟩
      have := a3 x z1 z2
      rw [h] at this
      cases e : P x with
      | false => rfl
      | true => exact absurd ⟨by omega, by omega, e⟩ this
    · rintro ⟨h0, h1, hp⟩
      refine gps_in.2 x h0 h1 fun c => ?_
      have := ((h x).mp c).2.2
      rw [hp] at this
      cases this
theorem sor_in {l : List Pr2} {k : Bool} (h : InW l) : InW (sor l k) := by
  intro p hp
  unfold sor at hp
  split at hp
  · have a := jnd_in (lo := 0) (hi := 10080) (fun q hq => ⟨(h q hq).1, (h q hq).2.2⟩) p hp
    exact ⟨a.1, Int.le_of_lt (jnd_ok.1 p hp).1, a.2⟩
  · obtain ⟨a0, a1, a2, _⟩ := gps_in.1 p hp
    exact ⟨a1, Int.le_of_lt a0, a2⟩
theorem sor_len {l : List Pr2} {k : Bool} : (sor l k).length ≤ l.length + 1 := by
  unfold sor
  split
  · exact Nat.le_succ_of_le jnd_len
  · exact gps_len _ _ _
theorem sor_canon {l : List Pr2} {k : Bool} : Canon 0 (sor l k) := by
  unfold sor
  split
  · exact jnd_canon (Int.le_refl 0)
  · exact gps_canon
theorem hoursOf_len (f b mid : Int) : (hoursOf f b mid).length ≤ 2 := by unfold hoursOf; split <;> simp
theorem weekHours_len (f b : Int) : (weekHours f b).length ≤ 14 := by
  unfold weekHours
  have a := fun j : Nat => hoursOf_len f b ((0 + (j : Int)) * 1440)
  have a0 := a 0; have a1 := a 1; have a2 := a 2; have a3 := a 3; have a4 := a 4; have a5 := a 5; have a6 := a 6
  rw [show List.range 7 = [0, 1, 2, 3, 4, 5, 6] from rfl]
  simp only [List.flatMap_cons, List.flatMap_nil, List.length_append, List.length_nil]
  omega
theorem weekHours_in {f b : Int} (h : 0 ≤ f ∧ f < 1440 ∧ 0 ≤ b ∧ b < 1440) : InW (weekHours f b) := by
  intro p hp
  obtain ⟨j, hj, hp⟩ := List.mem_flatMap.mp hp
  have hj := List.mem_range.mp hj
  unfold hoursOf at hp
  split at hp
  · simp only [List.mem_cons, List.not_mem_nil, or_false] at hp
    subst hp; simp only; omega
  · simp only [List.mem_cons, List.not_mem_nil, or_false] at hp
    rcases hp with rfl | rfl
    · simp only; omega
    · simp only; omega
theorem weekDays_in {ds : List Int} (h : ∀ d ∈ ds, 0 ≤ d ∧ d < 7) : InW (weekDays ds) := by
  intro p hp
  obtain ⟨d, hd, rfl⟩ := List.mem_map.mp hp
  have := h d hd
  simp only; omega
theorem fine_hours {f b : Int} (h : (RT.hours f b).fine = true) : 0 ≤ f ∧ f < 1440 ∧ 0 ≤ b ∧ b < 1440 := by simpa [RT.fine] using h
theorem fine_days {ds : List Int} (h : (RT.days ds).fine = true) : (∀ d ∈ ds, 0 ≤ d ∧ d < 7) ∧ ds.length ≤ 7 := by simpa [RT.fine] using h
mutual
theorem wp_in : ∀ (r : RT) (k : Bool), r.fine = true → InW (wp r k) ∧ (wp r k).length ≤ 15 * r.nodes
  | .hours f b, k, h => by
    have := sor_len (l := weekHours f b) (k := k)
    have := weekHours_len f b
    rw [wp, RT.nodes]
    exact ⟨sor_in (weekHours_in (fine_hours h)), by omega⟩
  | .days ds, k, h => by
    have := sor_len (l := weekDays ds) (k := k)
    have l7 := (fine_days h).2
    have : (weekDays ds).length = ds.length := List.length_map _
    rw [wp, RT.nodes]
    exact ⟨sor_in (weekDays_in (fine_days h).1), by omega⟩
  | .unl r, k, h => by
    have := wp_in r (!k) (by simpa [RT.fine] using h)
    rw [wp, RT.nodes]
    exact ⟨this.1, by omega⟩
  | .both rs, k, h => by
    have hh := wps_in rs false (by simpa [RT.fine] using h)
    have := sor_len (l := wps rs false) (k := !k)
    rw [wp, RT.nodes]
    exact ⟨sor_in hh.1, by omega⟩
  | .eith rs, k, h => by
    have hh := wps_in rs true (by simpa [RT.fine] using h)
    have := sor_len (l := wps rs true) (k := k)
    rw [wp, RT.nodes]
    exact ⟨sor_in hh.1, by omega⟩
theorem wps_in : ∀ (rs : List RT) (k : Bool), RT.fines rs = true → InW (wps rs k) ∧ (wps rs k).length ≤ 15 * RT.nodess rs
  | [], k, _ => by rw [wps]; exact ⟨fun p hp => (by cases hp), Nat.zero_le _⟩
  | r :: rs, k, h => by
    have h : r.fine = true ∧ RT.fines rs = true := by simpa [RT.fines] using h
    have a := wp_in r k h.1
    have b := wps_in rs k h.2
    rw [wps, RT.nodess]
    refine ⟨fun p hp => (List.mem_append.mp hp).elim (a.1 p) (b.1 p), ?_⟩
    rw [List.length_append]; omega
end
mutual
theorem wp_cov : ∀ (r : RT) (k : Bool), r.fine = true → ∀ x, Cov (wp r k) x ↔ 0 ≤ x ∧ x < 10080 ∧ alw r x = k
  | .hours f b, k, h, x => by rw [wp]; exact cov_sor (P := alw (.hours f b)) (fun x => cov_weekHours (fine_hours h)) x
  | .days ds, k, h, x => by rw [wp]; exact cov_sor (P := alw (.days ds)) (fun x => cov_weekDays (fine_days h).1) x
  | .unl r, k, h, x => by
    rw [wp, wp_cov r (!k) (by simpa [RT.fine] using h)]
    rw [show alw (.unl r) x = !alw r x by simp [alw, alwc]]
    cases k <;> cases alw r x <;> simp
  | .both rs, k, h, x => by
    rw [wp, cov_sor (P := fun x => !alw (.both rs) x) (fun x => ?_) x]
    · cases k <;> simp
    · rw [wps_cov rs false (by simpa [RT.fine] using h)]
      rw [show alw (.both rs) x = (rs.map fun r => alw r x).all id by simp [alw, alwc, alws_map]]
      simp
  | .eith rs, k, h, x => by
    rw [wp, cov_sor (P := fun x => alw (.eith rs) x) (fun x => ?_) x]
    rw [wps_cov rs true (by simpa [RT.fine] using h)]
    rw [show alw (.eith rs) x = (rs.map fun r => alw r x).any id by simp [alw, alwc, alws_map]]
    simp
theorem wps_cov : ∀ (rs : List RT) (k : Bool), RT.fines rs = true → ∀ x, Cov (wps rs k) x ↔ 0 ≤ x ∧ x < 10080 ∧ ∃ r ∈ rs, alw r x = k
  | [], k, _, x => by rw [wps]; simp [Cov]
  | r :: rs, k, h, x => by
    have h : r.fine = true ∧ RT.fines rs = true := by simpa [RT.fines] using h
    rw [wps, cov_app, wp_cov r k h.1, wps_cov rs k h.2]
    constructor
    · rintro (⟨h0, h1, e⟩ | ⟨h0, h1, r', hr, e⟩)
      · exact ⟨h0, h1, r, List.mem_cons_self, e⟩
      · exact ⟨h0, h1, r', List.mem_cons_of_mem _ hr, e⟩
    · rintro ⟨h0, h1, r', hr, e⟩
      rcases List.mem_cons.mp hr with rfl | hr
      · exact .inl ⟨h0, h1, e⟩
      · exact .inr ⟨h0, h1, r', hr, e⟩
end
set_option maxHeartbeats 8000000
local macro_rules | `(tactic| walk_at "c") => `(tactic| first | omega | decide | exact ⟨by omega, by omega⟩ | exact ⟨by decide, by decide⟩ | exact .inl ⟨by omega, by omega⟩ | exact .inr ⟨by omega, by omega⟩ | exact ⟨by omega, by omega, by omega⟩ | exact ⟨by decide, by decide, by decide⟩ | exact le_line (Nat.le_of_ble_eq_true rfl))
local macro_rules | `(tactic| walk_at "a") => `(tactic| with_reducible (first | refine i_seq ?_ | refine i_asg ?_ | refine i_cons ?_ | refine i_c ?_ | refine i_nil ?_ | refine i_op ?_ | refine i_call ?_ | refine i_cb ?_ | refine i_name ?_ | refine i_next ?_ | refine i_ret ?_ | refine i_drop ?_ | refine i_if ?_ | refine i_test ?_ | refine i_and ?_ | refine i_or ?_ | refine i_not ?_ | refine i_ite ?_ | refine i_lst ?_ | refine i_tup ?_ | refine i_bm ?_ | refine i_un ?_ | refine i_par ?_ | refine i_gsub ?_ | refine i_chain ?_ | refine i_sl ?_ | refine i_nopart ?_ | refine i_part ?_ | refine i_m1 ?_ | refine i_m0 ?_ | refine i_lc ?_ | refine i_iList ?_ | refine i_iTup ?_ | refine i_iStr ?_ | refine i_r1 ?_ | refine i_set ?_ | refine i_callk ?_ | refine i_callN ?_ | refine i_ckw ?_ | refine i_revL ?_ | refine i_tB ?_ | refine i_fld ?_ | refine i_sfld ?_ | refine i_make ?_ | refine i_makeN ?_ | refine i_meth ?_ | refine i_andV ?_ | refine i_orV ?_ | refine i_notV ?_ | refine iteT ?_ | refine iteF ?_ | refine i_yes ?_))
local macro_rules | `(tactic| walk_at "s") => `(tactic| repeat (first | walk_at "a" | refine i_var rfl ?_ | refine i_aug rfl ?_ | refine And.intro ⟨_, rfl⟩ ?_ | refine ⟨_, rfl, ?_⟩ | refine ⟨_, _, rfl, rfl, ?_⟩ | refine ⟨_, _, rfl, ?_⟩ | refine ⟨rfl, ?_⟩ | refine And.intro (by walk_at "c") ?_))
/-! ### the rules' weeks -/
section
open LamX (Tabs)
theorem solid_sm {TT : List (Addr × Str)} {H H' : Hp} (s : Sm TT H H') : Solid H H' := fun p o n e => s.at e n.2
theorem wps_app : ∀ (l m : List RT) (k : Bool), wps (l ++ m) k = wps l k ++ wps m k
  | [], m, k => by rw [wps]; rfl
  | r :: l, m, k => by rw [List.cons_append, wps, wps, wps_app l m k, List.append_assoc]
theorem i_fldO {K : PySem.W.Frag} {p C dx : Addr} {fs : List (Str × V)} {f : Str} {v : V} {H : Hp} {Q : VK} (h : H p = some (.ins C dx fs)) (c : Cls K C) (n : NoAttr K C f) (l : fs.lookup f = some v) (q : Q v H) : rFld K f (.ref p) H Q := ⟨p, C, dx, fs, v, rfl, h, c, n, l, q⟩
variable {P : Program} {w : World} {K : PySem.W.Frag} {mg : Str → Option Value} {base : Heap} (T : Ev K mg base)
theorem kit_u (k : RK) : PySem.W.kitOne K (.ref (k.cls T)) (.ref T.CUnless) = some (match k with | .u => true | _ => false) := by
  cases k with
  | h => exact kit_other T.seHours T.icUnless T.tyUnless T.noHours_Unless
  | d => exact kit_other T.seDays T.icUnless T.tyUnless T.noDays_Unless
  | u => exact kitC
  | b => exact kit_other T.seBoth T.icUnless T.tyUnless T.noBoth_Unless
  | e => exact kit_other T.seEither T.icUnless T.tyUnless T.noEither_Unless
theorem kit_b (k : RK) (n : k ≠ .u) : PySem.W.kitOne K (.ref (k.cls T)) (.ref T.CBoth) = some (match k with | .b => true | _ => false) := by
  cases k with
  | h => exact kit_other T.seHours T.icBoth T.tyBoth T.noHours_Both
  | d => exact kit_other T.seDays T.icBoth T.tyBoth T.noDays_Both
  | u => exact absurd rfl n
  | b => exact kitC
  | e => exact kit_other T.seEither T.icBoth T.tyBoth T.noEither_Both
theorem kit_e (k : RK) (n : k ≠ .u) (n2 : k ≠ .b) : PySem.W.kitOne K (.ref (k.cls T)) (.ref T.CEither) = some (match k with | .e => true | _ => false) := by
  cases k with
  | h => exact kit_other T.seHours T.icEither T.tyEither T.noHours_Either
  | d => exact kit_other T.seDays T.icEither T.tyEither T.noDays_Either
  | u => exact absurd rfl n
  | b => exact absurd rfl n2
  | e => exact kitC
theorem kit_d (k : RK) (n : k = .h ∨ k = .d) : PySem.W.kitOne K (.ref (k.cls T)) (.ref T.CDays) = some (match k with | .d => true | _ => false) := by
  rcases n with rfl | rfl
  · exact kit_other T.seHours T.icDays T.tyDays T.noHours_Days
  · exact kitC
theorem isRule {H : Hp} {p dx : Addr} {fs : List (Str × V)} {k : RK} (e : H p = some (.ins (k.cls T) dx fs)) : TyX K H (.ref p) (.ref (k.cls T)) := by
  cases k with
  | h => exact .base (.ins e (cl_Hours T) T.haHours T.hnHours T.htHours T.hmHours)
  | d => exact .base (.ins e (cl_Days T) T.haDays T.hnDays T.htDays T.hmDays)
  | u => exact .base (.ins e (cl_Unless T) T.haUnless T.hnUnless T.htUnless T.hmUnless)
  | b => exact .base (.ins e (cl_Both T) T.haBoth T.hnBoth T.htBoth T.hmBoth)
  | e => exact .base (.ins e (cl_Either T) T.haEither T.hnEither T.htEither T.hmEither)
def spHoursOf : Sp := fun vs H Q _ => ∃ (x : V) (mid f b : Int) (d : Nat), vs = [x, .int mid] ∧ RuleAt T H d x (.hours f b) ∧ (RT.hours f b).fine = true ∧
  ∀ l ys H', Same H H' → H l = none → H' l = some (.lst ys) → StrsAt T.CStretch H' ys (hoursOf f b mid) → Q (.ref l) H'
def alone : RT → List Pr2
  | .hours f b => weekHours f b
  | .days ds => weekDays ds
  | _ => []
def spAlone : Sp := fun vs H Q _ => ∃ (x : V) (r : RT) (d : Nat), vs = [x] ∧ RuleAt T H d x r ∧ r.fine = true ∧ (r.kind = .h ∨ r.kind = .d) ∧
  ∀ l ys H', Same H H' → H l = none → H' l = some (.lst ys) → StrsAt T.CStretch H' ys (alone r) → Q (.ref l) H'
def spSor : Sp := fun vs H Q _ => ∃ (p : Addr) (k : Bool) (xs : List V) (ps : List Pr2), vs = [.ref p, .bl k] ∧ SqL K H p xs ∧ StrsAt T.CStretch H xs ps ∧ ps.length ≤ 30000 ∧ InW ps ∧ Tabs (TT T) H ∧
  ∀ l ys H', Sm (TT T) H H' → H l = none → H' l = some (.lst ys) → StrsAt T.CStretch H' ys (sor ps k) → Q (.ref l) H'
def spWhere (d : Nat) : Sp := fun vs H Q _ => ∃ (x : V) (r : RT) (k : Bool), vs = [x, .bl k] ∧ RuleAt T H d x r ∧ r.fine = true ∧ r.nodes ≤ 2000 ∧ Tabs (TT T) H ∧
  ∀ l ys H', Sm (TT T) H H' → H l = none → H' l = some (.lst ys) → StrsAt T.CStretch H' ys (wp r k) → Q (.ref l) H'
theorem ok_hours_of : FnOk P w K mg base CX0 3 T.f_hours_of T.fd_hours_of ["hours", "midnight"] (spHoursOf T) := by
  refine T.F_hours_of.ok scHoursOf (fun vs H Q E h => ?_) (fun cdv A outer s H vs Q E hr h => ?_)
  · obtain ⟨x, mid, f, b, d, rfl, _⟩ := h
    rfl
  · obtain ⟨x, mid, f, b, d, rfl, hx, hf, q⟩ := h
    refine ⟨_,
      (pss_cons (ps_if (pt_cmpR op_lt (pe_fld (pv 0) rfl) (pe_fld (pv 0) rfl) (nomark _))
      (pss_one (ps_ret (pe_lst (pa_cons (pe_makeN (mk_Stretch T) (okStretch___init__ T) (hr.mono (by decide)) (by rfl) T.gCStretch (kb_Stretch___init___3 T).choose_spec pass0 (pa_cons (pe_op op_add (pv 1) (pe_fld (pv 0) rfl)) (pa_cons (pe_op op_add (pv 1) (pe_fld (pv 0) rfl)) pa_nil)) pk_nil) pa_nil))))
      pss_nil)
      (pss_one (ps_ret (pe_lst (pa_cons (pe_makeN (mk_Stretch T) (okStretch___init__ T) (hr.mono (by decide)) (by rfl) T.gCStretch (kb_Stretch___init___3 T).choose_spec pass0 (pa_cons (pv 1) (pa_cons (pe_op op_add (pv 1) (pe_fld (pv 0) rfl)) pa_nil)) pk_nil) (pa_cons (pe_makeN (mk_Stretch T) (okStretch___init__ T) (hr.mono (by decide)) (by rfl) T.gCStretch (kb_Stretch___init___3 T).choose_spec pass0 (pa_cons (pe_op op_add (pv 1) (pe_fld (pv 0) rfl)) (pa_cons (pe_op op_add (pv 1) (pe_glob (v := .int 1440) (by rfl) T.mDAY ⟨_, rfl⟩)) pa_nil)) pk_nil) pa_nil))))))
      , ?_⟩
    have h4 := fine_hours hf
    cases d with
    | zero => exact hx.elim
    | succ d =>
    obtain ⟨p, dx, fs, rfl, hp, hfs⟩ := hx
    obtain rfl : fs = hoF f b := hfs
    walk_at "s"
    refine i_fldO hp (cl_Hours T) T.nHours_first (hoF_first _ _) ?_
    walk_at "s"
    refine i_fldO hp (cl_Hours T) T.nHours_behind (hoF_behind _ _) ?_
    walk_at "s"
    refine ite2 (fun c => ?_) (fun c => ?_)
    · have c1 : f < b := of_decide_eq_true c
      have e : hoursOf f b mid = [(mid + f, mid + b)] := if_pos c1
      walk_at "s"
      refine i_fldO hp (cl_Hours T) T.nHours_first (hoF_first _ _) ?_
      walk_at "s"
      refine i_fldO hp (cl_Hours T) T.nHours_behind (hoF_behind _ _) ?_
      walk_at "s"
      refine mkStr (a := mid + f) (b := mid + b) (y := .int (mid + b)) (.inl rfl) (by omega) fun z H1 hz hz1 s1 => ?_
      walk_at "s"
      intro l hl
      refine q l _ _ (s1.trans (same_upd hl)) (s1.free hl) upd_same ?_
      rw [e]
      exact .cons ⟨z, rfl, hz1.same (same_upd hl)⟩ .nil
    · have c1 : ¬ f < b := fun y => c (decide_eq_true y)
      have e : hoursOf f b mid = [(mid, mid + b), (mid + f, mid + 1440)] := if_neg c1
      walk_at "s"
      refine i_fldO hp (cl_Hours T) T.nHours_behind (hoF_behind _ _) ?_
      walk_at "s"
      refine mkStr (a := mid) (b := mid + b) (y := .int (mid + b)) (.inl rfl) (by omega) fun z H1 hz hz1 s1 => ?_
      walk_at "s"
      refine i_fldO (s1 _ _ hp) (cl_Hours T) T.nHours_first (hoF_first _ _) ?_
      walk_at "s"
      refine mkStr (a := mid + f) (b := mid + 1440) (y := .int (mid + 1440)) (.inl rfl) (by omega) fun z2 H2 hz2 hz3 s2 => ?_
      walk_at "s"
      intro l hl
      refine q l _ _ ((s1.trans s2).trans (same_upd hl)) ((s1.trans s2).free hl) upd_same ?_
      rw [e]
      exact .cons ⟨z, rfl, (hz1.same s2).same (same_upd hl)⟩ (.cons ⟨z2, rfl, hz3.same (same_upd hl)⟩ .nil)
theorem ok_some_or_rest : FnOk P w K mg base CX0 7 T.f_some_or_rest T.fd_some_or_rest ["some", "told"] (spSor T) := by
  refine T.F_some_or_rest.ok scSomeOrRest (fun vs H Q E h => ?_) (fun cdv A outer s H vs Q E hr h => ?_)
  · obtain ⟨p, k, xs, ps, rfl, _⟩ := h
    rfl
  · obtain ⟨p, k, xs, ps, rfl, hp, hs, hl, hw, tb, q⟩ := h
    refine ⟨_,
      (pss_one (ps_ret (pe_ifExp (pt_val (pv 1)) (pe_callN (okjoined T) (hr.mono (by decide)) (by rfl) T.gjoined T.Fjoined.kp (kb_joined_1 T).choose_spec pass0 (pa_cons (pv 0) pa_nil) pk_nil) (pe_call (okgaps T) (hr.mono (by decide)) (by rfl) T.ggaps T.Fgaps.kp T.bgaps .nil pass0 (pa_cons (pv 0) (pa_cons (pe_makeN (mk_Stretch T) (okStretch___init__ T) (hr.mono (by decide)) (by rfl) T.gCStretch (kb_Stretch___init___3 T).choose_spec pass0 (pa_cons pe_int (pa_cons (pe_glob (v := .int 10080) (by rfl) T.mMINUTES ⟨_, rfl⟩) pa_nil)) pk_nil) pa_nil))))))
      , ?_⟩
    have hb : ∀ q ∈ ps, q.1 ≤ q.2 ∧ q.2 - q.1 < 2 ^ 61 := fun q hq => ⟨(hw q hq).2.1, by have := hw q hq; omega⟩
    walk_at "s"
    cases k with
    | true =>
      refine iteT ?_
      walk_at "s"
      refine ⟨p, 0, xs, ps, rfl, Int.le_refl 0, hp, hs, by omega, hb, tb, fun r ys H1 s1 hr1 er1 hys => ?_⟩
      exact q r ys H1 s1 hr1 er1 hys
    | false =>
      refine iteF ?_
      walk_at "s"
      refine mkStr (a := 0) (b := 10080) (y := .int 10080) (.inl rfl) (by omega) fun z H1 hz hz1 s1 => ?_
      walk_at "s"
      refine ⟨p, z, 0, 10080, xs, ps, rfl, sqL_same hp s1, hs.same s1, hz1, by omega, hl, hb, tb.ext s1, fun r ys H2 s2 hr2 er2 hys => ?_⟩
      exact q r ys H2 (s1.sm.trans s2) (s1.free hr2) er2 hys
end
set_option maxHeartbeats 8000000
local macro_rules | `(tactic| walk_at "c") => `(tactic| first | omega | decide | exact ⟨by omega, by omega⟩ | exact ⟨by decide, by decide⟩ | exact .inl ⟨by omega, by omega⟩ | exact .inr ⟨by omega, by omega⟩ | exact ⟨by omega, by omega, by omega⟩ | exact ⟨by decide, by decide, by decide⟩ | exact le_line (Nat.le_of_ble_eq_true rfl))
local macro_rules | `(tactic| walk_at "a") => `(tactic| with_reducible (first | refine i_seq ?_ | refine i_asg ?_ | refine i_cons ?_ | refine i_c ?_ | refine i_nil ?_ | refine i_op ?_ | refine i_call ?_ | refine i_cb ?_ | refine i_name ?_ | refine i_next ?_ | refine i_ret ?_ | refine i_drop ?_ | refine i_if ?_ | refine i_test ?_ | refine i_and ?_ | refine i_or ?_ | refine i_not ?_ | refine i_ite ?_ | refine i_lst ?_ | refine i_tup ?_ | refine i_bm ?_ | refine i_un ?_ | refine i_par ?_ | refine i_gsub ?_ | refine i_chain ?_ | refine i_sl ?_ | refine i_nopart ?_ | refine i_part ?_ | refine i_m1 ?_ | refine i_m0 ?_ | refine i_lc ?_ | refine i_iList ?_ | refine i_iTup ?_ | refine i_iStr ?_ | refine i_r1 ?_ | refine i_set ?_ | refine i_callk ?_ | refine i_callN ?_ | refine i_ckw ?_ | refine i_revL ?_ | refine i_tB ?_ | refine i_fld ?_ | refine i_sfld ?_ | refine i_make ?_ | refine i_makeN ?_ | refine i_meth ?_ | refine i_andV ?_ | refine i_orV ?_ | refine i_notV ?_ | refine iteT ?_ | refine iteF ?_ | refine i_yes ?_))
local macro_rules | `(tactic| walk_at "s") => `(tactic| repeat (first | walk_at "a" | refine i_var rfl ?_ | refine i_aug rfl ?_ | refine And.intro ⟨_, rfl⟩ ?_ | refine ⟨_, rfl, ?_⟩ | refine ⟨_, _, rfl, rfl, ?_⟩ | refine ⟨_, _, rfl, ?_⟩ | refine ⟨rfl, ?_⟩ | refine And.intro (by walk_at "c") ?_))
section
open LamX (Tabs)
theorem flat_take (g : Nat → List Pr2) (i : Nat) : (List.range (i + 1)).flatMap g = (List.range i).flatMap g ++ g i := by
  rw [List.range_succ, List.flatMap_append]; simp
theorem upd_at' {H : Hp} {l D : Addr} {o u : HO} (n : l ≠ D) (e : H l = some o) : (upd H D u) l = some o := by rw [upd_ne n]; exact e
theorem StrAt.mono_upd {C : Addr} {H : Hp} {p D : Addr} {a b : Int} {ys : List V} {o : HO} (h : StrAt C H p a b) (hD : H D = some (.lst ys)) : StrAt C (upd H D o) p a b := by
  obtain ⟨dx, e⟩ := h
  exact ⟨dx, by rw [upd_ne (ne_of e hD (by intro z; cases z))]; exact e⟩
variable {P : Program} {w : World} {K : PySem.W.Frag} {mg : Str → Option Value} {base : Heap} (T : Ev K mg base)
theorem ok_where_alone : FnOk P w K mg base CX0 5 T.f_where_alone T.fd_where_alone ["rule"] (spAlone T) := by
  refine T.F_where_alone.ok scWhereAlone (fun vs H Q E h => ?_) (fun cdv A outer s H vs Q E hr h => ?_)
  · obtain ⟨x, r, d, rfl, _⟩ := h
    rfl
  · obtain ⟨x, r, d, rfl, hx, hf, hk, q⟩ := h
    refine ⟨_,
      (pss_cons (ps_if (pt_val (pe_callB call_isi (by rfl) T.misinstance (by decide +kernel) (pa_cons (pv 0) (pa_cons (pe_glob (v := .ref T.CDays) (by rfl) T.gCDays rfl) pa_nil))))
      (pss_one (ps_ret (pe_lc (own := [("day", 1)]) (g := gName 1) (tt := tYes) rfl scWhereAlone.nd (pi_tup (pe_fld (pv 0) rfl)) (blkOk_by (N := NWhereAlone) (own := [("day", 1)]) (sc := defScope sWhereAlone) (by decide +kernel)) (fun _ _ _ _ _ => pg_name (i := 1) scWhereAlone.nd rfl (Or.inl rfl)) (fun _ _ _ _ _ => pts_nil) (fun _ _ _ _ _ => (pe_makeN (mk_Stretch T) (okStretch___init__ T) (hr.mono (by decide)) (by rfl) T.gCStretch (kb_Stretch___init___3 T).choose_spec pass0 (pa_cons (pe_op op_mul (pv 1) (pe_glob (v := .int 1440) (by rfl) T.mDAY ⟨_, rfl⟩)) (pa_cons (pe_op op_mul (pe_op op_add (pv 1) pe_int) (pe_glob (v := .int 1440) (by rfl) T.mDAY ⟨_, rfl⟩)) pa_nil)) pk_nil)))))
      pss_nil)
      (pss_cons (ps_if (pt_val (pe_callB call_isi (by rfl) T.misinstance (by decide +kernel) (pa_cons (pv 0) (pa_cons (pe_glob (v := .ref T.CHours) (by rfl) T.gCHours rfl) pa_nil))))
      (pss_one (ps_ret (pe_lc2 (own := [("day", 1), ("stretch", 2)]) (vs1 := [2]) (g := gName 1) (g1 := gName 2) (wi1 := iList K _) (tt := tYes) (tt1 := tYes) rfl scWhereAlone.nd (pi_range1 (by rfl) T.mrange (pa_cons (pe_glob (v := .int 7) (by rfl) T.mWEEK ⟨_, rfl⟩) pa_nil)) (blkOk_by (N := NWhereAlone) (own := [("day", 1), ("stretch", 2)]) (sc := defScope sWhereAlone) (by decide +kernel)) (by decide) (fun _ _ _ _ _ => pg_name (i := 1) scWhereAlone.nd rfl (Or.inl rfl)) (fun _ _ _ _ _ => pts_nil) (fun _ _ _ _ _ => (pi_list (pe_call (ok_hours_of T) (hr.mono (by decide)) (by rfl) T.g_hours_of T.F_hours_of.kp T.b_hours_of .nil pass0 (pa_cons (pv 0) (pa_cons (pe_op op_mul (pv 1) (pe_glob (v := .int 1440) (by rfl) T.mDAY ⟨_, rfl⟩)) pa_nil))))) (fun _ _ _ _ _ => pg_name (i := 2) scWhereAlone.nd rfl (Or.inl rfl)) (fun _ _ _ _ _ => pts_nil) (fun _ _ _ _ _ => (pv 2)))))
      pss_nil)
      (pss_one (ps_ret (pe_lst (pa_cons (pe_makeN (mk_Stretch T) (okStretch___init__ T) (hr.mono (by decide)) (by rfl) T.gCStretch (kb_Stretch___init___3 T).choose_spec pass0 (pa_cons pe_int (pa_cons (pe_glob (v := .int 10080) (by rfl) T.mMINUTES ⟨_, rfl⟩) pa_nil)) pk_nil) pa_nil))))))
      , ?_⟩
    cases d with
    | zero => exact hx.elim
    | succ d =>
    obtain ⟨p, dx, fs, rfl, hp, hfs⟩ := id hx
    walk_at "s"
    refine ⟨_, _, _, _, _, rfl, .own T.CDays, isRule T hp, kit_d T _ hk, ?_⟩
    rcases hk with hk | hk
    · obtain ⟨f, b, rfl⟩ : ∃ f b, r = .hours f b := by cases r <;> first | exact ⟨_, _, rfl⟩ | cases hk
      have hp' : H p = some (.ins T.CHours dx fs) := hp
      obtain rfl : fs = hoF f b := hfs
      walk_at "s"
      refine ⟨_, _, _, _, true, rfl, .own T.CHours, isRule T hp, kitC, ?_⟩
      walk_at "s"
      intro D hD
      refine w_rng (lo := 0) (n := 7) (fun i H' => ∃ acc, H' D = some (.lst acc) ∧ StrsAt T.CStretch H' acc ((List.range i).flatMap fun (j : Nat) => hoursOf f b ((0 + (j : Int)) * 1440)) ∧ Same H H') ⟨[], upd_same, .nil, same_upd hD⟩ ?_ ?_
      · rintro i H1 hi ⟨acc, eD, hacc, s1⟩
        walk_at "s"
        refine ⟨.ref p, _, f, b, d + 1, rfl, hx.same T s1, hf, fun l ys H2 s2 hl el hys => ?_⟩
        have eD2 := s2 _ _ eD
        have nlD : l ≠ D := fun z => by rw [z, eD] at hl; cases hl
        refine ⟨l, rfl, ⟨_, SqL.of el⟩, ?_⟩
        have hyl := hys.len
        have h2 := hoursOf_len f b ((0 + (i : Int)) * 1440)
        have hal := hacc.len
        have hfl : ((List.range i).flatMap fun (j : Nat) => hoursOf f b ((0 + (j : Int)) * 1440)).length ≤ 2 * i := by
          clear hacc hal eD eD2 hys hyl h2 q hi
          induction i with
          | zero => simp
          | succ i ih => rw [flat_take, List.length_append]; have := hoursOf_len f b ((0 + (i : Int)) * 1440); omega
        refine w_list (K := K) (a := l) (xs := ys) (fun j H' => ∃ acc, H' D = some (.lst acc) ∧ StrsAt T.CStretch H' acc (((List.range i).flatMap fun (j : Nat) => hoursOf f b ((0 + (j : Int)) * 1440)) ++ (hoursOf f b ((0 + (i : Int)) * 1440)).take j) ∧ H' l = some (.lst ys) ∧ StrsAt T.CStretch H' ys (hoursOf f b ((0 + (i : Int)) * 1440)) ∧ Same H H')
          ⟨acc, eD2, by rw [List.take_zero, List.append_nil]; exact hacc.same s2, el, hys, s1.trans s2⟩ (fun j H' _ z => SqL.of z.choose_spec.2.2.1) ?_ ?_
        · rintro j x H3 hxj ⟨acc3, eD3, hacc3, el3, hys3, s3⟩
          obtain ⟨y, f1, g1, rfl, hpi, hy⟩ := hys3.at hxj
          have hj : j < ys.length := (List.getElem?_eq_some_iff.mp hxj).1
          have hl3 := hacc3.len
          rw [List.length_append, List.length_take] at hl3
          walk_at "s"
          refine ⟨acc3, eD3, lt_line (by omega), acc3 ++ [.ref y], upd_same, ?_, upd_at' nlD el3, hys3.upd eD3, app_same hD s3⟩
          rw [List.take_succ, hpi, Option.toList_some, ← List.append_assoc]
          exact (hacc3.upd eD3).snoc (hy.mono_upd eD3)
        · rintro H3 ⟨acc3, eD3, hacc3, el3, hys3, s3⟩
          rw [hyl, List.take_length, ← flat_take] at hacc3
          exact ⟨acc3, eD3, hacc3, s3⟩
      · rintro H1 ⟨acc, eD, hacc, s1⟩
        exact q D acc H1 s1 hD eD hacc
    · obtain ⟨ds, rfl⟩ : ∃ ds, r = .days ds := by cases r <;> first | exact ⟨_, rfl⟩ | cases hk
      have hp' : H p = some (.ins T.CDays dx fs) := hp
      obtain ⟨t, rfl, ht⟩ : ∃ t, fs = oneF "days" (.ref t) ∧ H t = some (.tup (ds.map .int)) := hfs
      have h7 := fine_days hf
      walk_at "s"
      refine ⟨p, T.CDays, dx, _, _, rfl, hp', cl_Days T, T.nDays_days, oneF_at _ _, ?_⟩
      refine ⟨t, rfl, ⟨_, SqT.of ht⟩, fun D hD => ?_⟩
      refine lc_tup (K := K) (a := t) (xs := ds.map .int) (fun i H' => ∃ acc, H' D = some (.lst acc) ∧ StrsAt T.CStretch H' acc (weekDays (ds.take i)) ∧ Same H H') ⟨[], upd_same, .nil, same_upd hD⟩ (fun i H' _ z => SqT.of (z.choose_spec.2.2 _ _ ht)) ?_ ?_
      · rintro i x H1 hx ⟨acc, eD, hacc, s1⟩
        obtain ⟨d0, hd0, rfl⟩ : ∃ d0, ds[i]? = some d0 ∧ x = .int d0 := by
          rw [List.getElem?_map] at hx
          cases e : ds[i]? with
          | none => rw [e] at hx; cases hx
          | some d0 => rw [e] at hx; cases hx; exact ⟨d0, rfl, rfl⟩
        have hal := hacc.len
        have : (weekDays (ds.take i)).length ≤ 7 := by unfold weekDays; rw [List.length_map, List.length_take]; omega
        walk_at "s"
        refine mkStr (a := d0 * 1440) (b := (d0 + 1) * 1440) (y := .int ((d0 + 1) * 1440)) (.inl rfl) (by omega) fun z H2 hz hz1 s2 => ?_
        have eD2 := s2 _ _ eD
        refine ⟨acc, eD2, lt_line (by omega), acc ++ [.ref z], upd_same, ?_, app_same hD (s1.trans s2)⟩
        rw [List.take_succ, hd0, Option.toList_some]
        unfold weekDays
        rw [List.map_append]
        exact ((hacc.same s2).upd eD2).snoc (hz1.mono_upd eD2)
      · rintro H1 ⟨acc, eD, hacc, s1⟩
        rw [List.length_map, List.take_length] at hacc
        exact q D acc H1 s1 hD eD hacc
end
set_option maxHeartbeats 8000000
local macro_rules | `(tactic| walk_at "c") => `(tactic| first | omega | decide | exact ⟨by omega, by omega⟩ | exact ⟨by decide, by decide⟩ | exact .inl ⟨by omega, by omega⟩ | exact .inr ⟨by omega, by omega⟩ | exact ⟨by omega, by omega, by omega⟩ | exact ⟨by decide, by decide, by decide⟩ | exact le_line (Nat.le_of_ble_eq_true rfl))
local macro_rules | `(tactic| walk_at "a") => `(tactic| with_reducible (first | refine i_seq ?_ | refine i_asg ?_ | refine i_cons ?_ | refine i_c ?_ | refine i_nil ?_ | refine i_op ?_ | refine i_call ?_ | refine i_cb ?_ | refine i_name ?_ | refine i_next ?_ | refine i_ret ?_ | refine i_drop ?_ | refine i_if ?_ | refine i_test ?_ | refine i_and ?_ | refine i_or ?_ | refine i_not ?_ | refine i_ite ?_ | refine i_lst ?_ | refine i_tup ?_ | refine i_bm ?_ | refine i_un ?_ | refine i_par ?_ | refine i_gsub ?_ | refine i_chain ?_ | refine i_sl ?_ | refine i_nopart ?_ | refine i_part ?_ | refine i_m1 ?_ | refine i_m0 ?_ | refine i_lc ?_ | refine i_iList ?_ | refine i_iTup ?_ | refine i_iStr ?_ | refine i_r1 ?_ | refine i_set ?_ | refine i_callk ?_ | refine i_callN ?_ | refine i_ckw ?_ | refine i_revL ?_ | refine i_tB ?_ | refine i_fld ?_ | refine i_sfld ?_ | refine i_make ?_ | refine i_makeN ?_ | refine i_meth ?_ | refine i_andV ?_ | refine i_orV ?_ | refine i_notV ?_ | refine iteT ?_ | refine iteF ?_ | refine i_yes ?_))
local macro_rules | `(tactic| walk_at "s") => `(tactic| repeat (first | walk_at "a" | refine i_var rfl ?_ | refine i_aug rfl ?_ | refine And.intro ⟨_, rfl⟩ ?_ | refine ⟨_, rfl, ?_⟩ | refine ⟨_, _, rfl, rfl, ?_⟩ | refine ⟨_, _, rfl, ?_⟩ | refine ⟨rfl, ?_⟩ | refine And.intro (by walk_at "c") ?_))
section
open LamX (Tabs)
variable {P : Program} {w : World} {K : PySem.W.Frag} {mg : Str → Option Value} {base : Heap} (T : Ev K mg base)
theorem nodes_pos : ∀ (rs : List RT) {r : RT}, r ∈ rs → r.nodes ≤ RT.nodess rs
  | [], _, h => by cases h
  | x :: rs, r, h => by
    rw [RT.nodess]
    rcases List.mem_cons.mp h with rfl | h
    · omega
    · have := nodes_pos rs h; omega
theorem fines_mem : ∀ (rs : List RT) {r : RT}, RT.fines rs = true → r ∈ rs → r.fine = true
  | [], _, _, h => by cases h
  | x :: rs, r, hf, h => by
    have hf : x.fine = true ∧ RT.fines rs = true := by simpa [RT.fines] using hf
    rcases List.mem_cons.mp h with rfl | h
    · exact hf.1
    · exact fines_mem rs hf.2 h
theorem fines_take : ∀ (rs : List RT) (i : Nat), RT.fines rs = true → RT.fines (rs.take i) = true ∧ RT.nodess (rs.take i) ≤ RT.nodess rs
  | [], i, h => by rw [List.take_nil]; exact ⟨h, Nat.le_refl _⟩
  | x :: rs, 0, h => by rw [List.take_zero]; exact ⟨rfl, Nat.zero_le _⟩
  | x :: rs, i + 1, h => by
    have h : x.fine = true ∧ RT.fines rs = true := by simpa [RT.fines] using h
    obtain ⟨a, b⟩ := fines_take rs i h.2
    rw [List.take_succ_cons, RT.nodess, RT.nodess]
    exact ⟨by simp [RT.fines, h.1, a], by omega⟩
theorem wps_take {rs : List RT} {i : Nat} {r : RT} {k : Bool} (h : rs[i]? = some r) : wps (rs.take (i + 1)) k = wps (rs.take i) k ++ wp r k := by
  rw [List.take_succ, h, Option.toList_some, wps_app]
  simp [wps]
theorem ok_where : ∀ d : Nat, FnOk P w K mg base CX0 (d + 8) T.f_where T.fd_where ["rule", "allowed"] (spWhere T d) := by
  intro d
  induction d with
  | zero => exact ok_none T.F_where scWhere fun vs H Q E ⟨_, _, _, _, h, _⟩ => h
  | succ d ihd => ?_
  have ih : Ev K mg base → FnOk P w K mg base CX0 (d + 8) T.f_where T.fd_where ["rule", "allowed"] (spWhere T d) := fun _ => ihd
  refine T.F_where.ok scWhere (fun vs H Q E h => ?_) (fun cdv A outer s H vs Q E hr h => ?_)
  · obtain ⟨x, r, k, rfl, _⟩ := h
    rfl
  · obtain ⟨x, r, k, rfl, hx, hf, hn, tb, q⟩ := h
    refine ⟨_,
      (pss_cons (ps_if (pt_val (pe_callB call_isi (by rfl) T.misinstance (by decide +kernel) (pa_cons (pv 0) (pa_cons (pe_glob (v := .ref T.CUnless) (by rfl) T.gCUnless rfl) pa_nil))))
      (pss_one (ps_ret (pe_call (ih T) (hr.mono (by omega)) (by rfl) T.g_where T.F_where.kp T.b_where .nil pass0 (pa_cons (pe_fld (pv 0) rfl) (pa_cons (pe_not (pv 1)) pa_nil)))))
      pss_nil)
      (pss_cons (ps_if (pt_val (pe_callB call_isi (by rfl) T.misinstance (by decide +kernel) (pa_cons (pv 0) (pa_cons (pe_glob (v := .ref T.CBoth) (by rfl) T.gCBoth rfl) pa_nil))))
      (pss_cons (ps_setLc2 (i := 2) (own := [("part", 3), ("stretch", 4)]) (vs1 := [4]) (g := gName 3) (g1 := gName 4) (wi1 := iList K _) (tt := tYes) (tt1 := tYes) rfl scWhere.nd rfl rfl (sw_true rfl rfl rfl (by decide +kernel)) (pi_tup (pe_fld (pv 0) rfl)) (blkOk_by (N := NWhere) (own := [("part", 3), ("stretch", 4)]) (sc := defScope sWhere) (by decide +kernel)) (by decide) (fun _ _ _ _ _ => pg_name (i := 3) scWhere.nd rfl (Or.inl rfl)) (fun _ _ _ _ _ => pts_nil) (fun _ _ _ _ _ => (pi_list (pe_call (ih T) (hr.mono (by omega)) (by rfl) T.g_where T.F_where.kp T.b_where .nil pass0 (pa_cons (pv 3) (pa_cons pe_bl pa_nil))))) (fun _ _ _ _ _ => pg_name (i := 4) scWhere.nd rfl (Or.inl rfl)) (fun _ _ _ _ _ => pts_nil) (fun _ _ _ _ _ => (pv 4)))
      (pss_one (ps_ret (pe_call (ok_some_or_rest T) (hr.mono (by omega)) (by rfl) T.g_some_or_rest T.F_some_or_rest.kp T.b_some_or_rest .nil pass0 (pa_cons (pv 2) (pa_cons (pe_not (pv 1)) pa_nil))))))
      pss_nil)
      (pss_cons (ps_if (pt_val (pe_callB call_isi (by rfl) T.misinstance (by decide +kernel) (pa_cons (pv 0) (pa_cons (pe_glob (v := .ref T.CEither) (by rfl) T.gCEither rfl) pa_nil))))
      (pss_cons (ps_setLc2 (i := 2) (own := [("part", 3), ("stretch", 4)]) (vs1 := [4]) (g := gName 3) (g1 := gName 4) (wi1 := iList K _) (tt := tYes) (tt1 := tYes) rfl scWhere.nd rfl rfl (sw_true rfl rfl rfl (by decide +kernel)) (pi_tup (pe_fld (pv 0) rfl)) (blkOk_by (N := NWhere) (own := [("part", 3), ("stretch", 4)]) (sc := defScope sWhere) (by decide +kernel)) (by decide) (fun _ _ _ _ _ => pg_name (i := 3) scWhere.nd rfl (Or.inl rfl)) (fun _ _ _ _ _ => pts_nil) (fun _ _ _ _ _ => (pi_list (pe_call (ih T) (hr.mono (by omega)) (by rfl) T.g_where T.F_where.kp T.b_where .nil pass0 (pa_cons (pv 3) (pa_cons pe_bl pa_nil))))) (fun _ _ _ _ _ => pg_name (i := 4) scWhere.nd rfl (Or.inl rfl)) (fun _ _ _ _ _ => pts_nil) (fun _ _ _ _ _ => (pv 4)))
      (pss_one (ps_ret (pe_call (ok_some_or_rest T) (hr.mono (by omega)) (by rfl) T.g_some_or_rest T.F_some_or_rest.kp T.b_some_or_rest .nil pass0 (pa_cons (pv 2) (pa_cons (pv 1) pa_nil))))))
      pss_nil)
      (pss_one (ps_ret (pe_call (ok_some_or_rest T) (hr.mono (by omega)) (by rfl) T.g_some_or_rest T.F_some_or_rest.kp T.b_some_or_rest .nil pass0 (pa_cons (pe_call (ok_where_alone T) (hr.mono (by omega)) (by rfl) T.g_where_alone T.F_where_alone.kp T.b_where_alone .nil pass0 (pa_cons (pv 0) pa_nil)) (pa_cons (pv 1) pa_nil))))))))
      , ?_⟩
    obtain ⟨p, dx, fs, rfl, hp, hfs⟩ := id hx
    walk_at "s"
    refine ⟨_, _, _, _, _, rfl, .own T.CUnless, isRule T hp, kit_u T _, ?_⟩
    cases r with
    | unl r =>
      have hp' : H p = some (.ins T.CUnless dx fs) := hp
      obtain ⟨y, rfl, hy⟩ : ∃ x, fs = oneF "rule" x ∧ RuleAt T H d x r := hfs
      walk_at "s"
      refine ⟨p, T.CUnless, dx, _, y, rfl, hp', cl_Unless T, T.nUnless_rule, oneF_at _ _, ?_⟩
      walk_at "s"
      refine ⟨y, r, !k, rfl, hy, by simpa [RT.fine] using hf, by rw [RT.nodes] at hn; omega, tb, fun l ys H1 s1 hl el hys => ?_⟩
      refine q l ys H1 s1 hl el ?_
      rw [wp]; exact hys
    | hours f b =>
      walk_at "s"
      refine ⟨_, _, _, _, _, rfl, .own T.CBoth, isRule T hp, kit_b T _ (by intro z; cases z), ?_⟩
      walk_at "s"
      refine ⟨_, _, _, _, _, rfl, .own T.CEither, isRule T hp, kit_e T _ (by intro z; cases z) (by intro z; cases z), ?_⟩
      walk_at "s"
      refine ⟨.ref p, _, d + 1, rfl, hx, hf, .inl rfl, fun l ys H1 s1 hl el hys => ?_⟩
      walk_at "s"
      refine ⟨l, k, ys, _, rfl, SqL.of el, hys, ?_, weekHours_in (fine_hours hf), tb.ext s1, fun l2 zs H2 s2 hl2 el2 hzs => ?_⟩
      · have := weekHours_len f b; show (weekHours f b).length ≤ _; omega
      refine q l2 zs H2 (s1.sm.trans s2) (s1.free hl2) el2 ?_
      rw [wp]; exact hzs
    | days ds =>
      walk_at "s"
      refine ⟨_, _, _, _, _, rfl, .own T.CBoth, isRule T hp, kit_b T _ (by intro z; cases z), ?_⟩
      walk_at "s"
      refine ⟨_, _, _, _, _, rfl, .own T.CEither, isRule T hp, kit_e T _ (by intro z; cases z) (by intro z; cases z), ?_⟩
      walk_at "s"
      refine ⟨.ref p, _, d + 1, rfl, hx, hf, .inr rfl, fun l ys H1 s1 hl el hys => ?_⟩
      walk_at "s"
      refine ⟨l, k, ys, _, rfl, SqL.of el, hys, ?_, weekDays_in (fine_days hf).1, tb.ext s1, fun l2 zs H2 s2 hl2 el2 hzs => ?_⟩
      · have := (fine_days hf).2; show (weekDays ds).length ≤ _; unfold weekDays; rw [List.length_map]; omega
      refine q l2 zs H2 (s1.sm.trans s2) (s1.free hl2) el2 ?_
      rw [wp]; exact hzs
    | both rs => ?both
    | eith rs => ?eith
    case both =>
      have hp' : H p = some (.ins T.CBoth dx fs) := hp
      obtain ⟨t, xs, rfl, ht, hln, hxs⟩ : ∃ t xs, fs = oneF "rules" (.ref t) ∧ H t = some (.tup xs) ∧ rs.length ≤ 1000 ∧ Paired (RuleAt T H d) xs rs := hfs
      have hlen := Paired.length hxs
      have hfr : RT.fines rs = true := by simpa [RT.fine] using hf
      rw [RT.nodes] at hn
      walk_at "s"
      refine ⟨_, _, _, _, _, rfl, .own T.CBoth, isRule T hp, kit_b T _ (by intro z; cases z), ?_⟩
      walk_at "s"
      refine ⟨p, T.CBoth, dx, _, _, rfl, hp', cl_Both T, T.nBoth_rules, oneF_at _ _, ?_⟩
      refine ⟨t, rfl, ⟨_, SqT.of ht⟩, fun D hD => ?_⟩
      refine w_tup (K := K) (a := t) (xs := xs) (fun i H' => ∃ acc, H' D = some (.lst acc) ∧ StrsAt T.CStretch H' acc (wps (rs.take i) false) ∧ Sm (TT T) H H') ⟨[], upd_same, by rw [List.take_zero, wps]; exact .nil, sm_upd hD⟩ (fun i H' _ z => SqT.of (z.choose_spec.2.2.at ht)) ?_ ?_
      · rintro i x H1 hx ⟨acc, eD, hacc, s1⟩
        obtain ⟨r, hr1, hr2⟩ := paired_at hxs hx
        have hrm : r ∈ rs := List.mem_of_getElem? hr1
        have hnr := nodes_pos rs hrm
        have hft := fines_take rs i hfr
        walk_at "s"
        refine ⟨x, r, false, rfl, hr2.mono T (solid_sm s1), fines_mem rs hfr hrm, by omega, s1.2.1 tb, fun l ys H2 s2 hl el hys => ?_⟩
        have eD2 := s2.at eD
        have nlD : l ≠ D := fun z => by rw [z, eD] at hl; cases hl
        refine ⟨l, rfl, ⟨_, SqL.of el⟩, ?_⟩
        have hyl := hys.len
        have h2 := (wp_in r false (fines_mem rs hfr hrm)).2
        have h3 := (wps_in (rs.take i) false hft.1).2
        have hal := hacc.len
        refine w_list (K := K) (a := l) (xs := ys) (fun j H' => ∃ acc, H' D = some (.lst acc) ∧ StrsAt T.CStretch H' acc (wps (rs.take i) false ++ (wp r false).take j) ∧ H' l = some (.lst ys) ∧ StrsAt T.CStretch H' ys (wp r false) ∧ Sm (TT T) H H')
          ⟨acc, eD2, by rw [List.take_zero, List.append_nil]; exact hacc.sm s2, el, hys, s1.trans s2⟩ (fun j H' _ z => SqL.of z.choose_spec.2.2.1) ?_ ?_
        · rintro j x H3 hxj ⟨acc3, eD3, hacc3, el3, hys3, s3⟩
          obtain ⟨y, f1, g1, rfl, hpi, hy⟩ := hys3.at hxj
          have hj : j < ys.length := (List.getElem?_eq_some_iff.mp hxj).1
          have hl3 := hacc3.len
          rw [List.length_append, List.length_take] at hl3
          walk_at "s"
          refine ⟨acc3, eD3, lt_line (by omega), acc3 ++ [.ref y], upd_same, ?_, upd_at' nlD el3, hys3.upd eD3, s3.lst hD eD3⟩
          rw [List.take_succ, hpi, Option.toList_some, ← List.append_assoc]
          exact (hacc3.upd eD3).snoc (hy.mono_upd eD3)
        · rintro H3 ⟨acc3, eD3, hacc3, el3, hys3, s3⟩
          rw [hyl, List.take_length, ← wps_take hr1] at hacc3
          exact ⟨acc3, eD3, hacc3, s3⟩
      · rintro H1 ⟨acc, eD, hacc, s1⟩
        rw [hlen, List.take_length] at hacc
        have h3 := wps_in rs false hfr
        walk_at "s"
        refine ⟨D, !k, acc, _, rfl, SqL.of eD, hacc, by omega, h3.1, s1.2.1 tb, fun l ys H2 s2 hl el hys => ?_⟩
        refine q l ys H2 (s1.trans s2) (s1.none hl) el ?_
        rw [wp]; exact hys
    case eith =>
      have hp' : H p = some (.ins T.CEither dx fs) := hp
      obtain ⟨t, xs, rfl, ht, hln, hxs⟩ : ∃ t xs, fs = oneF "rules" (.ref t) ∧ H t = some (.tup xs) ∧ rs.length ≤ 1000 ∧ Paired (RuleAt T H d) xs rs := hfs
      have hlen := Paired.length hxs
      have hfr : RT.fines rs = true := by simpa [RT.fine] using hf
      rw [RT.nodes] at hn
      walk_at "s"
      refine ⟨_, _, _, _, _, rfl, .own T.CBoth, isRule T hp, kit_b T _ (by intro z; cases z), ?_⟩
      walk_at "s"
      refine ⟨_, _, _, _, _, rfl, .own T.CEither, isRule T hp, kit_e T _ (by intro z; cases z) (by intro z; cases z), ?_⟩
      walk_at "s"
      refine ⟨p, T.CEither, dx, _, _, rfl, hp', cl_Either T, T.nEither_rules, oneF_at _ _, ?_⟩
      refine ⟨t, rfl, ⟨_, SqT.of ht⟩, fun D hD => ?_⟩
      refine w_tup (K := K) (a := t) (xs := xs) (fun i H' => ∃ acc, H' D = some (.lst acc) ∧ StrsAt T.CStretch H' acc (wps (rs.take i) true) ∧ Sm (TT T) H H') ⟨[], upd_same, by rw [List.take_zero, wps]; exact .nil, sm_upd hD⟩ (fun i H' _ z => SqT.of (z.choose_spec.2.2.at ht)) ?_ ?_
      · rintro i x H1 hx ⟨acc, eD, hacc, s1⟩
        obtain ⟨r, hr1, hr2⟩ := paired_at hxs hx
        have hrm : r ∈ rs := List.mem_of_getElem? hr1
        have hnr := nodes_pos rs hrm
        have hft := fines_take rs i hfr
        walk_at "s"
        refine ⟨x, r, true, rfl, hr2.mono T (solid_sm s1), fines_mem rs hfr hrm, by omega, s1.2.1 tb, fun l ys H2 s2 hl el hys => ?_⟩
        have eD2 := s2.at eD
        have nlD : l ≠ D := fun z => by rw [z, eD] at hl; cases hl
        refine ⟨l, rfl, ⟨_, SqL.of el⟩, ?_⟩
        have hyl := hys.len
        have h2 := (wp_in r true (fines_mem rs hfr hrm)).2
        have h3 := (wps_in (rs.take i) true hft.1).2
        have hal := hacc.len
        refine w_list (K := K) (a := l) (xs := ys) (fun j H' => ∃ acc, H' D = some (.lst acc) ∧ StrsAt T.CStretch H' acc (wps (rs.take i) true ++ (wp r true).take j) ∧ H' l = some (.lst ys) ∧ StrsAt T.CStretch H' ys (wp r true) ∧ Sm (TT T) H H')
          ⟨acc, eD2, by rw [List.take_zero, List.append_nil]; exact hacc.sm s2, el, hys, s1.trans s2⟩ (fun j H' _ z => SqL.of z.choose_spec.2.2.1) ?_ ?_
        · rintro j x H3 hxj ⟨acc3, eD3, hacc3, el3, hys3, s3⟩
          obtain ⟨y, f1, g1, rfl, hpi, hy⟩ := hys3.at hxj
          have hj : j < ys.length := (List.getElem?_eq_some_iff.mp hxj).1
          have hl3 := hacc3.len
          rw [List.length_append, List.length_take] at hl3
          walk_at "s"
          refine ⟨acc3, eD3, lt_line (by omega), acc3 ++ [.ref y], upd_same, ?_, upd_at' nlD el3, hys3.upd eD3, s3.lst hD eD3⟩
          rw [List.take_succ, hpi, Option.toList_some, ← List.append_assoc]
          exact (hacc3.upd eD3).snoc (hy.mono_upd eD3)
        · rintro H3 ⟨acc3, eD3, hacc3, el3, hys3, s3⟩
          rw [hyl, List.take_length, ← wps_take hr1] at hacc3
          exact ⟨acc3, eD3, hacc3, s3⟩
      · rintro H1 ⟨acc, eD, hacc, s1⟩
        rw [hlen, List.take_length] at hacc
        have h3 := wps_in rs true hfr
        walk_at "s"
        refine ⟨D, k, acc, _, rfl, SqL.of eD, hacc, by omega, h3.1, s1.2.1 tb, fun l ys H2 s2 hl el hys => ?_⟩
        refine q l ys H2 (s1.trans s2) (s1.none hl) el ?_
        rw [wp]; exact hys
end
set_option maxHeartbeats 8000000
local macro_rules | `(tactic| walk_at "c") => `(tactic| first | omega | decide | exact ⟨by omega, by omega⟩ | exact ⟨by decide, by decide⟩ | exact .inl ⟨by omega, by omega⟩ | exact .inr ⟨by omega, by omega⟩ | exact ⟨by omega, by omega, by omega⟩ | exact ⟨by decide, by decide, by decide⟩ | exact le_line (Nat.le_of_ble_eq_true rfl))
local macro_rules | `(tactic| walk_at "a") => `(tactic| with_reducible (first | refine i_seq ?_ | refine i_asg ?_ | refine i_cons ?_ | refine i_c ?_ | refine i_nil ?_ | refine i_op ?_ | refine i_call ?_ | refine i_cb ?_ | refine i_name ?_ | refine i_next ?_ | refine i_ret ?_ | refine i_drop ?_ | refine i_if ?_ | refine i_test ?_ | refine i_and ?_ | refine i_or ?_ | refine i_not ?_ | refine i_ite ?_ | refine i_lst ?_ | refine i_tup ?_ | refine i_bm ?_ | refine i_un ?_ | refine i_par ?_ | refine i_gsub ?_ | refine i_chain ?_ | refine i_sl ?_ | refine i_nopart ?_ | refine i_part ?_ | refine i_m1 ?_ | refine i_m0 ?_ | refine i_lc ?_ | refine i_iList ?_ | refine i_iTup ?_ | refine i_iStr ?_ | refine i_r1 ?_ | refine i_set ?_ | refine i_callk ?_ | refine i_callN ?_ | refine i_ckw ?_ | refine i_revL ?_ | refine i_tB ?_ | refine i_fld ?_ | refine i_sfld ?_ | refine i_make ?_ | refine i_makeN ?_ | refine i_meth ?_ | refine i_andV ?_ | refine i_orV ?_ | refine i_notV ?_ | refine iteT ?_ | refine iteF ?_ | refine i_yes ?_))
local macro_rules | `(tactic| walk_at "s") => `(tactic| repeat (first | walk_at "a" | refine i_var rfl ?_ | refine i_aug rfl ?_ | refine And.intro ⟨_, rfl⟩ ?_ | refine ⟨_, rfl, ?_⟩ | refine ⟨_, _, rfl, rfl, ?_⟩ | refine ⟨_, _, rfl, ?_⟩ | refine ⟨rfl, ?_⟩ | refine And.intro (by walk_at "c") ?_))
/-! ### what a rule allows within a Stretch -/
section
open LamX (Tabs)
def wkf (k : Int) (l : List Pr2) : List Pr2 := l.map fun p => (k + p.1, k + p.2)
def inWeeks (l : List Pr2) (lo : Int) (n : Nat) : List Pr2 := (List.range n).flatMap fun (j : Nat) => wkf ((lo + (j : Int)) * 10080) l
theorem inWeeks_succ (l : List Pr2) (lo : Int) (n : Nat) : inWeeks l lo (n + 1) = inWeeks l lo n ++ wkf ((lo + (n : Int)) * 10080) l := flat_take _ _
theorem inWeeks_len (l : List Pr2) (lo : Int) : ∀ n, (inWeeks l lo n).length = n * l.length
  | 0 => by simp [inWeeks]
  | n + 1 => by rw [inWeeks_succ, List.length_append, inWeeks_len l lo n, Nat.succ_mul]; unfold wkf; rw [List.length_map]
theorem inWeeks_mem {l : List Pr2} {lo : Int} {n : Nat} {q : Pr2} (h : q ∈ inWeeks l lo n) : ∃ (j : Nat) (p : Pr2), j < n ∧ p ∈ l ∧ q = ((lo + (j : Int)) * 10080 + p.1, (lo + (j : Int)) * 10080 + p.2) := by
  obtain ⟨j, hj, h⟩ := List.mem_flatMap.mp h
  obtain ⟨p, hp, rfl⟩ := List.mem_map.mp h
  exact ⟨j, p, List.mem_range.mp hj, hp, rfl⟩
theorem inWeeks_cov {l : List Pr2} {lo : Int} {n : Nat} {x : Int} {P : Int → Prop} (h : ∀ x, Cov l x ↔ 0 ≤ x ∧ x < 10080 ∧ P x) : Cov (inWeeks l lo n) x ↔ lo * 10080 ≤ x ∧ x < (lo + n) * 10080 ∧ P (x % 10080) := by
  constructor
  · rintro ⟨q, hq, z1, z2⟩
    obtain ⟨j, p, hj, hp, rfl⟩ := inWeeks_mem hq
    have c : Cov l (x - (lo + (j : Int)) * 10080) := ⟨p, hp, by simp only at z1; omega, by simp only at z2; omega⟩
    obtain ⟨c1, c2, c3⟩ := (h _).mp c
    have e : x - (lo + (j : Int)) * 10080 = x % 10080 := by omega
    rw [e] at c3
    exact ⟨by omega, by omega, c3⟩
  · rintro ⟨h1, h2, h3⟩
    obtain ⟨p, hp, z1, z2⟩ := (h (x % 10080)).mpr ⟨by omega, by omega, h3⟩
    have hj : (x / 10080 - lo).toNat < n := by omega
    refine ⟨_, List.mem_flatMap.mpr ⟨(x / 10080 - lo).toNat, List.mem_range.mpr hj, List.mem_map.mpr ⟨p, hp, rfl⟩⟩, ?_, ?_⟩
    · simp only; omega
    · simp only; omega
theorem alw_mod (r : RT) (x : Int) : alw r (x % 10080) = alw r x := by
  unfold alw
  have e1 : (x % 10080).fmod 1440 = x.fmod 1440 := by
    rw [Int.fmod_eq_emod_of_nonneg _ (by decide), Int.fmod_eq_emod_of_nonneg _ (by decide)]; omega
  have e2 : ((x % 10080).fdiv 1440).fmod 7 = (x.fdiv 1440).fmod 7 := by
    rw [Int.fmod_eq_emod_of_nonneg _ (by decide), Int.fmod_eq_emod_of_nonneg _ (by decide), Int.fdiv_eq_ediv_of_nonneg _ (by decide), Int.fdiv_eq_ediv_of_nonneg _ (by decide)]; omega
  rw [e1, e2]
/-- what a rule allows from a up to b -/
def allowedP (r : RT) (a b : Int) : List Pr2 := jnd 0 (kept (inWeeks (wp r true) (a.fdiv 10080) (b.fdiv 10080 + 1 - a.fdiv 10080).toNat) a b)
theorem allowedP_cov {r : RT} {a b : Int} (hf : r.fine = true) (x : Int) : Cov (allowedP r a b) x ↔ a ≤ x ∧ x < b ∧ alw r x = true := by
  unfold allowedP
  rw [jnd_ok.2.2, kept_cov, inWeeks_cov (P := fun x => alw r x = true) (wp_cov r true hf), alw_mod, Int.fdiv_eq_ediv_of_nonneg _ (by decide), Int.fdiv_eq_ediv_of_nonneg _ (by decide)]
  constructor
  · rintro ⟨⟨_, _, h⟩, h1, h2⟩
    exact ⟨h1, h2, h⟩
  · rintro ⟨h1, h2, h⟩
    exact ⟨⟨by omega, by omega, h⟩, h1, h2⟩
theorem allowedP_canon (r : RT) (a b : Int) : Canon 0 (allowedP r a b) := jnd_canon (Int.le_refl 0)
def wkF (l l2 : Addr) : List (Str × V) := putF "_runs" (.ref l2) (putF "_allowed" (.ref l) [])
theorem wkF_allowed (l l2 : Addr) : (wkF l l2).lookup ("_allowed" : Str) = some (.ref l) := by
  unfold wkF; rw [lookup_putF, if_neg (by decide +kernel), lookup_putF, if_pos rfl]
theorem wkF_runs (l l2 : Addr) : (wkF l l2).lookup ("_runs" : Str) = some (.ref l2) := by
  unfold wkF; rw [lookup_putF, if_pos rfl]
theorem wkF_no (l l2 : Addr) : (wkF l l2).lookup ("allowed_within" : Str) = none ∧ (wkF l l2).lookup ("soonest" : Str) = none := by
  unfold wkF
  constructor <;> rw [lookup_putF, if_neg (by decide +kernel), lookup_putF, if_neg (by decide +kernel)] <;> rfl
variable {P : Program} {w : World} {K : PySem.W.Frag} {mg : Str → Option Value} {base : Heap} (T : Ev K mg base)
/-- a Week of a rule -/
def WeekAt (H : Hp) (p : Addr) (r : RT) : Prop := ∃ dx l l2 ys zs, H p = some (.ins T.CWeek dx (wkF l l2)) ∧ H l = some (.lst ys) ∧ H l2 = some (.lst zs) ∧ StrsAt T.CStretch H ys (wp r true) ∧ StrsAt T.CStretch H zs (jnd 0 (inWeeks (wp r true) 0 3))
def spInWeeks : Sp := fun vs H Q _ => ∃ (p : Addr) (lo hi : Int) (xs : List V) (ps : List Pr2), vs = [.ref p, .int lo, .int hi] ∧ SqL K H p xs ∧ StrsAt T.CStretch H xs ps ∧ (hi - lo).toNat * ps.length ≤ 40000 ∧ (∀ q ∈ ps, q.1 ≤ q.2) ∧ (-1000000000 ≤ lo ∧ lo ≤ 1000000000 ∧ -1000000000 ≤ hi ∧ hi ≤ 1000000000) ∧
  ∀ l ys H', Same H H' → H l = none → H' l = some (.lst ys) → StrsAt T.CStretch H' ys (inWeeks ps lo (hi - lo).toNat) → Q (.ref l) H'
def spWhereA : Sp := fun vs H Q E => ∃ d, d ≤ 6 ∧ spWhere T d vs H Q E
theorem ok_whereA : FnOk P w K mg base CX0 14 T.f_where T.fd_where ["rule", "allowed"] (spWhereA T) :=
  ⟨fun vs H Q E ⟨d, hd, q⟩ => (ok_where (P := P) (w := w) T d).len vs H Q E q, fun A outer s H args us vs Q E hr he hb hv ⟨d, hd, q⟩ => (ok_where T d).run A outer s H args us vs Q E (hr.mono (by omega)) he hb hv q⟩
theorem ok_in_weeks : FnOk P w K mg base CX0 3 T.f_in_weeks T.fd_in_weeks ["some", "first", "behind"] (spInWeeks T) := by
  refine T.F_in_weeks.ok scInWeeks (fun vs H Q E h => ?_) (fun cdv A outer s H vs Q E hr h => ?_)
  · obtain ⟨p, lo, hi, xs, ps, rfl, _⟩ := h
    rfl
  · obtain ⟨p, lo, hi, xs, ps, rfl, hp, hs, hl, hb, hlh, q⟩ := h
    refine ⟨_,
      (pss_one (ps_ret (pe_lc2 (own := [("week", 3), ("stretch", 4)]) (vs1 := [4]) (g := gName 3) (g1 := gName 4) (wi1 := iList K _) (tt := tYes) (tt1 := tYes) rfl scInWeeks.nd (pi_range2 (by rfl) T.mrange (pa_cons (pv 1) (pa_cons (pv 2) pa_nil))) (blkOk_by (N := NInWeeks) (own := [("week", 3), ("stretch", 4)]) (sc := defScope sInWeeks) (by decide +kernel)) (by decide) (fun _ _ _ _ _ => pg_name (i := 3) scInWeeks.nd rfl (Or.inl rfl)) (fun _ _ _ _ _ => pts_nil) (fun _ _ _ _ _ => (pi_list (pv 0))) (fun _ _ _ _ _ => pg_name (i := 4) scInWeeks.nd rfl (Or.inl rfl)) (fun _ _ _ _ _ => pts_nil) (fun _ _ _ _ _ => (pe_makeN (mk_Stretch T) (okStretch___init__ T) (hr.mono (by decide)) (by rfl) T.gCStretch (kb_Stretch___init___3 T).choose_spec pass0 (pa_cons (pe_op op_add (pe_op op_mul (pv 3) (pe_glob (v := .int 10080) (by rfl) T.mMINUTES ⟨_, rfl⟩)) (show PE _ _ (tFld K (tVar 4) "first") from pe_fld (pv 4) rfl)) (pa_cons (pe_op op_add (pe_op op_mul (pv 3) (pe_glob (v := .int 10080) (by rfl) T.mMINUTES ⟨_, rfl⟩)) (show PE _ _ (tFld K (tVar 4) "behind") from pe_fld (pv 4) rfl)) pa_nil)) pk_nil)))))
      , ?_⟩
    have hxl := hs.len
    walk_at "s"
    intro D hD
    refine w_rng (lo := lo) (n := (hi - lo).toNat) (fun i H' => ∃ acc, H' D = some (.lst acc) ∧ StrsAt T.CStretch H' acc (inWeeks ps lo i) ∧ Same H H') ⟨[], upd_same, .nil, same_upd hD⟩ ?_ ?_
    · rintro i H1 hi1 ⟨acc, eD, hacc, s1⟩
      have hal := hacc.len
      rw [inWeeks_len] at hal
      have hmul : (i + 1) * ps.length ≤ (hi - lo).toNat * ps.length := Nat.mul_le_mul_right _ hi1
      have hsuc : (i + 1) * ps.length = i * ps.length + ps.length := Nat.succ_mul _ _
      walk_at "s"
      refine ⟨⟨_, sqL_same hp s1⟩, ?_⟩
      refine w_list (K := K) (a := p) (xs := xs) (fun j H' => ∃ acc, H' D = some (.lst acc) ∧ StrsAt T.CStretch H' acc (inWeeks ps lo i ++ wkf ((lo + (i : Int)) * 10080) (ps.take j)) ∧ Same H H')
        ⟨acc, eD, by rw [List.take_zero]; show StrsAt _ _ _ (_ ++ []); rw [List.append_nil]; exact hacc, s1⟩ (fun j H' _ z => sqL_same hp z.choose_spec.2.2) ?_ ?_
      · rintro j x H3 hxj ⟨acc3, eD3, hacc3, s3⟩
        obtain ⟨y, f1, g1, rfl, hpi, hy⟩ := (hs.same s3).at hxj
        have hj : j < xs.length := (List.getElem?_eq_some_iff.mp hxj).1
        have hl3 := hacc3.len
        rw [List.length_append, inWeeks_len] at hl3
        have hwl : (wkf ((lo + (i : Int)) * 10080) (ps.take j)).length = j := by unfold wkf; rw [List.length_map, List.length_take]; omega
        rw [hwl] at hl3
        have hfg := hb _ (List.mem_of_getElem? hpi)
        simp only at hfg
        walk_at "s"
        refine ⟨y, T.CStretch, _, _, _, rfl, hy.choose_spec, cl_Stretch T, T.nStretch_first, strF_first _ _, ?_⟩
        walk_at "s"
        refine ⟨y, T.CStretch, _, _, _, rfl, hy.choose_spec, cl_Stretch T, T.nStretch_behind, strF_behind _ _, ?_⟩
        walk_at "s"
        refine mkStr (a := (lo + (i : Int)) * 10080 + f1) (b := (lo + (i : Int)) * 10080 + g1) (y := .int ((lo + (i : Int)) * 10080 + g1)) (.inl rfl) (by omega) fun z H4 hz hz1 s4 => ?_
        have eD4 := s4 _ _ eD3
        refine ⟨acc3, eD4, lt_line (by omega), acc3 ++ [.ref z], upd_same, ?_, app_same hD (s3.trans s4)⟩
        rw [List.take_succ, hpi, Option.toList_some]
        have e : wkf ((lo + (i : Int)) * 10080) (ps.take j ++ [(f1, g1)]) = wkf ((lo + (i : Int)) * 10080) (ps.take j) ++ [((lo + (i : Int)) * 10080 + f1, (lo + (i : Int)) * 10080 + g1)] := by unfold wkf; rw [List.map_append]; rfl
        rw [e, ← List.append_assoc]
        exact ((hacc3.same s4).upd eD4).snoc (hz1.mono_upd eD4)
      · rintro H3 ⟨acc3, eD3, hacc3, s3⟩
        rw [hxl, List.take_length, ← inWeeks_succ] at hacc3
        exact ⟨acc3, eD3, hacc3, s3⟩
    · rintro H1 ⟨acc, eD, hacc, s1⟩
      exact q D acc H1 s1 hD eD hacc
theorem rule_ref {H : Hp} {d : Nat} {x : V} {r : RT} (h : RuleAt T H d x r) : x ≠ .non := by
  cases d with
  | zero => exact h.elim
  | succ d => obtain ⟨p, dx, fs, rfl, _⟩ := h; intro z; cases z
theorem ins_no {A C dx dx' : Addr} {fs : List (Str × V)} {a b : Int} (h : fs.lookup ("first" : Str) = none) : HO.ins A dx fs ≠ .ins C dx' (strF a b) := by
  intro z
  injection z with z1 z2 z3
  rw [z3, strF_first] at h
  cases h
theorem StrsAt.other {C : Addr} {H : Hp} {p : Addr} {o o' : HO} {xs : List V} {ps : List (Int × Int)} (h : StrsAt C H xs ps) (e : H p = some o) (n : ∀ dx a b, o ≠ .ins C dx (strF a b)) : StrsAt C (L2.upd H p o') xs ps := h.mono fun z a b ⟨dx, ez⟩ => ⟨dx, by rw [upd_ne (ne_of ez e (n dx a b).symm)]; exact ez⟩
theorem tabs_ins {TT : List (Addr × Str)} {H : Hp} {p C dx : Addr} {fs : List (Str × V)} {o : HO} (e : H p = some (.ins C dx fs)) (t : Tabs TT H) : Tabs TT (upd H p o) := by
  intro y hy
  obtain ⟨ps, h1, h2, h3⟩ := t y hy
  refine ⟨ps, by rw [upd_ne (ne_of h1 e (by intro z; cases z))]; exact h1, h2, fun pos cv hc => ?_⟩
  obtain ⟨c, e1, e2⟩ := h3 pos cv hc
  exact ⟨c, e1, by rw [upd_ne (ne_of e2 e (by intro z; cases z))]; exact e2⟩
/-- all but one place is kept -/
def SmX (TT : List (Addr × Str)) (p : Addr) (H H' : Hp) : Prop := (∀ b u, b ≠ p → H b = some u → (∀ ps, u ≠ HO.tbl ps) → H' b = some u) ∧ (Tabs TT H → Tabs TT H') ∧ ∀ b, H' b = none → H b = none
theorem sm_made {TT : List (Addr × Str)} {H H' : Hp} {x dx : Addr} {o1 o2 : HO} (hx : H x = none) (hdx : H dx = none) (ne : dx ≠ x) (s : SmX TT x (upd (upd H dx o1) x o2) H') : Sm TT H H' := by
  refine ⟨fun b u e n => s.1 b u (ne_of_none e hx) (by rw [upd_ne (ne_of_none e hx), upd_ne (ne_of_none e hdx)]; exact e) n, fun t => s.2.1 ?_, fun b h => upd_none (upd_none (s.2.2 b h))⟩
  have h1 : (upd H dx o1) x = none := by rw [upd_ne (Ne.symm ne)]; exact hx
  exact (t.ext (same_upd hdx)).ext (same_upd h1)
def spWeekInit : Sp := fun vs H Q _ => ∃ (p dx : Addr) (x : V) (r : RT) (d : Nat), vs = [.ref p, x] ∧ H p = some (.ins T.CWeek dx []) ∧ d ≤ 6 ∧ RuleAt T H d x r ∧ r.fine = true ∧ r.nodes ≤ 800 ∧ Tabs (TT T) H ∧
  ∀ H', WeekAt T H' p r → SmX (TT T) p H H' → Q .non H'
theorem okWeek___init__ : FnOk P w K mg base CX0 15 T.fWeek___init__ T.fdWeek___init__ ["self", "rule"] (spWeekInit T) := by
  have where6 : Ev K mg base → FnOk P w K mg base CX0 14 T.f_where T.fd_where ["rule", "allowed"] (spWhereA T) := fun _ => ok_whereA T
  refine T.FWeek___init__.ok scWeekInit (fun vs H Q E h => ?_) (fun cdv A outer s H vs Q E hr h => ?_)
  · obtain ⟨p, dx, x, r, d, rfl, _⟩ := h
    rfl
  · obtain ⟨p, dx, x, r, d, rfl, hp, hd, hx, hf, hn, tb, q⟩ := h
    refine ⟨_,
      (pss_cons (ps_fld (pv 0) (pe_call (where6 T) (hr.mono (by decide)) (by rfl) T.g_where T.F_where.kp T.b_where .nil pass0 (pa_cons (pe_ifExp (pt_cmpR op_isN (pv 1) pe_non (nomark _)) (pe_make (mk_Both T) (okBoth___init__ T) (hr.mono (by decide)) (by rfl) T.gCBoth T.bBoth___init__ .nil pass0 (pa_cons (pe_tup pa_nil) pa_nil)) (pv 1)) (pa_cons pe_bl pa_nil))) rfl)
      (pss_one (ps_fld (pv 0) (pe_callN (okjoined T) (hr.mono (by decide)) (by rfl) T.gjoined T.Fjoined.kp (kb_joined_1 T).choose_spec pass0 (pa_cons (pe_call (ok_in_weeks T) (hr.mono (by decide)) (by rfl) T.g_in_weeks T.F_in_weeks.kp T.b_in_weeks .nil pass0 (pa_cons (pe_fld (pv 0) rfl) (pa_cons pe_int (pa_cons (pe_glob (v := .int 3) (by rfl) T.mWEEKS_AHEAD ⟨_, rfl⟩) pa_nil)))) pa_nil) pk_nil) rfl)))
      , ?_⟩
    have h15 := wp_in r true hf
    have hab : ∀ q ∈ wp r true, 0 ≤ q.1 ∧ q.1 ≤ q.2 ∧ q.2 ≤ 10080 := h15.1
    walk_at "s"
    refine ite2 (fun c => absurd (of_decide_eq_true c) (rule_ref T hx)) (fun _ => ?_)
    walk_at "s"
    refine ⟨d, hd, x, r, true, rfl, hx, hf, by omega, tb, fun l ys H1 s1 hl el hys => ?_⟩
    have hp1 := s1.at hp
    have lp : l ≠ p := ne_of el hp1 (by intro z; cases z)
    walk_at "s"
    refine ⟨p, T.CWeek, dx, _, rfl, hp1, cl_Week T, T.nWeek__allowed, (by show 0 < 1000; decide), ?_⟩
    have hys2 := hys.other (o' := .ins T.CWeek dx (putF "_allowed" (.ref l) [])) hp1 (fun _ _ _ => ins_no rfl)
    have el2 : (upd H1 p (.ins T.CWeek dx (putF "_allowed" (.ref l) []))) l = some (.lst ys) := by rw [upd_ne lp]; exact el
    have ep2 : (upd H1 p (.ins T.CWeek dx (putF "_allowed" (.ref l) []))) p = some (.ins T.CWeek dx (putF "_allowed" (.ref l) [])) := upd_same
    have tb2 : Tabs (TT T) (upd H1 p (.ins T.CWeek dx (putF "_allowed" (.ref l) []))) := tabs_ins hp1 (s1.2.1 tb)
    have nb2 : ∀ b, (upd H1 p (.ins T.CWeek dx (putF "_allowed" (.ref l) []))) b = none → H b = none := fun b h => s1.none (upd_none h)
    have kp2 : ∀ b u, b ≠ p → H b = some u → (∀ ps, u ≠ HO.tbl ps) → (upd H1 p (.ins T.CWeek dx (putF "_allowed" (.ref l) []))) b = some u := fun b u n e m => by rw [upd_ne n]; exact s1.1 b u e m
    generalize upd H1 p (.ins T.CWeek dx (putF "_allowed" (.ref l) [])) = H2 at hys2 el2 ep2 tb2 nb2 kp2 ⊢
    walk_at "s"
    refine ⟨p, T.CWeek, dx, _, _, rfl, ep2, cl_Week T, T.nWeek__allowed, by rw [lookup_putF, if_pos rfl], ?_⟩
    walk_at "s"
    refine ⟨l, 0, 3, ys, _, rfl, SqL.of el2, hys2, by show 3 * _ ≤ _; omega, fun q hq => (hab q hq).2.1, by omega, fun l2 zs H3 s3 hl2 el3 hzs => ?_⟩
    walk_at "s"
    refine ⟨l2, 0, zs, _, rfl, Int.le_refl 0, SqL.of el3, hzs, by rw [inWeeks_len]; show 3 * _ ≤ _; omega, fun q hq => ?_, tb2.ext s3, fun l3 us H4 s4 hl3 el4 hus => ?_⟩
    · obtain ⟨j, p', _, hp', rfl⟩ := inWeeks_mem hq
      have := hab p' hp'
      simp only; omega
    have ep4 := s4.at (s3 _ _ ep2)
    have l3p : l3 ≠ p := ne_of el4 ep4 (by intro z; cases z)
    walk_at "s"
    refine ⟨p, T.CWeek, dx, _, rfl, ep4, cl_Week T, T.nWeek__runs, (by show 1 < 1000; decide), ?_⟩
    refine q _ ⟨dx, l, l3, ys, us, upd_same, by rw [upd_ne lp]; exact s4.at (s3 _ _ el2), by rw [upd_ne l3p]; exact el4, ?_, ?_⟩ ⟨fun b u n e m => ?_, fun _ => ?_, fun b h => ?_⟩
    · exact ((hys2.same s3).sm s4).other ep4 (fun _ _ _ => ins_no (by rw [lookup_putF, if_neg (by decide +kernel)]; rfl))
    · exact hus.other ep4 (fun _ _ _ => ins_no (by rw [lookup_putF, if_neg (by decide +kernel)]; rfl))
    · rw [upd_ne n]; exact s4.1 b u (s3 _ _ (kp2 b u n e m)) m
    · exact tabs_ins ep4 (s4.2.1 (tb2.ext s3))
    · exact nb2 b (s3.free (s4.none (upd_none h)))
end
set_option maxHeartbeats 8000000
local macro_rules | `(tactic| walk_at "c") => `(tactic| first | omega | decide | exact ⟨by omega, by omega⟩ | exact ⟨by decide, by decide⟩ | exact .inl ⟨by omega, by omega⟩ | exact .inr ⟨by omega, by omega⟩ | exact ⟨by omega, by omega, by omega⟩ | exact ⟨by decide, by decide, by decide⟩ | exact le_line (Nat.le_of_ble_eq_true rfl))
local macro_rules | `(tactic| walk_at "a") => `(tactic| with_reducible (first | refine i_seq ?_ | refine i_asg ?_ | refine i_cons ?_ | refine i_c ?_ | refine i_nil ?_ | refine i_op ?_ | refine i_call ?_ | refine i_cb ?_ | refine i_name ?_ | refine i_next ?_ | refine i_ret ?_ | refine i_drop ?_ | refine i_if ?_ | refine i_test ?_ | refine i_and ?_ | refine i_or ?_ | refine i_not ?_ | refine i_ite ?_ | refine i_lst ?_ | refine i_tup ?_ | refine i_bm ?_ | refine i_un ?_ | refine i_par ?_ | refine i_gsub ?_ | refine i_chain ?_ | refine i_sl ?_ | refine i_nopart ?_ | refine i_part ?_ | refine i_m1 ?_ | refine i_m0 ?_ | refine i_lc ?_ | refine i_iList ?_ | refine i_iTup ?_ | refine i_iStr ?_ | refine i_r1 ?_ | refine i_set ?_ | refine i_callk ?_ | refine i_callN ?_ | refine i_ckw ?_ | refine i_revL ?_ | refine i_tB ?_ | refine i_fld ?_ | refine i_sfld ?_ | refine i_make ?_ | refine i_makeN ?_ | refine i_meth ?_ | refine i_andV ?_ | refine i_orV ?_ | refine i_notV ?_ | refine iteT ?_ | refine iteF ?_ | refine i_yes ?_))
local macro_rules | `(tactic| walk_at "s") => `(tactic| repeat (first | walk_at "a" | refine i_var rfl ?_ | refine i_aug rfl ?_ | refine And.intro ⟨_, rfl⟩ ?_ | refine ⟨_, rfl, ?_⟩ | refine ⟨_, _, rfl, rfl, ?_⟩ | refine ⟨_, _, rfl, ?_⟩ | refine ⟨rfl, ?_⟩ | refine And.intro (by walk_at "c") ?_))
section
open LamX (Tabs)
def MeetV (C : Addr) (a b : Int) (H : Hp) (v : V) (q : Pr2) : Prop := (max q.1 a < min q.2 b → ∃ z, v = .ref z ∧ StrAt C H z (max q.1 a) (min q.2 b)) ∧ (¬ max q.1 a < min q.2 b → v = .non)
theorem MeetV.mono {C : Addr} {a b : Int} {H H' : Hp} {v : V} {q : Pr2} (f : ∀ z x y, StrAt C H z x y → StrAt C H' z x y) (h : MeetV C a b H v q) : MeetV C a b H' v q :=
  ⟨fun c => let ⟨z, e, s⟩ := h.1 c; ⟨z, e, f _ _ _ s⟩, h.2⟩
theorem kept_snoc {J : List Pr2} {a b : Int} {q : Pr2} : kept (J ++ [q]) a b = kept J a b ++ (if max q.1 a < min q.2 b then [(max q.1 a, min q.2 b)] else []) := by
  unfold kept
  rw [List.filterMap_append]
  congr 1
  unfold cutP
  by_cases h : max q.1 a < min q.2 b
  · simp [h]
  · simp [h]
theorem kept_len (J : List Pr2) (a b : Int) : (kept J a b).length ≤ J.length := List.length_filterMap_le _ _
variable {P : Program} {w : World} {K : PySem.W.Frag} {mg : Str → Option Value} {base : Heap} (T : Ev K mg base)
def spWithin : Sp := fun vs H Q _ => ∃ (p o : Addr) (r : RT) (a b : Int), vs = [.ref p, .ref o] ∧ WeekAt T H p r ∧ r.fine = true ∧ StrAt T.CStretch H o a b ∧ a ≤ b ∧ 0 ≤ a ∧ b ≤ 2000000000 ∧ (b.fdiv 10080 + 1 - a.fdiv 10080).toNat * (15 * r.nodes) ≤ 40000 ∧ Tabs (TT T) H ∧
  ∀ l ys H', Sm (TT T) H H' → H l = none → H' l = some (.lst ys) → StrsAt T.CStretch H' ys (allowedP r a b) → Q (.ref l) H'
def spAllowedIn (d : Nat) : Sp := fun vs H Q _ => ∃ (x : V) (o : Addr) (r : RT) (a b : Int), vs = [x, .ref o] ∧ RuleAt T H d x r ∧ d ≤ 6 ∧ r.fine = true ∧ r.nodes ≤ 800 ∧ StrAt T.CStretch H o a b ∧ a ≤ b ∧ 0 ≤ a ∧ b ≤ 2000000000 ∧ (b.fdiv 10080 + 1 - a.fdiv 10080).toNat * (15 * r.nodes) ≤ 40000 ∧ Tabs (TT T) H ∧
  ∀ l ys H', Sm (TT T) H H' → H l = none → H' l = some (.lst ys) → StrsAt T.CStretch H' ys (allowedP r a b) → Q (.ref l) H'
theorem okWeek_allowed_within : FnOk P w K mg base CX0 7 T.fWeek_allowed_within T.fdWeek_allowed_within ["self", "within"] (spWithin T) := by
  refine T.FWeek_allowed_within.ok scWeekAllowedWithin (fun vs H Q E h => ?_) (fun cdv A outer s H vs Q E hr h => ?_)
  · obtain ⟨p, o, r, a, b, rfl, _⟩ := h
    rfl
  · obtain ⟨p, o, r, a, b, rfl, hw, hf, ho, hab, ha0, hb9, hsz, tb, q⟩ := h
    refine ⟨_,
      (pss_cons (ps_set (i := 2) scWeekAllowedWithin.nd rfl (.inl rfl) (pe_call (ok_in_weeks T) (hr.mono (by decide)) (by rfl) T.g_in_weeks T.F_in_weeks.kp T.b_in_weeks .nil pass0 (pa_cons (pe_fld (pv 0) rfl) (pa_cons (pe_op op_fdivN (pe_fld (pv 1) rfl) (pe_glob (v := .int 10080) (by rfl) T.mMINUTES ⟨_, rfl⟩)) (pa_cons (pe_op op_add (pe_op op_fdivN (pe_fld (pv 1) rfl) (pe_glob (v := .int 10080) (by rfl) T.mMINUTES ⟨_, rfl⟩)) pe_int) pa_nil)))))
      (pss_cons (ps_setLc (i := 3) (own := [("stretch", 4)]) (g := gName 4) (tt := tYes) rfl scWeekAllowedWithin.nd rfl rfl (sw_true rfl rfl rfl (by decide +kernel)) (pi_list (pv 2)) (blkOk_by (N := NWeekAllowedWithin) (own := [("stretch", 4)]) (sc := defScope sWeekAllowedWithin) (by decide +kernel)) (fun _ _ _ _ _ => pg_name (i := 4) scWeekAllowedWithin.nd rfl (Or.inl rfl)) (fun _ _ _ _ _ => pts_nil) (fun _ _ _ _ _ => (pe_call (okmeet T) (hr.mono (by decide)) (by rfl) T.gmeet T.Fmeet.kp T.bmeet .nil pass0 (pa_cons (pv 4) (pa_cons (pv 1) pa_nil)))))
      (pss_one (ps_ret (pe_callN (okjoined T) (hr.mono (by decide)) (by rfl) T.gjoined T.Fjoined.kp (kb_joined_1 T).choose_spec pass0 (pa_cons (pe_lc (own := [("stretch", 4)]) (g := gName 4)  rfl scWeekAllowedWithin.nd (pi_list (pv 3)) (blkOk_by (N := NWeekAllowedWithin) (own := [("stretch", 4)]) (sc := defScope sWeekAllowedWithin) (by decide +kernel)) (fun _ _ _ _ _ => pg_name (i := 4) scWeekAllowedWithin.nd rfl (Or.inl rfl)) (fun _ _ _ _ _ => pts_one (pt_cmpR op_notN (pv 4) pe_non (nomark _))) (fun _ _ _ _ _ => (pv 4))) pa_nil) pk_nil)))))
      , ?_⟩
    obtain ⟨dx, l, l2, ys, zs, hp, el, el2, hys, _⟩ := hw
    have h15 := wp_in r true hf
    have hms : (b.fdiv 10080 + 1 - a.fdiv 10080).toNat * (wp r true).length ≤ (b.fdiv 10080 + 1 - a.fdiv 10080).toNat * (15 * r.nodes) := Nat.mul_le_mul_left _ h15.2
    have ea : a.fdiv 10080 = a / 10080 := Int.fdiv_eq_ediv_of_nonneg _ (by decide)
    have eb : b.fdiv 10080 = b / 10080 := Int.fdiv_eq_ediv_of_nonneg _ (by decide)
    walk_at "s"
    refine ⟨p, T.CWeek, dx, _, _, rfl, hp, cl_Week T, T.nWeek__allowed, wkF_allowed _ _, ?_⟩
    walk_at "s"
    refine i_first T ho ?_
    walk_at "s"
    refine i_behind T ho ?_
    walk_at "s"
    refine ⟨l, a.fdiv 10080, b.fdiv 10080 + 1, ys, _, rfl, SqL.of el, hys, by omega, fun q hq => (h15.1 q hq).2.1, by omega, fun l3 us H1 s1 hl3 el3 hus => ?_⟩
    have hJ := inWeeks_len (wp r true) (a.fdiv 10080) (b.fdiv 10080 + 1 - a.fdiv 10080).toNat
    have hJ2 : ∀ q ∈ inWeeks (wp r true) (a.fdiv 10080) (b.fdiv 10080 + 1 - a.fdiv 10080).toNat, q.1 ≤ q.2 ∧ q.2 - q.1 < 2 ^ 61 := fun q hq => by
      obtain ⟨j, p', _, hp', rfl⟩ := inWeeks_mem hq
      have := h15.1 p' hp'
      simp only; omega
    unfold allowedP at q
    generalize inWeeks (wp r true) (a.fdiv 10080) (b.fdiv 10080 + 1 - a.fdiv 10080).toNat = J at hus hJ hJ2 q
    have hul := hus.len
    walk_at "s"
    refine ⟨⟨_, SqL.of el3⟩, fun D hD => ?_⟩
    refine lc_list (K := K) (a := l3) (xs := us) (fun i H' => ∃ acc, H' D = some (.lst acc) ∧ Paired (MeetV T.CStretch a b H') acc (J.take i) ∧ Same H1 H') ⟨[], upd_same, by rw [List.take_zero]; exact .nil, same_upd hD⟩ (fun i H' _ z => SqL.of (z.choose_spec.2.2 _ _ el3)) ?_ ?_
    · rintro i x H2 hx ⟨acc, eD, hacc, s2⟩
      obtain ⟨y, f, g, rfl, hpi, hy⟩ := (hus.same s2).at hx
      have hi : i < us.length := (List.getElem?_eq_some_iff.mp hx).1
      have hal := Paired.length hacc
      rw [List.length_take] at hal
      walk_at "s"
      refine ⟨y, o, f, g, a, b, rfl, hy, (ho.same s1).same s2, fun c z H3 s3 hz hz1 => ?_, fun c => ?_⟩
      · have eD3 := s3 _ _ eD
        refine ⟨acc, eD3, lt_line (by omega), acc ++ [.ref z], upd_same, ?_, app_same hD (s2.trans s3)⟩
        rw [List.take_succ, hpi, Option.toList_some]
        exact paired_app (paired_mono (fun _ _ m => (m.mono fun z x y st => st.same s3).mono fun z x y st => st.mono_upd eD3) hacc) (.cons ⟨fun _ => ⟨z, rfl, hz1.mono_upd eD3⟩, fun n => absurd c n⟩ .nil)
      · refine ⟨acc, eD, lt_line (by omega), acc ++ [.non], upd_same, ?_, app_same hD s2⟩
        rw [List.take_succ, hpi, Option.toList_some]
        exact paired_app (paired_mono (fun _ _ m => m.mono fun z x y st => st.mono_upd eD) hacc) (.cons ⟨fun n => absurd n c, fun _ => rfl⟩ .nil)
    rintro H2 ⟨acc, eD, hacc, s2⟩
    rw [hul, List.take_length] at hacc
    have hal := Paired.length hacc
    walk_at "s"
    refine ⟨⟨_, SqL.of eD⟩, fun D2 hD2 => ?_⟩
    refine lc_list (K := K) (a := D) (xs := acc) (fun i H' => ∃ ks, H' D2 = some (.lst ks) ∧ StrsAt T.CStretch H' ks (kept (J.take i) a b) ∧ Same H2 H') ⟨[], upd_same, by rw [List.take_zero]; exact .nil, same_upd hD2⟩ (fun i H' _ z => SqL.of (z.choose_spec.2.2 _ _ eD)) ?_ ?_
    · rintro i x H3 hx ⟨ks, eK, hks, s3⟩
      obtain ⟨pq, hpi, hm⟩ := paired_at hacc hx
      have hi : i < acc.length := (List.getElem?_eq_some_iff.mp hx).1
      have hkl := hks.len
      have hkl2 := kept_len (J.take i) a b
      rw [List.length_take] at hkl2
      walk_at "s"
      by_cases c : max pq.1 a < min pq.2 b
      · obtain ⟨z, rfl, hz⟩ := hm.1 c
        rw [if_pos (show (!decide (V.ref z = V.non)) = true by rw [decide_eq_false (by intro y; cases y)]; rfl)]
        walk_at "s"
        refine ⟨ks, eK, lt_line (by omega), ks ++ [.ref z], upd_same, ?_, app_same hD2 s3⟩
        rw [List.take_succ, hpi, Option.toList_some, kept_snoc, if_pos c]
        exact (hks.upd eK).snoc ((hz.same s3).mono_upd eK)
      · obtain rfl := hm.2 c
        rw [if_neg (show ¬ (!decide (V.non = V.non)) = true by rw [decide_eq_true rfl]; decide)]
        refine ⟨ks, eK, ?_, s3⟩
        rw [List.take_succ, hpi, Option.toList_some, kept_snoc, if_neg c, List.append_nil]
        exact hks
    · rintro H3 ⟨ks, eK, hks, s3⟩
      rw [hal, List.take_length] at hks
      have hkl := kept_len J a b
      walk_at "s"
      refine ⟨D2, 0, ks, _, rfl, Int.le_refl 0, SqL.of eK, hks, by omega, fun q hq => ?_, ((tb.ext s1).ext s2).ext s3, fun l4 vs H4 s4 hl4 el4 hvs => ?_⟩
      · obtain ⟨p', hp', c, rfl⟩ := kept_mem.mp hq
        have := hJ2 p' hp'
        have := (mx_mn p'.1 p'.2 a b).2
        simp only; omega
      exact q l4 vs H4 (((s1.trans s2).trans s3).sm.trans s4) (((s1.trans s2).trans s3).free hl4) el4 hvs
theorem okallowed_in (d : Nat) : FnOk P w K mg base CX0 18 T.fallowed_in T.fdallowed_in ["rule", "within"] (spAllowedIn T d) := by
  refine T.Fallowed_in.ok scAllowedIn (fun vs H Q E h => ?_) (fun cdv A outer s H vs Q E hr h => ?_)
  · obtain ⟨x, o, r, a, b, rfl, _⟩ := h
    rfl
  · obtain ⟨x, o, r, a, b, rfl, hx, hd, hf, hn, ho, hab, ha0, hb9, hsz, tb, q⟩ := h
    refine ⟨_,
      (pss_one (ps_ret (pe_meth (pe_make (mk_Week T) (okWeek___init__ T) (hr.mono (by decide)) (by rfl) T.gCWeek T.bWeek___init__ .nil pass0 (pa_cons (pv 0) pa_nil)) (cl_Week T) (mt_Week_allowed_within T) (okWeek_allowed_within T) (hr.mono (by decide)) T.bWeek_allowed_within .nil pass0 (pa_cons (pv 1) pa_nil))))
      , ?_⟩
    walk_at "s"
    intro y dx hy hdx ne
    have h1 : (upd H dx (.own y)) y = none := by rw [upd_ne (Ne.symm ne)]; exact hy
    have s01 : Same H (upd (upd H dx (.own y)) y (.ins T.CWeek dx [])) := (same_upd hdx).trans (same_upd h1)
    refine ⟨y, dx, x, r, d, rfl, upd_same, hd, hx.same T s01, hf, hn, tb.ext s01, fun H1 hw sx => ⟨rfl, ?_⟩⟩
    have sm1 : Sm (TT T) H H1 := sm_made hy hdx ne sx
    obtain ⟨dx', l, l2, ys, zs, e1, e2, e3, e4, e5⟩ := id hw
    refine ⟨y, dx', _, rfl, e1, (wkF_no l l2).1, ?_⟩
    walk_at "s"
    exact ⟨y, o, r, a, b, rfl, hw, hf, ho.sm sm1, hab, ha0, hb9, hsz, sm1.2.1 tb, fun l ys H2 s2 hl el hys => q l ys H2 (sm1.trans s2) (sm1.none hl) el hys⟩
end
set_option maxHeartbeats 8000000
local macro_rules | `(tactic| walk_at "c") => `(tactic| first | omega | decide | exact ⟨by omega, by omega⟩ | exact ⟨by decide, by decide⟩ | exact .inl ⟨by omega, by omega⟩ | exact .inr ⟨by omega, by omega⟩ | exact ⟨by omega, by omega, by omega⟩ | exact ⟨by decide, by decide, by decide⟩ | exact le_line (Nat.le_of_ble_eq_true rfl))
local macro_rules | `(tactic| walk_at "a") => `(tactic| with_reducible (first | refine i_seq ?_ | refine i_asg ?_ | refine i_cons ?_ | refine i_c ?_ | refine i_nil ?_ | refine i_op ?_ | refine i_call ?_ | refine i_cb ?_ | refine i_name ?_ | refine i_next ?_ | refine i_ret ?_ | refine i_drop ?_ | refine i_if ?_ | refine i_test ?_ | refine i_and ?_ | refine i_or ?_ | refine i_not ?_ | refine i_ite ?_ | refine i_lst ?_ | refine i_tup ?_ | refine i_bm ?_ | refine i_un ?_ | refine i_par ?_ | refine i_gsub ?_ | refine i_chain ?_ | refine i_sl ?_ | refine i_nopart ?_ | refine i_part ?_ | refine i_m1 ?_ | refine i_m0 ?_ | refine i_lc ?_ | refine i_iList ?_ | refine i_iTup ?_ | refine i_iStr ?_ | refine i_r1 ?_ | refine i_set ?_ | refine i_callk ?_ | refine i_callN ?_ | refine i_ckw ?_ | refine i_revL ?_ | refine i_tB ?_ | refine i_fld ?_ | refine i_sfld ?_ | refine i_make ?_ | refine i_makeN ?_ | refine i_meth ?_ | refine i_andV ?_ | refine i_orV ?_ | refine i_notV ?_ | refine iteT ?_ | refine iteF ?_ | refine i_yes ?_))
local macro_rules | `(tactic| walk_at "s") => `(tactic| repeat (first | walk_at "a" | refine i_var rfl ?_ | refine i_aug rfl ?_ | refine And.intro ⟨_, rfl⟩ ?_ | refine ⟨_, rfl, ?_⟩ | refine ⟨_, _, rfl, rfl, ?_⟩ | refine ⟨_, _, rfl, ?_⟩ | refine ⟨rfl, ?_⟩ | refine And.intro (by walk_at "c") ?_))
theorem inV_int (i : Int) (ds : List Int) : inV (.int i) (ds.map .int) = decide (i ∈ ds) := by
  unfold inV
  induction ds with
  | nil => rfl
  | cons a r ih =>
    rw [List.map_cons, List.any_cons, ih]
    have : eqV (.int a) (.int i) = decide (a = i) := rfl
    rw [this]
    by_cases h : a = i
    · subst h
      rw [decide_eq_true rfl, decide_eq_true (List.mem_cons_self)]; rfl
    · rw [decide_eq_false h, Bool.false_or]
      exact decide_eq_decide.mpr ⟨fun z => List.mem_cons_of_mem _ z, fun z => (List.mem_cons.mp z).resolve_left fun e => h e.symm⟩
theorem flat_ints (ds : List Int) : (ds.map V.int).all flatV = true := by
  rw [List.all_map]; exact List.all_eq_true.mpr fun _ _ => rfl
/-! ### the law's own trees -/
/-- a rule as tuples, at most so deep -/
def LAt (H : Hp) : Nat → V → RT → Prop
  | 0, _, _ => False
  | d + 1, v, r => ∃ t ys, v = .ref t ∧ H t = some (.tup ys) ∧
    match r with
    | .hours f b => ys = [.str "hours", .int f, .int b]
    | .days ds => ∃ u, ys = [.str "days", .ref u] ∧ H u = some (.tup (ds.map .int))
    | .unl r => ∃ x, ys = [.str "unless", x] ∧ LAt H d x r
    | .both rs => ∃ u xs, ys = [.str "both", .ref u] ∧ H u = some (.tup xs) ∧ rs.length ≤ 8 ∧ Paired (LAt H d) xs rs
    | .eith rs => ∃ u xs, ys = [.str "either", .ref u] ∧ H u = some (.tup xs) ∧ rs.length ≤ 8 ∧ Paired (LAt H d) xs rs
theorem LAt.mono {H H' : Hp} (f : Solid H H') : ∀ {d : Nat} {v : V} {r : RT}, LAt H d v r → LAt H' d v r
  | 0, _, _, h => h.elim
  | d + 1, v, r, ⟨p, ys, e, h, g⟩ => by
    refine ⟨p, ys, e, f _ _ ⟨fun ys z => (by cases z), fun ys z => (by cases z)⟩ h, ?_⟩
    match r, g with
    | .hours _ _, g => exact g
    | .days _, ⟨t, g1, g2⟩ => exact ⟨t, g1, f _ _ ⟨fun ys z => (by cases z), fun ys z => (by cases z)⟩ g2⟩
    | .unl r, ⟨x, g1, g2⟩ => exact ⟨x, g1, LAt.mono f g2⟩
    | .both rs, ⟨t, xs, g1, g2, g4, g3⟩ => exact ⟨t, xs, g1, f _ _ ⟨fun ys z => (by cases z), fun ys z => (by cases z)⟩ g2, g4, paired_mono (fun _ _ z => LAt.mono f z) g3⟩
    | .eith rs, ⟨t, xs, g1, g2, g4, g3⟩ => exact ⟨t, xs, g1, f _ _ ⟨fun ys z => (by cases z), fun ys z => (by cases z)⟩ g2, g4, paired_mono (fun _ _ z => LAt.mono f z) g3⟩
theorem solid_upd {H : Hp} {D : Addr} {ys : List V} {o : HO} (hD : H D = some (.lst ys)) : Solid H (upd H D o) := fun p u n e => by rw [upd_ne (ne_of e hD (n.1 ys))]; exact e
theorem solid_trans {H H1 H2 : Hp} (a : Solid H H1) (b : Solid H1 H2) : Solid H H2 := fun p o n e => b p o n (a p o n e)
theorem LAt.same {H H' : Hp} {d : Nat} {v : V} {r : RT} (h : LAt H d v r) (s : Same H H') : LAt H' d v r := h.mono (solid_same s)
theorem LAt.keep {H H' : Hp} {d : Nat} {v : V} {r : RT} {F c : Addr} {n : Nat} (h : LAt H d v r) (hT : Tape H F c n) (s : Keep F H H') : LAt H' d v r := by
  obtain ⟨ys, e⟩ := hT.tape
  exact h.mono (solid_keep e s)
def rcost (d : Nat) : Nat := 4 ^ (d + 2)
theorem rcost_one (d : Nat) : 16 ≤ rcost d := Nat.le_trans (show 16 ≤ 4 ^ 2 by decide) (Nat.pow_le_pow_right (by decide) (by omega))
theorem rcost_succ (d : Nat) : rcost (d + 1) = 4 * rcost d := by unfold rcost; rw [show d + 1 + 2 = (d + 2) + 1 by omega, Nat.pow_succ]; omega
def spRule (d : Nat) : Sp := fun vs H Q _ => ∃ (a c : Addr) (n : Nat), vs = [.ref a, .int (d : Int)] ∧ 1 ≤ d ∧ n + rcost d ≤ 900000 ∧ Tape H a c n ∧ ∀ v r H', LAt H' d v r → RT.fine r = true → 2 * r.nodes + 1 ≤ 3 ^ d → Tape H' a c (n + rcost d) → Keep a H H' → Q v H'
theorem fine_of {f b : Int} (f0 : 0 ≤ f) (f1 : f < 1440) : RT.fine (.hours f (b.fmod 1440)) = true := by
  have : b.fmod 1440 = b % 1440 := Int.fmod_eq_emod_of_nonneg _ (by decide)
  rw [RT.fine, this]
  exact decide_eq_true (by omega)
theorem fine_ds {ds : List Int} (h : ∀ z ∈ ds, 0 ≤ z ∧ z < 7) (l : ds.length ≤ 7) : RT.fine (.days ds) = true := by
  rw [RT.fine, Bool.and_eq_true]
  exact ⟨List.all_eq_true.mpr fun z hz => decide_eq_true (h z hz), decide_eq_true l⟩
theorem fines_app : ∀ {l m : List RT}, RT.fines l = true → RT.fines m = true → RT.fines (l ++ m) = true
  | [], _, _, h => h
  | r :: l, m, h, g => by
    have h : r.fine = true ∧ RT.fines l = true := by simpa [RT.fines] using h
    rw [List.cons_append, RT.fines, h.1, Bool.true_and]
    exact fines_app h.2 g
theorem nodess_app : ∀ (l m : List RT), RT.nodess (l ++ m) = RT.nodess l + RT.nodess m
  | [], m => by rw [RT.nodess]; simp
  | r :: l, m => by rw [List.cons_append, RT.nodess, RT.nodess, nodess_app l m]; omega
theorem fines_snoc {rs : List RT} {r : RT} {B C : Nat} (h : RT.fines rs = true) (g : r.fine = true) (b : 2 * (RT.nodess rs + r.nodes) + B ≤ C) : RT.fines (rs ++ [r]) = true ∧ 2 * RT.nodess (rs ++ [r]) + B ≤ C := by
  refine ⟨fines_app h (by rw [RT.fines, g]; rfl), ?_⟩
  rw [nodess_app, show RT.nodess [r] = r.nodes by rw [RT.nodess, RT.nodess]; omega]
  exact b
section
variable {P : Program} {w : World} {K : PySem.W.Frag} {mg : Str → Option Value} {base : Heap} (T : Ev K mg base)
theorem ok_law_rule : ∀ d : Nat, FnOk P w K mg base CX0 (d + 3) T.f_law_rule T.fd_law_rule ["_law_tape_here", "_law_deep"] (spRule d) := by
  intro d
  induction d with
  | zero => exact ok_none T.F_law_rule scRule fun vs H Q E ⟨_, _, _, _, h, _⟩ => by omega
  | succ d ihd => ?_
  have ih : Ev K mg base → FnOk P w K mg base CX0 (d + 3) T.f_law_rule T.fd_law_rule ["_law_tape_here", "_law_deep"] (spRule d) := fun _ => ihd
  refine T.F_law_rule.ok scRule (fun vs H Q E h => ?_) (fun cdv A outer s H vs Q E hr h => ?_)
  · obtain ⟨a, c, n, rfl, _⟩ := h
    rfl
  · obtain ⟨a, c, n, rfl, _, hn, hT, q⟩ := h
    refine ⟨_,
      (pss_cons (ps_set (i := 2) scRule.nd rfl (.inl rfl) (pe_call (ok_law_draw T) (hr.mono (by omega)) (by rfl) T.g_law_draw T.F_law_draw.kp T.b_law_draw .nil pass0 (pa_cons (pv 0) (pa_cons (pe_ix ix_list (pe_lst (pa_cons pe_int (pa_cons pe_int pa_nil))) (pe_callTy call_int1 (by rfl) T.mint (by decide +kernel) (pa_cons (pe_cmpR op_gt (pv 1) pe_int (nomark _)) pa_nil)) (fun _ _ => rfl)) pa_nil))))
      (pss_cons (ps_if (pt_cmpR op_in_seq (pv 2) (pe_tup (pa_cons pe_int (pa_cons pe_int pa_nil))) (by rfl))
      (pss_cons (ps_set (i := 3) scRule.nd rfl (.inl rfl) (pe_call (ok_law_pick T) (hr.mono (by omega)) (by rfl) T.g_law_pick T.F_law_pick.kp T.b_law_pick .nil pass0 (pa_cons (pv 0) (pa_cons (pe_lst (pa_cons pe_int (pa_cons (pe_op op_mul pe_int (pe_call (ok_law_draw T) (hr.mono (by omega)) (by rfl) T.g_law_draw T.F_law_draw.kp T.b_law_draw .nil pass0 (pa_cons (pv 0) (pa_cons pe_int pa_nil)))) (pa_cons (pe_call (ok_law_draw T) (hr.mono (by omega)) (by rfl) T.g_law_draw T.F_law_draw.kp T.b_law_draw .nil pass0 (pa_cons (pv 0) (pa_cons pe_int pa_nil))) (pa_cons pe_int pa_nil))))) pa_nil))))
      (pss_cons (ps_set (i := 4) scRule.nd rfl (.inl rfl) (pe_call (ok_law_pick T) (hr.mono (by omega)) (by rfl) T.g_law_pick T.F_law_pick.kp T.b_law_pick .nil pass0 (pa_cons (pv 0) (pa_cons (pe_lst (pa_cons pe_int (pa_cons pe_int (pa_cons (pe_op op_add pe_int (pe_call (ok_law_draw T) (hr.mono (by omega)) (by rfl) T.g_law_draw T.F_law_draw.kp T.b_law_draw .nil pass0 (pa_cons (pv 0) (pa_cons pe_int pa_nil)))) (pa_cons pe_int pa_nil))))) pa_nil))))
      (pss_one (ps_ret (pe_tup (pa_cons pe_str (pa_cons (pv 3) (pa_cons (pe_op op_modN (pe_op op_add (pv 3) (pv 4)) pe_int) pa_nil))))))))
      pss_nil)
      (pss_cons (ps_if (pt_cmpR op_eq (pv 2) pe_int (nomark _))
      (pss_cons (ps_setLc (i := 5) (own := [("_law_day", 7)]) (g := gName 7)  rfl scRule.nd rfl rfl (sw_true rfl rfl rfl (by decide +kernel)) (pi_range1 (by rfl) T.mrange (pa_cons pe_int pa_nil)) (blkOk_by (N := NRule) (own := [("_law_day", 7)]) (sc := defScope sRule) (by decide +kernel)) (fun _ _ _ _ _ => pg_name (i := 7) scRule.nd rfl (Or.inl rfl)) (fun _ _ _ _ _ => pts_one (pt_cmpR op_eq (pe_call (ok_law_draw T) (hr.mono (by omega)) (by rfl) T.g_law_draw T.F_law_draw.kp T.b_law_draw .nil pass0 (pa_cons (pv 0) (pa_cons pe_int pa_nil))) pe_int (nomark _))) (fun _ _ _ _ _ => (pv 7)))
      (pss_one (ps_ret (pe_tup (pa_cons pe_str (pa_cons (pe_callTy call_tuple_of (by rfl) T.mtuple (by decide +kernel) (pa_cons (pe_orT (pv 5) (pe_one (pe_lst (pa_cons (pe_call (ok_law_draw T) (hr.mono (by omega)) (by rfl) T.g_law_draw T.F_law_draw.kp T.b_law_draw .nil pass0 (pa_cons (pv 0) (pa_cons pe_int pa_nil))) pa_nil)))) pa_nil)) pa_nil))))))
      pss_nil)
      (pss_cons (ps_if (pt_cmpR op_in_seq (pv 2) (pe_tup (pa_cons pe_int (pa_cons pe_int pa_nil))) (by rfl))
      (pss_one (ps_ret (pe_tup (pa_cons pe_str (pa_cons (pe_call (ih T) (hr.mono (by omega)) (by rfl) T.g_law_rule T.F_law_rule.kp T.b_law_rule .nil pass0 (pa_cons (pv 0) (pa_cons (pe_op op_sub (pv 1) pe_int) pa_nil))) pa_nil)))))
      pss_nil)
      (pss_cons (ps_set (i := 6) scRule.nd rfl (.inl rfl) (pe_call (ok_law_pick T) (hr.mono (by omega)) (by rfl) T.g_law_pick T.F_law_pick.kp T.b_law_pick .nil pass0 (pa_cons (pv 0) (pa_cons (pe_lst (pa_cons pe_int (pa_cons pe_int (pa_cons pe_int (pa_cons pe_int (pa_cons pe_int pa_nil)))))) pa_nil))))
      (pss_one (ps_ret (pe_tup (pa_cons (pe_ix ix_list (pe_lst (pa_cons pe_str (pa_cons pe_str pa_nil))) (pe_op op_modN (pv 2) pe_int) (fun _ _ => rfl)) (pa_cons (pe_callTy call_tuple_of (by rfl) T.mtuple (by decide +kernel) (pa_cons (pe_lc (own := [("_law_k", 8)]) (g := gName 8) (tt := tYes) rfl scRule.nd (pi_range1 (by rfl) T.mrange (pa_cons (pv 6) pa_nil)) (blkOk_by (N := NRule) (own := [("_law_k", 8)]) (sc := defScope sRule) (by decide +kernel)) (fun _ _ _ _ _ => pg_name (i := 8) scRule.nd rfl (Or.inl rfl)) (fun _ _ _ _ _ => pts_nil) (fun _ _ _ _ _ => (pe_call (ih T) (hr.mono (by omega)) (by rfl) T.g_law_rule T.F_law_rule.kp T.b_law_rule .nil pass0 (pa_cons (pv 0) (pa_cons (pe_op op_sub (pv 1) pe_int) pa_nil))))) pa_nil)) pa_nil))))))))))
      , ?_⟩
    have c1 := rcost_one d
    have d1 : 1 ≤ 3 ^ d := Nat.pow_le_pow_right (show 0 < 3 by decide) (Nat.zero_le d)
    have d2 : 3 ^ (d + 1) = 3 * 3 ^ d := by rw [Nat.pow_succ]; omega
    have c2 := rcost_succ d
    walk_at "s"
    intro p hp
    walk_at "s"
    refine .inr ⟨_, rfl, ?_⟩
    obtain ⟨j, b, ej, hj, b0, b1, b2⟩ : ∃ (j : Nat) (b : Int), (if decide ((1 : Int) < ((d + 1 : Nat) : Int)) = true then (1 : Int) else 0) = (j : Int) ∧ ([V.int 2, V.int 8] : List V)[j]? = some (.int b) ∧ 0 < b ∧ b < 1000 ∧ (2 < b → 1 ≤ d) := by
      by_cases h : 1 ≤ d
      · exact ⟨1, 8, if_pos (decide_eq_true (by omega)), rfl, by decide, by decide, fun _ => h⟩
      · exact ⟨0, 2, if_neg (fun z => h (by have := of_decide_eq_true z; omega)), rfl, by decide, by decide, fun z => by omega⟩
    refine i_ixLe j (SqL.of upd_same) ej hj ?_
    walk_at "s"
    refine dr b (hT.new hp) b0 (by omega) (by omega) fun way H1 w0 w1 T1 k1 => ?_
    have k01 : Keep a H H1 := (Keep.refl.new hp).trans k1
    walk_at "s"
    intro t1 ht1
    refine ⟨t1, [0, 2].map V.int, rfl, .inr (SqT.of upd_same), rfl, flat_ints _, _, rfl, ?_⟩
    have T1a := T1.new (o := .tup [.int 0, .int 2]) ht1
    have k1a := k01.new (o := .tup [.int 0, .int 2]) ht1
    generalize upd H1 t1 (.tup [.int 0, .int 2]) = H2 at T1a k1a ⊢
    rw [inV_int]
    refine ite2 (fun c0 => ?_) (fun c0 => ?_)
    · walk_at "s"
      refine dr 24 T1a (by omega) (by omega) (by omega) fun h1 H3 p1 p2 T3 k3 => ?_
      walk_at "s"
      refine dr 1440 T3 (by omega) (by omega) (by omega) fun h2 H4 p3 p4 T4 k4 => ?_
      walk_at "s"
      intro l hl
      walk_at "s"
      refine pkn T4 (by exact Nat.le_of_ble_eq_true rfl) (by exact Nat.le_of_ble_eq_true rfl) (by omega) (fun x H5 hx T5 k5 => ?_) l hl
      obtain ⟨f, rfl, f0, f1⟩ : ∃ f : Int, x = .int f ∧ 0 ≤ f ∧ f < 1440 := by
        simp only [List.mem_cons, List.not_mem_nil, or_false] at hx
        rcases hx with rfl | rfl | rfl | rfl <;> exact ⟨_, rfl, by omega, by omega⟩
      walk_at "s"
      refine dr 1439 T5 (by omega) (by omega) (by omega) fun h3 H6 _ _ T6 k6 => ?_
      walk_at "s"
      intro l2 hl2
      walk_at "s"
      refine pkn T6 (by exact Nat.le_of_ble_eq_true rfl) (by exact Nat.le_of_ble_eq_true rfl) (by omega) (fun y H7 hy T7 k7 => ?_) l2 hl2
      obtain ⟨b2, rfl⟩ : ∃ f : Int, y = .int f := by
        simp only [List.mem_cons, List.not_mem_nil, or_false] at hy
        rcases hy with rfl | rfl | rfl | rfl <;> exact ⟨_, rfl⟩
      walk_at "s"
      intro t ht
      exact q _ (.hours f ((f + b2).fmod 1440)) _ ⟨t, _, rfl, upd_same, rfl⟩ (fine_of f0 f1) (by rw [RT.nodes]; omega) ((T7.new ht).mono (by omega)) ((((((k1a.trans k3).trans k4).trans k5).trans k6).trans k7).new ht)
    walk_at "s"
    refine ite2 (fun c1 => ?_) (fun c1 => ?_)
    · walk_at "s"
      intro D nD
      have nDa := T1a.ne nD
      have nDc := T1a.nec nD
      refine lc_range (lo := 0) (n := 7) (fun i H' => ∃ ds : List Int, ds.length ≤ i ∧ (∀ z ∈ ds, 0 ≤ z ∧ z < 7) ∧ H' D = some (.lst (ds.map V.int)) ∧ Tape H' a c (n + 1 + i) ∧ Keep a H H')
        ⟨[], Nat.le_refl _, fun z hz => (by cases hz), upd_same, T1a.new nD, k1a.new nD⟩ ?_ ?_
      · rintro i H' hi ⟨ds, ln, hds, eD, Ti, ki⟩
        walk_at "s"
        refine dr 2 Ti (by omega) (by omega) (by omega) fun d8 H4 d0 d1 T4 k4 => ?_
        walk_at "s"
        refine ite2 (fun c2 => ?_) (fun c2 => ?_)
        · walk_at "s"
          refine ⟨_, k4 _ _ nDa eD, lt_line (by rw [List.length_map]; omega), ds ++ [_], by rw [List.length_append]; exact Nat.add_le_add_right ln 1, ?_, by rw [upd_same, List.map_append]; rfl, (T4.upd nDa nDc).mono (by omega), fun x o nx e => ?_⟩
          · intro z hz
            rcases List.mem_append.mp hz with hz | hz
            · exact hds z hz
            · rw [List.mem_singleton.mp hz]; omega
          · rw [upd_ne (ne_of_none (k1a x o nx e) nD)]; exact k4 x o nx (ki x o nx e)
        · exact ⟨ds, by omega, hds, k4 _ _ nDa eD, T4.mono (by omega), ki.trans k4⟩
      · rintro H3 ⟨ds, ln, hds, eD, T3, k3⟩
        walk_at "s"
        cases ds with
        | nil =>
          refine ⟨false, .inl ⟨_, SqL.of eD, rfl⟩, ?_⟩
          refine iteF ?_
          walk_at "s"
          refine dr 7 T3 (by omega) (by omega) (by omega) fun w H4 d0 d1 T4 k4 => ?_
          walk_at "s"
          intro l hl
          walk_at "s"
          refine ⟨l, [w].map V.int, rfl, .inl ⟨SqL.of upd_same, fun u hu => ?_⟩⟩
          walk_at "s"
          intro t ht
          exact q _ (.days [w]) _ ⟨t, _, rfl, upd_same, u, rfl, upd_at ht upd_same⟩ (fine_ds (by intro z hz; rw [List.mem_singleton.mp hz]; omega) (by simp)) (by rw [RT.nodes]; omega) ((((T4.new hl).new hu).new ht).mono (by omega)) (((((k3.trans k4).new hl).new hu)).new ht)
        | cons w ds =>
          refine ⟨true, .inl ⟨_, SqL.of eD, rfl⟩, ?_⟩
          refine iteT ?_
          walk_at "s"
          refine ⟨D, (w :: ds).map V.int, rfl, .inl ⟨SqL.of eD, fun u hu => ?_⟩⟩
          walk_at "s"
          intro t ht
          exact q _ (.days (w :: ds)) _ ⟨t, _, rfl, upd_same, u, rfl, upd_at ht upd_same⟩ (fine_ds hds ln) (by rw [RT.nodes]; omega) (((T3.new hu).new ht).mono (by omega)) ((k3.new hu).new ht)
    walk_at "s"
    intro t2 ht2
    refine ⟨t2, [3, 4].map V.int, rfl, .inr (SqT.of upd_same), rfl, flat_ints _, _, rfl, ?_⟩
    have T2a := T1a.new (o := .tup [.int 3, .int 4]) ht2
    have k2a := k1a.new (o := .tup [.int 3, .int 4]) ht2
    generalize upd H2 t2 (.tup [.int 3, .int 4]) = H3 at T2a k2a ⊢
    rw [inV_int]
    have hd1 : 1 ≤ d := b2 (by
      have n0 : way ≠ 0 := fun e => c0 (decide_eq_true (by rw [e]; simp))
      have n1 : way ≠ 1 := fun e => c1 (decide_eq_true (by rw [e]))
      have n2 : way ≠ 2 := fun e => c0 (decide_eq_true (by rw [e]; simp))
      omega)
    have ed : (((d + 1 : Nat) : Int) - 1) = (d : Int) := by omega
    refine ite2 (fun c2 => ?_) (fun c2 => ?_)
    · walk_at "s"
      dsimp only
      rw [ed]
      refine ⟨a, c, _, rfl, hd1, ?_, T2a, fun v r H4 hv hvf hvn T4 k4 => ?_⟩
      · omega
      walk_at "s"
      intro t ht
      exact q _ (.unl r) _ ⟨t, _, rfl, upd_same, v, rfl, hv.same (same_upd ht)⟩ (by rw [RT.fine]; exact hvf) (by rw [RT.nodes]; omega) ((T4.new ht).mono (by omega)) ((k2a.trans k4).new ht)
    walk_at "s"
    intro l hl
    walk_at "s"
    refine pkn T2a (by exact Nat.le_of_ble_eq_true rfl) (by exact Nat.le_of_ble_eq_true rfl) (by omega) (fun x H5 hx T5 k5 => ?_) l hl
    obtain ⟨many, rfl, hm⟩ : ∃ m : Nat, x = .int (m : Int) ∧ m ≤ 3 := by
      simp only [List.mem_cons, List.not_mem_nil, or_false] at hx
      rcases hx with rfl | rfl | rfl | rfl | rfl
      · exact ⟨0, rfl, by decide⟩
      · exact ⟨1, rfl, by decide⟩
      · exact ⟨2, rfl, by decide⟩
      · exact ⟨2, rfl, by decide⟩
      · exact ⟨3, rfl, by decide⟩
    walk_at "s"
    intro p2 hp2
    walk_at "s"
    obtain ⟨j, nm, ej, hj, hnm⟩ : ∃ (j : Nat) (nm : Str), way.fmod 2 = (j : Int) ∧ ([V.str "both", V.str "either"] : List V)[j]? = some (.str nm) ∧ (nm = "both" ∨ nm = "either") := by
      have : way.fmod 2 = 0 ∨ way.fmod 2 = 1 := by rw [Int.fmod_eq_emod_of_nonneg _ (by decide)]; omega
      rcases this with e | e
      · exact ⟨0, "both", e, rfl, .inl rfl⟩
      · exact ⟨1, "either", e, rfl, .inr rfl⟩
    refine i_ixLe j (SqL.of upd_same) ej hj ?_
    have T5a := T5.new (o := .lst [.str "both", .str "either"]) hp2
    have k5a := (k2a.trans k5).new (o := .lst [.str "both", .str "either"]) hp2
    generalize upd H5 p2 (.lst [.str "both", .str "either"]) = H6 at T5a k5a ⊢
    walk_at "s"
    intro D nD
    have nDa := T5a.ne nD
    have nDc := T5a.nec nD
    refine lc_range (lo := 0) (n := (many : Int).toNat) (fun i H' => ∃ (xs : List V) (rs : List RT), rs.length = i ∧ (RT.fines rs = true ∧ 2 * RT.nodess rs + i ≤ i * 3 ^ d) ∧ Paired (LAt H' d) xs rs ∧ H' D = some (.lst xs) ∧ Tape H' a c (n + 2 + i * rcost d) ∧ Keep a H H')
      ⟨[], [], rfl, ⟨rfl, by rw [RT.nodess]; omega⟩, .nil, upd_same, (T5a.new nD).mono (by omega), k5a.new nD⟩ ?_ ?_
    · rintro i H' hi ⟨xs, rs, ln, hfn, hp, eD, Ti, ki⟩
      have hi3 : i ≤ 2 := by omega
      have hmul : i * rcost d ≤ 2 * rcost d := Nat.mul_le_mul_right _ hi3
      have hsuc : (i + 1) * rcost d = i * rcost d + rcost d := Nat.succ_mul _ _
      walk_at "s"
      dsimp only
      rw [ed]
      refine ⟨a, c, _, rfl, hd1, by omega, Ti, fun v r H4 hv hvf hvn T4 k4 => ?_⟩
      have hs3 : (i + 1) * 3 ^ d = i * 3 ^ d + 3 ^ d := Nat.succ_mul _ _
      have lx := Paired.length hp
      have eD4 := k4 _ _ nDa eD
      refine ⟨_, eD4, lt_line (by omega), xs ++ [v], rs ++ [r], by rw [List.length_append, ln]; rfl, fines_snoc hfn.1 hvf (by have := hfn.2; omega), ?_, upd_same, (T4.upd nDa nDc).mono (by omega), fun x o nx e => ?_⟩
      · exact paired_app (paired_mono (fun _ _ z => (z.keep Ti k4).mono (solid_upd eD4)) hp) (.cons (hv.mono (solid_upd eD4)) .nil)
      · rw [upd_ne (ne_of_none (k5a x o nx e) nD)]; exact k4 x o nx (ki x o nx e)
    · rintro H7 ⟨xs, rs, ln, hfn, hp, eD, T7, k7⟩
      have hmul : (many : Int).toNat * rcost d ≤ 3 * rcost d := Nat.mul_le_mul_right _ (by omega)
      walk_at "s"
      refine ⟨D, xs, rfl, .inl ⟨SqL.of eD, fun u hu => ?_⟩⟩
      walk_at "s"
      intro t ht
      have s2 := (same_upd (o := .tup xs) hu).trans (same_upd (o := .tup [.str nm, .ref u]) ht)
      have hp2 := paired_mono (fun _ _ z => LAt.same z s2) hp
      have T8 := ((T7.new (o := .tup xs) hu).new (o := .tup [.str nm, .ref u]) ht).mono (m := n + rcost (d + 1)) (by omega)
      have hm3 : (many : Int).toNat * 3 ^ d + (3 - many) ≤ 3 * 3 ^ d := by
        rw [Int.toNat_natCast]
        have h4 : many = 0 ∨ many = 1 ∨ many = 2 ∨ many = 3 := by omega
        rcases h4 with e | e | e | e <;> subst e <;> omega
      have hfn2 := hfn.2
      rcases hnm with rfl | rfl
      · exact q _ (.both rs) _ ⟨t, _, rfl, upd_same, u, xs, rfl, upd_at ht upd_same, by omega, hp2⟩ (by rw [RT.fine]; exact hfn.1) (by rw [RT.nodes]; omega) T8 ((k7.new hu).new ht)
      · exact q _ (.eith rs) _ ⟨t, _, rfl, upd_same, u, xs, rfl, upd_at ht upd_same, by omega, hp2⟩ (by rw [RT.fine]; exact hfn.1) (by rw [RT.nodes]; omega) T8 ((k7.new hu).new ht)
end
set_option maxHeartbeats 8000000
local macro_rules | `(tactic| walk_at "c") => `(tactic| first | omega | decide | exact ⟨by omega, by omega⟩ | exact ⟨by decide, by decide⟩ | exact .inl ⟨by omega, by omega⟩ | exact .inr ⟨by omega, by omega⟩ | exact ⟨by omega, by omega, by omega⟩ | exact ⟨by decide, by decide, by decide⟩ | exact le_line (Nat.le_of_ble_eq_true rfl))
local macro_rules | `(tactic| walk_at "a") => `(tactic| with_reducible (first | refine i_seq ?_ | refine i_asg ?_ | refine i_cons ?_ | refine i_c ?_ | refine i_nil ?_ | refine i_op ?_ | refine i_call ?_ | refine i_cb ?_ | refine i_name ?_ | refine i_next ?_ | refine i_ret ?_ | refine i_drop ?_ | refine i_if ?_ | refine i_test ?_ | refine i_and ?_ | refine i_or ?_ | refine i_not ?_ | refine i_ite ?_ | refine i_lst ?_ | refine i_tup ?_ | refine i_bm ?_ | refine i_un ?_ | refine i_par ?_ | refine i_gsub ?_ | refine i_chain ?_ | refine i_sl ?_ | refine i_nopart ?_ | refine i_part ?_ | refine i_m1 ?_ | refine i_m0 ?_ | refine i_lc ?_ | refine i_iList ?_ | refine i_iTup ?_ | refine i_iStr ?_ | refine i_r1 ?_ | refine i_set ?_ | refine i_callk ?_ | refine i_callN ?_ | refine i_ckw ?_ | refine i_revL ?_ | refine i_tB ?_ | refine i_fld ?_ | refine i_sfld ?_ | refine i_make ?_ | refine i_makeN ?_ | refine i_meth ?_ | refine i_andV ?_ | refine i_orV ?_ | refine i_notV ?_ | refine iteT ?_ | refine iteF ?_ | refine i_yes ?_))
local macro_rules | `(tactic| walk_at "s") => `(tactic| repeat (first | walk_at "a" | refine i_var rfl ?_ | refine i_aug rfl ?_ | refine And.intro ⟨_, rfl⟩ ?_ | refine ⟨_, rfl, ?_⟩ | refine ⟨_, _, rfl, rfl, ?_⟩ | refine ⟨_, _, rfl, ?_⟩ | refine ⟨rfl, ?_⟩ | refine And.intro (by walk_at "c") ?_))
/-! ### a rule of a tree -/
theorem tag_yes {a : Str} {A B : Prop} (h : A) : if decide (V.str a = V.str a) = true then A else B := by rw [decide_eq_true rfl]; exact h
theorem tag_no {a b : Str} {A B : Prop} (n : ¬ a = b) (h : B) : if decide (V.str a = V.str b) = true then A else B := by rw [decide_eq_false (fun z => n (V.str.inj z))]; exact h
section
def spObj {K : PySem.W.Frag} {mg : Str → Option Value} {base : Heap} (T : Ev K mg base) (d : Nat) : Sp := fun vs H Q _ => ∃ (v : V) (r : RT), vs = [v] ∧ LAt H d v r ∧ ∀ x H', RuleAt T H' d x r → Same H H' → Q x H'
def spLAlw (d : Nat) : Sp := fun vs H Q _ => ∃ (v : V) (r : RT) (m : Int), vs = [v, .int m] ∧ LAt H d v r ∧ ∀ H', Same H H' → Q (.bl (alw r m)) H'
variable {P : Program} {w : World} {K : PySem.W.Frag} {mg : Str → Option Value} {base : Heap} (T : Ev K mg base)
theorem ok_law_object : ∀ d : Nat, FnOk P w K mg base CX0 (d + 3) T.f_law_object T.fd_law_object ["_law_told_rule"] (spObj T d) := by
  intro d
  induction d with
  | zero => exact ok_none T.F_law_object scObject fun vs H Q E ⟨_, _, _, h, _⟩ => h
  | succ d ihd => ?_
  have ih : Ev K mg base → FnOk P w K mg base CX0 (d + 3) T.f_law_object T.fd_law_object ["_law_told_rule"] (spObj T d) := fun _ => ihd
  refine T.F_law_object.ok scObject (fun vs H Q E h => ?_) (fun cdv A outer s H vs Q E hr h => ?_)
  · obtain ⟨v, r, rfl, _⟩ := h
    rfl
  · obtain ⟨v, r, rfl, ⟨t, ys, rfl, ht, hy⟩, q⟩ := h
    refine ⟨_,
      (pss_cons (ps_if (pt_cmpR op_eq (pe_ix ix_tup (pv 0) pe_int (fun _ _ => rfl)) pe_str (nomark _))
      (pss_one (ps_ret (pe_make (mk_Hours T) (okHours___init__ T) (hr.mono (by omega)) (by rfl) T.gCHours T.bHours___init__ .nil pass0 (pa_cons (pe_ix ix_tup (pv 0) pe_int (fun _ _ => rfl)) (pa_cons (pe_ix ix_tup (pv 0) pe_int (fun _ _ => rfl)) pa_nil)))))
      pss_nil)
      (pss_cons (ps_if (pt_cmpR op_eq (pe_ix ix_tup (pv 0) pe_int (fun _ _ => rfl)) pe_str (nomark _))
      (pss_one (ps_ret (pe_make (mk_Days T) (okDays___init__ T) (hr.mono (by omega)) (by rfl) T.gCDays T.bDays___init__ .nil pass0 (pa_cons (pe_ix ix_tup (pv 0) pe_int (fun _ _ => rfl)) pa_nil))))
      pss_nil)
      (pss_cons (ps_if (pt_cmpR op_eq (pe_ix ix_tup (pv 0) pe_int (fun _ _ => rfl)) pe_str (nomark _))
      (pss_one (ps_ret (pe_make (mk_Unless T) (okUnless___init__ T) (hr.mono (by omega)) (by rfl) T.gCUnless T.bUnless___init__ .nil pass0 (pa_cons (pe_call (ih T) (hr.mono (by omega)) (by rfl) T.g_law_object T.F_law_object.kp T.b_law_object .nil pass0 (pa_cons (pe_ix ix_tup (pv 0) pe_int (fun _ _ => rfl)) pa_nil)) pa_nil))))
      pss_nil)
      (pss_cons (ps_set (i := 1) scObject.nd rfl (.inl rfl) (pe_callTy call_tuple_of (by rfl) T.mtuple (by decide +kernel) (pa_cons (pe_lc (own := [("_law_one", 2)]) (g := gName 2) (tt := tYes) rfl scObject.nd (pi_tup (pe_ix ix_tup (pv 0) pe_int (fun _ _ => rfl))) (blkOk_by (N := NObject) (own := [("_law_one", 2)]) (sc := defScope sObject) (by decide +kernel)) (fun _ _ _ _ _ => pg_name (i := 2) scObject.nd rfl (Or.inl rfl)) (fun _ _ _ _ _ => pts_nil) (fun _ _ _ _ _ => (pe_call (ih T) (hr.mono (by omega)) (by rfl) T.g_law_object T.F_law_object.kp T.b_law_object .nil pass0 (pa_cons (pv 2) pa_nil)))) pa_nil)))
      (pss_one (ps_ret (pe_ifExp (pt_cmpR op_eq (pe_ix ix_tup (pv 0) pe_int (fun _ _ => rfl)) pe_str (nomark _)) (pe_make (mk_Both T) (okBoth___init__ T) (hr.mono (by omega)) (by rfl) T.gCBoth T.bBoth___init__ .nil pass0 (pa_cons (pv 1) pa_nil)) (pe_make (mk_Either T) (okEither___init__ T) (hr.mono (by omega)) (by rfl) T.gCEither T.bEither___init__ .nil pass0 (pa_cons (pv 1) pa_nil)))))))))
      , ?_⟩
    cases r with
    | hours f b =>
      obtain rfl : ys = [.str "hours", .int f, .int b] := hy
      walk_at "s"
      refine i_ixT0 (SqT.of ht) ?_
      walk_at "s"
      refine i_ixT1 (SqT.of ht) ?_
      walk_at "s"
      refine i_ixT2 (SqT.of ht) ?_
      walk_at "s"
      intro x dx hx hd ne
      exact ⟨x, dx, f, b, rfl, upd_same, fun H' e k => ⟨rfl, q _ _ ⟨x, dx, _, rfl, e, rfl⟩ (made_same hx hd k)⟩⟩
    | days ds =>
      obtain ⟨u, rfl, hu⟩ : ∃ u, ys = [.str "days", .ref u] ∧ H u = some (.tup (ds.map .int)) := hy
      walk_at "s"
      refine i_ixT0 (SqT.of ht) ?_
      walk_at "s"
      refine i_ixT0 (SqT.of ht) ?_
      walk_at "s"
      refine i_ixT1 (SqT.of ht) ?_
      walk_at "s"
      intro x dx hx hd ne
      have hu2 : (upd (upd H dx (.own x)) x (.ins T.CDays dx [])) u = some (.tup (ds.map .int)) := by
        rw [upd_ne (ne_of_none hu hx), upd_ne (ne_of_none hu hd)]; exact hu
      refine ⟨x, dx, u, _, rfl, upd_same, hu2, fun H' e k => ⟨rfl, q _ _ ⟨x, dx, _, rfl, e, u, rfl, k _ _ (ne_of_none hu hx) hu2⟩ (made_same hx hd k)⟩⟩
    | unl r =>
      obtain ⟨y, rfl, hy⟩ : ∃ x, ys = [.str "unless", x] ∧ LAt H d x r := hy
      walk_at "s"
      refine i_ixT0 (SqT.of ht) ?_
      walk_at "s"
      refine i_ixT0 (SqT.of ht) ?_
      walk_at "s"
      refine i_ixT0 (SqT.of ht) ?_
      walk_at "s"
      refine i_ixT1 (SqT.of ht) ?_
      walk_at "s"
      refine ⟨y, r, rfl, hy, fun z H1 hz s1 => ?_⟩
      walk_at "s"
      intro x dx hx hd ne
      refine ⟨x, dx, z, rfl, upd_same, fun H' e k => ⟨rfl, q _ _ ⟨x, dx, _, rfl, e, z, rfl, hz.same T (made_same hx hd k)⟩ (s1.trans (made_same hx hd k))⟩⟩
    | both rs => ?both
    | eith rs => ?eith
    case both =>
      obtain ⟨u, xs, rfl, hu, hl, hxs⟩ : ∃ u xs, ys = [.str "both", .ref u] ∧ H u = some (.tup xs) ∧ rs.length ≤ 8 ∧ Paired (LAt H d) xs rs := hy
      have hlen := Paired.length hxs
      walk_at "s"
      refine i_ixT0 (SqT.of ht) ?_
      walk_at "s"
      refine i_ixT0 (SqT.of ht) ?_
      walk_at "s"
      refine i_ixT0 (SqT.of ht) ?_
      walk_at "s"
      refine i_ixT1 (SqT.of ht) ?_
      refine ⟨u, rfl, ⟨_, SqT.of hu⟩, fun D hD => ?_⟩
      refine lc_tup (K := K) (a := u) (xs := xs) (fun i H' => ∃ zs, H' D = some (.lst zs) ∧ Paired (RuleAt T H' d) zs (rs.take i) ∧ Same H H') ⟨[], upd_same, by rw [List.take_zero]; exact .nil, same_upd hD⟩ (fun i H' _ z => SqT.of (z.choose_spec.2.2 _ _ hu)) ?_ ?_
      · rintro i x H1 hx ⟨zs, eD, hz, s1⟩
        obtain ⟨r, hr1, hr2⟩ := paired_at hxs hx
        have hi : i < rs.length := (List.getElem?_eq_some_iff.mp hr1).1
        walk_at "s"
        refine ⟨x, r, rfl, hr2.same s1, fun y H2 hy s2 => ?_⟩
        have lz := Paired.length hz
        rw [List.length_take] at lz
        have eD2 := s2 _ _ eD
        refine ⟨_, eD2, lt_line (by omega), zs ++ [y], upd_same, ?_, app_same hD (s1.trans s2)⟩
        rw [List.take_succ, hr1, Option.toList_some]
        exact paired_app (paired_mono (fun _ _ z => (z.same T s2).mono T (solid_upd eD2)) hz) (.cons (hy.mono T (solid_upd eD2)) .nil)
      · rintro H1 ⟨zs, eD, hz, s1⟩
        rw [hlen, List.take_length] at hz
        walk_at "s"
        refine ⟨D, _, rfl, .inl ⟨SqL.of eD, fun p hp => ?_⟩⟩
        walk_at "s"
        have ht1 := s1 _ _ ht
        have s2 := s1.trans (same_upd (o := .tup zs) hp)
        have hz2 := paired_mono (fun _ _ z => RuleAt.same T z (same_upd (o := .tup zs) hp)) hz
        have ep : (upd H1 p (.tup zs)) p = some (.tup zs) := upd_same
        generalize upd H1 p (.tup zs) = H2 at s2 hz2 ep ⊢
        refine i_ixT0 (SqT.of (s2 _ _ ht)) ?_
        walk_at "s"
        intro x dx hx hd ne
        have hu2 : (upd (upd H2 dx (.own x)) x (.ins T.CBoth dx [])) p = some (.tup zs) := by
          rw [upd_ne (ne_of_none ep hx), upd_ne (ne_of_none ep hd)]; exact ep
        refine ⟨x, dx, p, _, rfl, upd_same, hu2, fun H' e k => ⟨rfl, q _ _ ⟨x, dx, _, rfl, e, p, zs, rfl, k _ _ (ne_of_none ep hx) hu2, by omega, ?_⟩ (s2.trans (made_same hx hd k))⟩⟩
        exact paired_mono (fun _ _ z => RuleAt.same T z (made_same hx hd k)) hz2
    case eith =>
      obtain ⟨u, xs, rfl, hu, hl, hxs⟩ : ∃ u xs, ys = [.str "either", .ref u] ∧ H u = some (.tup xs) ∧ rs.length ≤ 8 ∧ Paired (LAt H d) xs rs := hy
      have hlen := Paired.length hxs
      walk_at "s"
      refine i_ixT0 (SqT.of ht) ?_
      walk_at "s"
      refine i_ixT0 (SqT.of ht) ?_
      walk_at "s"
      refine i_ixT0 (SqT.of ht) ?_
      walk_at "s"
      refine i_ixT1 (SqT.of ht) ?_
      refine ⟨u, rfl, ⟨_, SqT.of hu⟩, fun D hD => ?_⟩
      refine lc_tup (K := K) (a := u) (xs := xs) (fun i H' => ∃ zs, H' D = some (.lst zs) ∧ Paired (RuleAt T H' d) zs (rs.take i) ∧ Same H H') ⟨[], upd_same, by rw [List.take_zero]; exact .nil, same_upd hD⟩ (fun i H' _ z => SqT.of (z.choose_spec.2.2 _ _ hu)) ?_ ?_
      · rintro i x H1 hx ⟨zs, eD, hz, s1⟩
        obtain ⟨r, hr1, hr2⟩ := paired_at hxs hx
        have hi : i < rs.length := (List.getElem?_eq_some_iff.mp hr1).1
        walk_at "s"
        refine ⟨x, r, rfl, hr2.same s1, fun y H2 hy s2 => ?_⟩
        have lz := Paired.length hz
        rw [List.length_take] at lz
        have eD2 := s2 _ _ eD
        refine ⟨_, eD2, lt_line (by omega), zs ++ [y], upd_same, ?_, app_same hD (s1.trans s2)⟩
        rw [List.take_succ, hr1, Option.toList_some]
        exact paired_app (paired_mono (fun _ _ z => (z.same T s2).mono T (solid_upd eD2)) hz) (.cons (hy.mono T (solid_upd eD2)) .nil)
      · rintro H1 ⟨zs, eD, hz, s1⟩
        rw [hlen, List.take_length] at hz
        walk_at "s"
        refine ⟨D, _, rfl, .inl ⟨SqL.of eD, fun p hp => ?_⟩⟩
        walk_at "s"
        have ht1 := s1 _ _ ht
        have s2 := s1.trans (same_upd (o := .tup zs) hp)
        have hz2 := paired_mono (fun _ _ z => RuleAt.same T z (same_upd (o := .tup zs) hp)) hz
        have ep : (upd H1 p (.tup zs)) p = some (.tup zs) := upd_same
        generalize upd H1 p (.tup zs) = H2 at s2 hz2 ep ⊢
        refine i_ixT0 (SqT.of (s2 _ _ ht)) ?_
        walk_at "s"
        intro x dx hx hd ne
        have hu2 : (upd (upd H2 dx (.own x)) x (.ins T.CEither dx [])) p = some (.tup zs) := by
          rw [upd_ne (ne_of_none ep hx), upd_ne (ne_of_none ep hd)]; exact ep
        refine ⟨x, dx, p, _, rfl, upd_same, hu2, fun H' e k => ⟨rfl, q _ _ ⟨x, dx, _, rfl, e, p, zs, rfl, k _ _ (ne_of_none ep hx) hu2, by omega, ?_⟩ (s2.trans (made_same hx hd k))⟩⟩
        exact paired_mono (fun _ _ z => RuleAt.same T z (made_same hx hd k)) hz2
end
set_option maxHeartbeats 8000000
local macro_rules | `(tactic| walk_at "c") => `(tactic| first | omega | decide | exact ⟨by omega, by omega⟩ | exact ⟨by decide, by decide⟩ | exact .inl ⟨by omega, by omega⟩ | exact .inr ⟨by omega, by omega⟩ | exact ⟨by omega, by omega, by omega⟩ | exact ⟨by decide, by decide, by decide⟩ | exact le_line (Nat.le_of_ble_eq_true rfl))
local macro_rules | `(tactic| walk_at "a") => `(tactic| with_reducible (first | refine i_seq ?_ | refine i_asg ?_ | refine i_cons ?_ | refine i_c ?_ | refine i_nil ?_ | refine i_op ?_ | refine i_call ?_ | refine i_cb ?_ | refine i_name ?_ | refine i_next ?_ | refine i_ret ?_ | refine i_drop ?_ | refine i_if ?_ | refine i_test ?_ | refine i_and ?_ | refine i_or ?_ | refine i_not ?_ | refine i_ite ?_ | refine i_lst ?_ | refine i_tup ?_ | refine i_bm ?_ | refine i_un ?_ | refine i_par ?_ | refine i_gsub ?_ | refine i_chain ?_ | refine i_sl ?_ | refine i_nopart ?_ | refine i_part ?_ | refine i_m1 ?_ | refine i_m0 ?_ | refine i_lc ?_ | refine i_iList ?_ | refine i_iTup ?_ | refine i_iStr ?_ | refine i_r1 ?_ | refine i_set ?_ | refine i_callk ?_ | refine i_callN ?_ | refine i_ckw ?_ | refine i_revL ?_ | refine i_tB ?_ | refine i_fld ?_ | refine i_sfld ?_ | refine i_make ?_ | refine i_makeN ?_ | refine i_meth ?_ | refine i_andV ?_ | refine i_orV ?_ | refine i_notV ?_ | refine iteT ?_ | refine iteF ?_ | refine i_yes ?_))
local macro_rules | `(tactic| walk_at "s") => `(tactic| repeat (first | walk_at "a" | refine i_var rfl ?_ | refine i_aug rfl ?_ | refine And.intro ⟨_, rfl⟩ ?_ | refine ⟨_, rfl, ?_⟩ | refine ⟨_, _, rfl, rfl, ?_⟩ | refine ⟨_, _, rfl, ?_⟩ | refine ⟨rfl, ?_⟩ | refine And.intro (by walk_at "c") ?_))
/-! ### a look through the tree -/
section
theorem cntBl_count {rs : List Bool} : ∀ (k i : Nat), i + k ≤ rs.length → cntB (fun i => rs.getD i false == true) k i = ((((rs.drop i).take k).count true : Nat) : Int)
  | 0, i, _ => by simp [cntB]
  | k + 1, i, h => by
    have hi : i < rs.length := by omega
    have ih := cntBl_count (rs := rs) k (i + 1) (by omega)
    rw [List.drop_eq_getElem_cons hi, List.take_succ_cons, List.count_cons]
    show (if (rs.getD i false == true) = true then (1 : Int) else 0) + cntB _ k (i + 1) = _
    rw [ih]
    have e : rs.getD i false = rs[i] := by rw [List.getD_eq_getElem?_getD, List.getElem?_eq_getElem hi]; rfl
    rw [e]
    cases c : rs[i]
    · simp
    · simp; omega
theorem cntBl_all {rs : List Bool} : cntB (fun i => rs.getD i false == true) rs.length 0 = ((rs.count true : Nat) : Int) := by
  have := cntBl_count (rs := rs) rs.length 0 (by omega)
  rw [this, List.drop_zero, List.take_length]
theorem count_all (bs : List Bool) : decide ((bs.count true : Int) = (bs.length : Int)) = bs.all id := by
  rw [show decide ((bs.count true : Int) = (bs.length : Int)) = decide (bs.count true = bs.length) from decide_eq_decide.mpr (by omega)]
  induction bs with
  | nil => rfl
  | cons b r ih =>
    cases b with
    | true => rw [List.count_cons_self, List.length_cons, List.all_cons]; show _ = r.all id; rw [← ih]; exact decide_eq_decide.mpr (by omega)
    | false =>
      have := List.count_le_length (a := true) (l := r)
      rw [List.count_cons_of_ne (by decide), List.length_cons, List.all_cons]
      exact decide_eq_false (by omega)
theorem count_any (bs : List Bool) : decide ((0 : Int) < (bs.count true : Int)) = bs.any id := by
  induction bs with
  | nil => rfl
  | cons b r ih =>
    cases b with
    | true => rw [List.count_cons_self, List.any_cons]; exact decide_eq_true (by omega)
    | false => rw [List.count_cons_of_ne (by decide), List.any_cons, ih]; rfl
variable {P : Program} {w : World} {K : PySem.W.Frag} {mg : Str → Option Value} {base : Heap} (T : Ev K mg base)
theorem ok_law_allows : ∀ d : Nat, FnOk P w K mg base CX0 (d + 3) T.f_law_allows T.fd_law_allows ["_law_told_rule", "_law_minute"] (spLAlw d) := by
  intro d
  induction d with
  | zero => exact ok_none T.F_law_allows scAllows fun vs H Q E ⟨_, _, _, _, h, _⟩ => h
  | succ d ihd => ?_
  have ih : Ev K mg base → FnOk P w K mg base CX0 (d + 3) T.f_law_allows T.fd_law_allows ["_law_told_rule", "_law_minute"] (spLAlw d) := fun _ => ihd
  refine T.F_law_allows.ok scAllows (fun vs H Q E h => ?_) (fun cdv A outer s H vs Q E hr h => ?_)
  · obtain ⟨v, r, m, rfl, _⟩ := h
    rfl
  · obtain ⟨v, r, m, rfl, ⟨t, ys, rfl, ht, hy⟩, q⟩ := h
    refine ⟨_,
      (pss_cons (ps_par (i := 2) (j := 3) rfl scAllows.nd rfl rfl (by decide) rfl rfl (pa_cons (pe_op op_modN (pv 1) pe_int) (pa_cons (pe_op op_modN (pe_op op_fdivN (pv 1) pe_int) pe_int) pa_nil)) (by rfl))
      (pss_cons (ps_if (pt_cmpR op_eq (pe_ix ix_tup (pv 0) pe_int (fun _ _ => rfl)) pe_str (nomark _))
      (pss_cons (ps_if (pt_cmpR op_lt (pe_ix ix_tup (pv 0) pe_int (fun _ _ => rfl)) (pe_ix ix_tup (pv 0) pe_int (fun _ _ => rfl)) (nomark _))
      (pss_one (ps_ret (pe_chain op_le op_lt (pe_ix ix_tup (pv 0) pe_int (fun _ _ => rfl)) (pv 2) (pe_ix ix_tup (pv 0) pe_int (fun _ _ => rfl)))))
      pss_nil)
      (pss_one (ps_ret (pe_not (pe_chain op_le op_lt (pe_ix ix_tup (pv 0) pe_int (fun _ _ => rfl)) (pv 2) (pe_ix ix_tup (pv 0) pe_int (fun _ _ => rfl)))))))
      pss_nil)
      (pss_cons (ps_if (pt_cmpR op_eq (pe_ix ix_tup (pv 0) pe_int (fun _ _ => rfl)) pe_str (nomark _))
      (pss_one (ps_ret (pe_cmpR op_in_seq (pv 3) (pe_ix ix_tup (pv 0) pe_int (fun _ _ => rfl)) (by rfl))))
      pss_nil)
      (pss_cons (ps_if (pt_cmpR op_eq (pe_ix ix_tup (pv 0) pe_int (fun _ _ => rfl)) pe_str (nomark _))
      (pss_one (ps_ret (pe_not (pe_call (ih T) (hr.mono (by omega)) (by rfl) T.g_law_allows T.F_law_allows.kp T.b_law_allows .nil pass0 (pa_cons (pe_ix ix_tup (pv 0) pe_int (fun _ _ => rfl)) (pa_cons (pv 1) pa_nil))))))
      pss_nil)
      (pss_cons (ps_setLc (i := 4) (own := [("_law_one", 5)]) (g := gName 5) (tt := tYes) rfl scAllows.nd rfl rfl (sw_true rfl rfl rfl (by decide +kernel)) (pi_tup (pe_ix ix_tup (pv 0) pe_int (fun _ _ => rfl))) (blkOk_by (N := NAllows) (own := [("_law_one", 5)]) (sc := defScope sAllows) (by decide +kernel)) (fun _ _ _ _ _ => pg_name (i := 5) scAllows.nd rfl (Or.inl rfl)) (fun _ _ _ _ _ => pts_nil) (fun _ _ _ _ _ => (pe_call (ih T) (hr.mono (by omega)) (by rfl) T.g_law_allows T.F_law_allows.kp T.b_law_allows .nil pass0 (pa_cons (pv 5) (pa_cons (pv 1) pa_nil)))))
      (pss_one (ps_ret (pe_ifExp (pt_cmpR op_eq (pe_ix ix_tup (pv 0) pe_int (fun _ _ => rfl)) pe_str (nomark _)) (pe_cmpR op_eq (pe_bm PySem.F.plainAttrs_list PySem.F.slot_list_count PySem.F.type_list_count mt_countBl (pv 4) (pa_cons pe_bl pa_nil)) (pe_callB call_len_seq (by rfl) T.mlen PySem.boot_len (pa_cons (pv 4) pa_nil)) (nomark _)) (pe_cmpR op_gt (pe_bm PySem.F.plainAttrs_list PySem.F.slot_list_count PySem.F.type_list_count mt_countBl (pv 4) (pa_cons pe_bl pa_nil)) pe_int (nomark _))))))))))
      , ?_⟩
    cases r with
    | hours f b =>
      obtain rfl : ys = [.str "hours", .int f, .int b] := hy
      have e : alw (.hours f b) m = if f < b then decide (f ≤ m.fmod 1440) && decide (m.fmod 1440 < b) else decide (f ≤ m.fmod 1440) || decide (m.fmod 1440 < b) := by simp [alw, alwc]
      have z := q H same_refl
      rw [e] at z
      walk_at "s"
      refine i_ixT0 (SqT.of ht) ?_
      walk_at "s"
      refine i_ixT1 (SqT.of ht) ?_
      walk_at "s"
      refine i_ixT2 (SqT.of ht) ?_
      walk_at "s"
      refine ite2 (fun c => ?_) (fun c => ?_)
      · rw [if_pos (of_decide_eq_true c)] at z
        walk_at "s"
        refine i_ixT1 (SqT.of ht) ?_
        walk_at "s"
        refine ite2 (fun c1 => ?_) (fun c1 => ?_)
        · walk_at "s"
          refine i_ixT2 (SqT.of ht) ?_
          walk_at "s"
          rw [c1, Bool.true_and] at z
          exact z
        · rw [Bool.eq_false_iff.mpr c1, Bool.false_and] at z
          exact z
      · rw [if_neg (fun y => c (decide_eq_true y))] at z
        have hfb : ¬ f < b := fun y => c (decide_eq_true y)
        walk_at "s"
        refine i_ixT2 (SqT.of ht) ?_
        walk_at "s"
        refine ite2 (fun c1 => ?_) (fun c1 => ?_)
        · walk_at "s"
          refine i_ixT1 (SqT.of ht) ?_
          walk_at "s"
          have c2 := of_decide_eq_true c1
          have e2 : (decide (f ≤ m.fmod 1440) || decide (m.fmod 1440 < b)) = !decide (m.fmod 1440 < f) := by
            rw [decide_eq_false (show ¬ m.fmod 1440 < b by omega), Bool.or_false]
            by_cases h : f ≤ m.fmod 1440
            · rw [decide_eq_true h, decide_eq_false (by omega)]; rfl
            · rw [decide_eq_false h, decide_eq_true (by omega)]; rfl
          rw [e2] at z
          exact z
        · have c2 : ¬ b ≤ m.fmod 1440 := fun y => c1 (decide_eq_true y)
          rw [decide_eq_true (show m.fmod 1440 < b by omega), Bool.or_true] at z
          exact ⟨_, rfl, z⟩
    | days ds =>
      obtain ⟨u, rfl, hu⟩ : ∃ u, ys = [.str "days", .ref u] ∧ H u = some (.tup (ds.map .int)) := hy
      walk_at "s"
      refine i_ixT0 (SqT.of ht) ?_
      walk_at "s"
      refine i_ixT0 (SqT.of ht) ?_
      walk_at "s"
      refine i_ixT1 (SqT.of ht) ?_
      refine ⟨u, _, rfl, .inr (SqT.of hu), rfl, flat_ints ds, ?_⟩
      rw [inV_int]
      have z := q H same_refl
      simp only [alw, alwc] at z
      exact z
    | unl r =>
      obtain ⟨y, rfl, hy⟩ : ∃ x, ys = [.str "unless", x] ∧ LAt H d x r := hy
      walk_at "s"
      refine i_ixT0 (SqT.of ht) ?_
      walk_at "s"
      refine i_ixT0 (SqT.of ht) ?_
      walk_at "s"
      refine i_ixT0 (SqT.of ht) ?_
      walk_at "s"
      refine i_ixT1 (SqT.of ht) ?_
      walk_at "s"
      refine ⟨y, r, m, rfl, hy, fun H1 s1 => ?_⟩
      have z := q H1 s1
      rw [show alw (.unl r) m = !alw r m by simp [alw, alwc]] at z
      exact ⟨_, rfl, z⟩
    | both rs => ?both
    | eith rs => ?eith
    case both =>
      obtain ⟨u, xs, rfl, hu, hl, hxs⟩ : ∃ u xs, ys = [.str "both", .ref u] ∧ H u = some (.tup xs) ∧ rs.length ≤ 8 ∧ Paired (LAt H d) xs rs := hy
      have hlen := Paired.length hxs
      walk_at "s"
      refine i_ixT0 (SqT.of ht) ?_
      walk_at "s"
      refine i_ixT0 (SqT.of ht) ?_
      walk_at "s"
      refine i_ixT0 (SqT.of ht) ?_
      walk_at "s"
      refine i_ixT1 (SqT.of ht) ?_
      refine ⟨u, rfl, ⟨_, SqT.of hu⟩, fun D hD => ?_⟩
      refine lc_tup (K := K) (a := u) (xs := xs) (fun i H' => H' D = some (.lst (((rs.take i).map fun r => alw r m).map V.bl)) ∧ Same H H') ⟨upd_same, same_upd hD⟩ (fun i H' _ z => SqT.of (z.2 _ _ hu)) ?_ ?_
      · rintro i x H1 hx ⟨eD, s1⟩
        obtain ⟨r, hr1, hr2⟩ := paired_at hxs hx
        have hi : i < rs.length := (List.getElem?_eq_some_iff.mp hr1).1
        walk_at "s"
        refine ⟨x, r, m, rfl, hr2.same s1, fun H2 s2 => ?_⟩
        refine ⟨_, s2 _ _ eD, lt_line (by rw [List.length_map, List.length_map, List.length_take]; omega), ?_, app_same hD (s1.trans s2)⟩
        rw [upd_same, List.take_succ, hr1, Option.toList_some, List.map_append, List.map_append]
        rfl
      · rintro H1 ⟨eD, s1⟩
        rw [hlen, List.take_length] at eD
        walk_at "s"
        refine i_ixT0 (SqT.of (s1 _ _ ht)) ?_
        walk_at "s"
        refine And.intro (.inl ⟨rfl, _, SqL.of eD⟩) ?_
        walk_at "s"
        refine ⟨D, _, true, rfl, rfl, eD, ?_⟩
        rw [cntBl_all]
        walk_at "s"
        refine ⟨D, _, rfl, .inl (SqL.of eD), ?_⟩
        walk_at "s"
        rw [List.length_map, decide_eq_decide.mpr (show V.int _ = V.int _ ↔ (((rs.map fun r => alw r m).count true : Nat) : Int) = (((rs.map fun r => alw r m).length : Nat) : Int) from ⟨fun e => V.int.inj e, fun e => congrArg V.int e⟩), count_all]
        have z := q H1 s1
        rw [show alw (.both rs) m = (rs.map fun r => alw r m).all id by simp [alw, alwc, alws_map]] at z
        exact z
    case eith =>
      obtain ⟨u, xs, rfl, hu, hl, hxs⟩ : ∃ u xs, ys = [.str "either", .ref u] ∧ H u = some (.tup xs) ∧ rs.length ≤ 8 ∧ Paired (LAt H d) xs rs := hy
      have hlen := Paired.length hxs
      walk_at "s"
      refine i_ixT0 (SqT.of ht) ?_
      walk_at "s"
      refine i_ixT0 (SqT.of ht) ?_
      walk_at "s"
      refine i_ixT0 (SqT.of ht) ?_
      walk_at "s"
      refine i_ixT1 (SqT.of ht) ?_
      refine ⟨u, rfl, ⟨_, SqT.of hu⟩, fun D hD => ?_⟩
      refine lc_tup (K := K) (a := u) (xs := xs) (fun i H' => H' D = some (.lst (((rs.take i).map fun r => alw r m).map V.bl)) ∧ Same H H') ⟨upd_same, same_upd hD⟩ (fun i H' _ z => SqT.of (z.2 _ _ hu)) ?_ ?_
      · rintro i x H1 hx ⟨eD, s1⟩
        obtain ⟨r, hr1, hr2⟩ := paired_at hxs hx
        have hi : i < rs.length := (List.getElem?_eq_some_iff.mp hr1).1
        walk_at "s"
        refine ⟨x, r, m, rfl, hr2.same s1, fun H2 s2 => ?_⟩
        refine ⟨_, s2 _ _ eD, lt_line (by rw [List.length_map, List.length_map, List.length_take]; omega), ?_, app_same hD (s1.trans s2)⟩
        rw [upd_same, List.take_succ, hr1, Option.toList_some, List.map_append, List.map_append]
        rfl
      · rintro H1 ⟨eD, s1⟩
        rw [hlen, List.take_length] at eD
        walk_at "s"
        refine i_ixT0 (SqT.of (s1 _ _ ht)) ?_
        walk_at "s"
        refine And.intro (.inl ⟨rfl, _, SqL.of eD⟩) ?_
        walk_at "s"
        refine ⟨D, _, true, rfl, rfl, eD, ?_⟩
        rw [cntBl_all]
        walk_at "s"
        dsimp only
        rw [count_any]
        have z := q H1 s1
        rw [show alw (.eith rs) m = (rs.map fun r => alw r m).any id by simp [alw, alwc, alws_map]] at z
        exact z
end
set_option maxHeartbeats 8000000
local macro_rules | `(tactic| walk_at "c") => `(tactic| first | omega | decide | exact ⟨by omega, by omega⟩ | exact ⟨by decide, by decide⟩ | exact .inl ⟨by omega, by omega⟩ | exact .inr ⟨by omega, by omega⟩ | exact ⟨by omega, by omega, by omega⟩ | exact ⟨by decide, by decide, by decide⟩ | exact le_line (Nat.le_of_ble_eq_true rfl))
local macro_rules | `(tactic| walk_at "a") => `(tactic| with_reducible (first | refine i_seq ?_ | refine i_asg ?_ | refine i_cons ?_ | refine i_c ?_ | refine i_nil ?_ | refine i_op ?_ | refine i_call ?_ | refine i_cb ?_ | refine i_name ?_ | refine i_next ?_ | refine i_ret ?_ | refine i_drop ?_ | refine i_if ?_ | refine i_test ?_ | refine i_and ?_ | refine i_or ?_ | refine i_not ?_ | refine i_ite ?_ | refine i_lst ?_ | refine i_tup ?_ | refine i_bm ?_ | refine i_un ?_ | refine i_par ?_ | refine i_gsub ?_ | refine i_chain ?_ | refine i_sl ?_ | refine i_nopart ?_ | refine i_part ?_ | refine i_m1 ?_ | refine i_m0 ?_ | refine i_lc ?_ | refine i_iList ?_ | refine i_iTup ?_ | refine i_iStr ?_ | refine i_r1 ?_ | refine i_set ?_ | refine i_callk ?_ | refine i_callN ?_ | refine i_ckw ?_ | refine i_revL ?_ | refine i_tB ?_ | refine i_fld ?_ | refine i_sfld ?_ | refine i_make ?_ | refine i_makeN ?_ | refine i_meth ?_ | refine i_andV ?_ | refine i_orV ?_ | refine i_notV ?_ | refine iteT ?_ | refine iteF ?_ | refine i_yes ?_))
local macro_rules | `(tactic| walk_at "s") => `(tactic| repeat (first | walk_at "a" | refine i_var rfl ?_ | refine i_aug rfl ?_ | refine And.intro ⟨_, rfl⟩ ?_ | refine ⟨_, rfl, ?_⟩ | refine ⟨_, _, rfl, rfl, ?_⟩ | refine ⟨_, _, rfl, ?_⟩ | refine ⟨rfl, ?_⟩ | refine And.intro (by walk_at "c") ?_))
/-! ### all clocks of a tree -/
mutual
def clk : RT → List Int
  | .hours f b => [f, b]
  | .days _ => []
  | .unl r => clk r
  | .both rs => clks rs
  | .eith rs => clks rs
def clks : List RT → List Int
  | [] => []
  | r :: rs => clk r ++ clks rs
end
theorem clks_app : ∀ l m : List RT, clks (l ++ m) = clks l ++ clks m
  | [], m => by rw [clks]; rfl
  | r :: l, m => by rw [List.cons_append, clks, clks, clks_app l m, List.append_assoc]
theorem clks_take {rs : List RT} {i : Nat} {r : RT} (h : rs[i]? = some r) : clks (rs.take (i + 1)) = clks (rs.take i) ++ clk r := by
  rw [List.take_succ, h, Option.toList_some, clks_app]
  simp [clks]
mutual
theorem clk_len : ∀ r : RT, (clk r).length ≤ 2 * r.nodes
  | .hours f b => by rw [clk, RT.nodes]; exact Nat.le_refl _
  | .days ds => by rw [clk, RT.nodes]; exact Nat.zero_le _
  | .unl r => by have := clk_len r; rw [clk, RT.nodes]; omega
  | .both rs => by have := clks_len rs; rw [clk, RT.nodes]; omega
  | .eith rs => by have := clks_len rs; rw [clk, RT.nodes]; omega
theorem clks_len : ∀ rs : List RT, (clks rs).length ≤ 2 * RT.nodess rs
  | [] => by rw [clks, RT.nodess]; exact Nat.zero_le _
  | r :: rs => by have := clk_len r; have := clks_len rs; rw [clks, RT.nodess, List.length_append]; omega
end
theorem nodess_le : ∀ (rs : List RT) (i : Nat), RT.nodess (rs.take i) ≤ RT.nodess rs
  | [], i => by rw [List.take_nil]; exact Nat.le_refl _
  | x :: rs, 0 => by rw [List.take_zero, RT.nodess]; exact Nat.zero_le _
  | x :: rs, i + 1 => by have := nodess_le rs i; rw [List.take_succ_cons, RT.nodess, RT.nodess]; omega
section
def spClocks (d : Nat) : Sp := fun vs H Q _ => ∃ (v : V) (r : RT), vs = [v] ∧ r.nodes ≤ 2000 ∧ LAt H d v r ∧ ∀ (l : Addr) H', H l = none → H' l = some (.lst ((clk r).map .int)) → Same H H' → Q (.ref l) H'
variable {P : Program} {w : World} {K : PySem.W.Frag} {mg : Str → Option Value} {base : Heap} (T : Ev K mg base)
theorem ok_law_clocks : ∀ d : Nat, FnOk P w K mg base CX0 (d + 3) T.f_law_clocks T.fd_law_clocks ["_law_told_rule"] (spClocks d) := by
  intro d
  induction d with
  | zero => exact ok_none T.F_law_clocks scClocks fun vs H Q E ⟨_, _, _, _, h, _⟩ => h
  | succ d ihd => ?_
  have ih : Ev K mg base → FnOk P w K mg base CX0 (d + 3) T.f_law_clocks T.fd_law_clocks ["_law_told_rule"] (spClocks d) := fun _ => ihd
  refine T.F_law_clocks.ok scClocks (fun vs H Q E h => ?_) (fun cdv A outer s H vs Q E hr h => ?_)
  · obtain ⟨v, r, rfl, _⟩ := h
    rfl
  · obtain ⟨v, r, rfl, hn, ⟨t, ys, rfl, ht, hy⟩, q⟩ := h
    refine ⟨_,
      (pss_cons (ps_if (pt_cmpR op_eq (pe_ix ix_tup (pv 0) pe_int (fun _ _ => rfl)) pe_str (nomark _))
      (pss_one (ps_ret (pe_lst (pa_cons (pe_ix ix_tup (pv 0) pe_int (fun _ _ => rfl)) (pa_cons (pe_ix ix_tup (pv 0) pe_int (fun _ _ => rfl)) pa_nil)))))
      pss_nil)
      (pss_cons (ps_if (pt_cmpR op_eq (pe_ix ix_tup (pv 0) pe_int (fun _ _ => rfl)) pe_str (nomark _))
      (pss_one (ps_ret (pe_lst pa_nil)))
      pss_nil)
      (pss_cons (ps_if (pt_cmpR op_eq (pe_ix ix_tup (pv 0) pe_int (fun _ _ => rfl)) pe_str (nomark _))
      (pss_one (ps_ret (pe_call (ih T) (hr.mono (by omega)) (by rfl) T.g_law_clocks T.F_law_clocks.kp T.b_law_clocks .nil pass0 (pa_cons (pe_ix ix_tup (pv 0) pe_int (fun _ _ => rfl)) pa_nil))))
      pss_nil)
      (pss_cons (ps_set (i := 1) scClocks.nd rfl (.inl rfl) (pe_lst pa_nil))
      (pss_cons (ps_for PassesOwn.never rfl (pi_tup (pe_ix ix_tup (pv 0) pe_int (fun _ _ => rfl))) (pg_name (i := 2) scClocks.nd rfl (.inl rfl))
      (pss_one (ps_set (i := 1) scClocks.nd rfl (.inl rfl) (pe_op op_cat (pv 1) (pe_call (ih T) (hr.mono (by omega)) (by rfl) T.g_law_clocks T.F_law_clocks.kp T.b_law_clocks .nil pass0 (pa_cons (pv 2) pa_nil))))))
      (pss_one (ps_ret (pv 1))))))))
      , ?_⟩
    cases r with
    | hours f b =>
      obtain rfl : ys = [.str "hours", .int f, .int b] := hy
      walk_at "s"
      refine i_ixT0 (SqT.of ht) ?_
      walk_at "s"
      refine i_ixT1 (SqT.of ht) ?_
      walk_at "s"
      refine i_ixT2 (SqT.of ht) ?_
      walk_at "s"
      intro l hl
      refine q l _ hl ?_ (same_upd hl)
      rw [upd_same, clk]; rfl
    | days ds =>
      obtain ⟨u, rfl, hu⟩ : ∃ u, ys = [.str "days", .ref u] ∧ H u = some (.tup (ds.map .int)) := hy
      walk_at "s"
      refine i_ixT0 (SqT.of ht) ?_
      walk_at "s"
      refine i_ixT0 (SqT.of ht) ?_
      walk_at "s"
      intro l hl
      refine q l _ hl ?_ (same_upd hl)
      rw [upd_same, clk]; rfl
    | unl r =>
      obtain ⟨y, rfl, hy⟩ : ∃ x, ys = [.str "unless", x] ∧ LAt H d x r := hy
      walk_at "s"
      refine i_ixT0 (SqT.of ht) ?_
      walk_at "s"
      refine i_ixT0 (SqT.of ht) ?_
      walk_at "s"
      refine i_ixT0 (SqT.of ht) ?_
      walk_at "s"
      refine i_ixT1 (SqT.of ht) ?_
      walk_at "s"
      rw [RT.nodes] at hn
      refine ⟨y, r, rfl, by omega, hy, fun l H1 hl e1 s1 => ?_⟩
      refine q l _ hl ?_ s1
      rw [clk]; exact e1
    | both rs => ?both
    | eith rs => ?eith
    case both =>
      obtain ⟨u, xs, rfl, hu, hl, hxs⟩ : ∃ u xs, ys = [.str "both", .ref u] ∧ H u = some (.tup xs) ∧ rs.length ≤ 8 ∧ Paired (LAt H d) xs rs := hy
      have hlen := Paired.length hxs
      walk_at "s"
      refine i_ixT0 (SqT.of ht) ?_
      walk_at "s"
      refine i_ixT0 (SqT.of ht) ?_
      walk_at "s"
      refine i_ixT0 (SqT.of ht) ?_
      walk_at "s"
      intro l0 hl0
      have s0 : Same H (upd H l0 (.lst [])) := same_upd hl0
      have e0 : (upd H l0 (.lst [])) l0 = some (.lst (([] : List Int).map .int)) := upd_same
      generalize upd H l0 (.lst []) = H0 at s0 e0 ⊢
      walk_at "s"
      refine i_ixT1 (SqT.of (s0 _ _ ht)) ?_
      refine ⟨u, rfl, ⟨_, SqT.of (s0 _ _ hu)⟩, ?_⟩
      refine for_tup (K := K) (a := u) (xs := xs) (fun i σ H' => ∃ (l : Addr) (w2 : Option V), σ = [some (.ref t), some (.ref l), w2] ∧ H' l = some (.lst ((clks (rs.take i)).map .int)) ∧ H l = none ∧ Same H H')
        ⟨l0, _, rfl, by rw [List.take_zero, clks]; exact e0, hl0, s0⟩ (fun i σ H' _ ⟨_, _, _, _, _, z⟩ => SqT.of (z _ _ hu)) ?_ ?_
      · rintro i x σ H1 hx ⟨l, w2, rfl, eL, hc, s1⟩
        obtain ⟨r, hr1, hr2⟩ := paired_at hxs hx
        have hi : i < rs.length := (List.getElem?_eq_some_iff.mp hr1).1
        walk_at "s"
        have hnr := nodes_pos rs (List.mem_of_getElem? hr1)
        rw [RT.nodes] at hn
        refine ⟨x, r, rfl, by omega, hr2.same s1, fun l2 H2 hl2 e2 s2 => ?_⟩
        have ha := clks_len (rs.take i)
        have hb := nodess_le rs i
        have hc2 := clk_len r
        refine ⟨l, l2, _, _, rfl, rfl, s2 _ _ eL, e2, ?_, fun p hp => ?_⟩
        · rw [List.length_map, List.length_map]; exact le_line (by omega)
        · walk_at "s"
          refine ⟨by rw [upd_same, clks_take hr1, List.map_append], (s1.trans s2).free hp, (s1.trans s2).trans (same_upd hp)⟩
      · rintro σ H1 ⟨l, w2, rfl, eL, hc, s1⟩
        rw [hlen, List.take_length] at eL
        walk_at "s"
        refine q l H1 hc ?_ s1
        rw [clk]; exact eL
    case eith =>
      obtain ⟨u, xs, rfl, hu, hl, hxs⟩ : ∃ u xs, ys = [.str "either", .ref u] ∧ H u = some (.tup xs) ∧ rs.length ≤ 8 ∧ Paired (LAt H d) xs rs := hy
      have hlen := Paired.length hxs
      walk_at "s"
      refine i_ixT0 (SqT.of ht) ?_
      walk_at "s"
      refine i_ixT0 (SqT.of ht) ?_
      walk_at "s"
      refine i_ixT0 (SqT.of ht) ?_
      walk_at "s"
      intro l0 hl0
      have s0 : Same H (upd H l0 (.lst [])) := same_upd hl0
      have e0 : (upd H l0 (.lst [])) l0 = some (.lst (([] : List Int).map .int)) := upd_same
      generalize upd H l0 (.lst []) = H0 at s0 e0 ⊢
      walk_at "s"
      refine i_ixT1 (SqT.of (s0 _ _ ht)) ?_
      refine ⟨u, rfl, ⟨_, SqT.of (s0 _ _ hu)⟩, ?_⟩
      refine for_tup (K := K) (a := u) (xs := xs) (fun i σ H' => ∃ (l : Addr) (w2 : Option V), σ = [some (.ref t), some (.ref l), w2] ∧ H' l = some (.lst ((clks (rs.take i)).map .int)) ∧ H l = none ∧ Same H H')
        ⟨l0, _, rfl, by rw [List.take_zero, clks]; exact e0, hl0, s0⟩ (fun i σ H' _ ⟨_, _, _, _, _, z⟩ => SqT.of (z _ _ hu)) ?_ ?_
      · rintro i x σ H1 hx ⟨l, w2, rfl, eL, hc, s1⟩
        obtain ⟨r, hr1, hr2⟩ := paired_at hxs hx
        have hi : i < rs.length := (List.getElem?_eq_some_iff.mp hr1).1
        walk_at "s"
        have hnr := nodes_pos rs (List.mem_of_getElem? hr1)
        rw [RT.nodes] at hn
        refine ⟨x, r, rfl, by omega, hr2.same s1, fun l2 H2 hl2 e2 s2 => ?_⟩
        have ha := clks_len (rs.take i)
        have hb := nodess_le rs i
        have hc2 := clk_len r
        refine ⟨l, l2, _, _, rfl, rfl, s2 _ _ eL, e2, ?_, fun p hp => ?_⟩
        · rw [List.length_map, List.length_map]; exact le_line (by omega)
        · walk_at "s"
          refine ⟨by rw [upd_same, clks_take hr1, List.map_append], (s1.trans s2).free hp, (s1.trans s2).trans (same_upd hp)⟩
      · rintro σ H1 ⟨l, w2, rfl, eL, hc, s1⟩
        rw [hlen, List.take_length] at eL
        walk_at "s"
        refine q l H1 hc ?_ s1
        rw [clk]; exact eL
end
/-! ### a rule's pieces, edge by edge -/
mutual
theorem alwc_step : ∀ (r : RT) (c w : Int), c ∉ clk r → alwc r c w = alwc r (c - 1) w
  | .hours f b, c, w, h => by
    rw [clk] at h
    have h1 : c ≠ f := fun e => h (by rw [e]; simp)
    have h2 : c ≠ b := fun e => h (by rw [e]; simp)
    simp only [alwc]
    have e1 : decide (f ≤ c) = decide (f ≤ c - 1) := decide_eq_decide.mpr (by omega)
    have e2 : decide (c < b) = decide (c - 1 < b) := decide_eq_decide.mpr (by omega)
    rw [e1, e2]
  | .days ds, c, w, h => by simp only [alwc]
  | .unl r, c, w, h => by
    rw [clk] at h
    simp only [alwc]
    rw [alwc_step r c w h]
  | .both rs, c, w, h => by
    rw [clk] at h
    simp only [alwc]
    rw [alws_step rs c w h]
  | .eith rs, c, w, h => by
    rw [clk] at h
    simp only [alwc]
    rw [alws_step rs c w h]
theorem alws_step : ∀ (rs : List RT) (c w : Int), c ∉ clks rs → alws rs c w = alws rs (c - 1) w
  | [], c, w, h => by simp only [alws]
  | r :: rs, c, w, h => by
    rw [clks] at h
    simp only [alws]
    rw [alwc_step r c w (fun z => h (List.mem_append_left _ z)), alws_step rs c w (fun z => h (List.mem_append_right _ z))]
end
theorem alw_step {r : RT} {x : Int} (h0 : x % 1440 ≠ 0) (h : x % 1440 ∉ clk r) : alw r x = alw r (x - 1) := by
  unfold alw
  have e1 : x.fmod 1440 = x % 1440 := Int.fmod_eq_emod_of_nonneg _ (by decide)
  have e2 : (x - 1).fmod 1440 = x % 1440 - 1 := by rw [Int.fmod_eq_emod_of_nonneg _ (by decide)]; omega
  have e3 : ((x - 1).fdiv 1440).fmod 7 = (x.fdiv 1440).fmod 7 := by
    rw [Int.fdiv_eq_ediv_of_nonneg _ (by decide), Int.fdiv_eq_ediv_of_nonneg _ (by decide), show (x - 1) / 1440 = x / 1440 by omega]
  rw [e1, e2, e3]
  exact alwc_step r _ _ h
/-- the edges of a rule from a up to b stand in a rising list -/
structure Edges (r : RT) (a b : Int) (es : List Int) : Prop where
  up : es.Pairwise (· < ·)
  lo : a ∈ es
  hi : b ∈ es
  within : ∀ e ∈ es, a ≤ e ∧ e ≤ b
  all : ∀ x, a < x → x < b → (x % 1440 = 0 ∨ x % 1440 ∈ clk r) → x ∈ es
/-- no edge between: all alike -/
theorem alw_alike {r : RT} {h : Int} : ∀ (n : Nat), (∀ y, h < y → y ≤ h + n → y % 1440 ≠ 0 ∧ y % 1440 ∉ clk r) → alw r (h + n) = alw r h
  | 0, _ => by simp
  | n + 1, g => by
    have := g (h + (n + 1 : Nat)) (by omega) (by omega)
    rw [alw_step this.1 this.2, show h + ((n + 1 : Nat) : Int) - 1 = h + n by omega]
    exact alw_alike n fun y h1 h2 => g y h1 (by omega)
theorem edges_alike {r : RT} {a b : Int} {es : List Int} (E : Edges r a b es) {i : Nat} {h t : Int} (eh : es[i]? = some h) (et : es[i + 1]? = some t) {x : Int} (h1 : h ≤ x) (h2 : x < t) : alw r x = alw r h := by
  have hh := E.within h (List.mem_of_getElem? eh)
  have ht := E.within t (List.mem_of_getElem? et)
  have key := alw_alike (r := r) (h := h) (x - h).toNat fun y y1 y2 => by
    by_cases c : y % 1440 = 0 ∨ y % 1440 ∈ clk r
    · have hm := E.all y (by omega) (by omega) c
      obtain ⟨j, hj⟩ := List.getElem?_of_mem hm
      exfalso
      obtain ⟨l1, e1⟩ := List.getElem?_eq_some_iff.mp eh
      obtain ⟨l2, e2⟩ := List.getElem?_eq_some_iff.mp et
      obtain ⟨l3, e3⟩ := List.getElem?_eq_some_iff.mp hj
      have pw := List.pairwise_iff_getElem.mp E.up
      rcases Nat.lt_or_ge i j with z | z
      · rcases Nat.lt_or_ge (i + 1) j with z2 | z2
        · have := pw (i + 1) j l2 l3 z2; omega
        · have : j = i + 1 := by omega
          subst this
          rw [e2] at e3; omega
      · rcases Nat.lt_or_ge j i with z2 | z2
        · have := pw j i l3 l1 z2; omega
        · have : j = i := by omega
          subst this
          rw [e1] at e3; omega
    · exact ⟨fun z => c (.inl z), fun z => c (.inr z)⟩
  rw [show h + (((x - h).toNat : Nat) : Int) = x by omega] at key
  exact key
/-- one turn of the walk over edges, the found ones turned about -/
def pstep (r : RT) (acc : List Pr2) (p : Pr2) : List Pr2 := if alw r p.1 = true then mrg 0 acc p else acc
def pairsOf (es : List Int) : List Pr2 := es.zip (es.drop 1)
def pieces (r : RT) (es : List Int) (i : Nat) : List Pr2 := ((pairsOf es).take i).foldl (pstep r) []
theorem pairsOf_at {es : List Int} {i : Nat} {p : Pr2} (h : (pairsOf es)[i]? = some p) : es[i]? = some p.1 ∧ es[i + 1]? = some p.2 := by
  unfold pairsOf at h
  rw [List.getElem?_zip_eq_some] at h
  rw [List.getElem?_drop] at h
  exact ⟨h.1, by rw [Nat.add_comm]; exact h.2⟩
theorem pieces_succ {r : RT} {es : List Int} {i : Nat} {p : Pr2} (h : (pairsOf es)[i]? = some p) : pieces r es (i + 1) = pstep r (pieces r es i) p := by
  unfold pieces
  rw [List.take_succ, h, Option.toList_some, List.foldl_append]
  rfl
theorem pieces_ok {r : RT} {a b : Int} {es : List Int} (E : Edges r a b es) : ∀ (i : Nat) (h : Int), es[i]? = some h → CovR 0 (fun x => a ≤ x ∧ x < h ∧ alw r x = true) (pieces r es i) ∧ ∀ q ∈ (pieces r es i).head?, q.1 ≤ h ∧ q.2 ≤ h
  | 0, h, e => by
    have h0 : h = a := by
      obtain ⟨j, hj⟩ := List.getElem?_of_mem E.lo
      have hh := E.within h (List.mem_of_getElem? e)
      obtain ⟨l1, e1⟩ := List.getElem?_eq_some_iff.mp e
      obtain ⟨l3, e3⟩ := List.getElem?_eq_some_iff.mp hj
      rcases Nat.lt_or_ge 0 j with z | z
      · have := List.pairwise_iff_getElem.mp E.up 0 j l1 l3 z; omega
      · have : j = 0 := by omega
        subst this
        rw [e1] at e3; exact e3
    subst h0
    refine ⟨?_, fun q hq => by simp [pieces] at hq⟩
    show ∀ x, ¬ (h ≤ x ∧ x < h ∧ alw r x = true)
    intro x z; omega
  | i + 1, t, e => by
    obtain ⟨l2, e2⟩ := List.getElem?_eq_some_iff.mp e
    have eh : es[i]? = some es[i] := List.getElem?_eq_getElem (by omega)
    have hp : (pairsOf es)[i]? = some (es[i], t) := by
      unfold pairsOf
      rw [List.getElem?_zip_eq_some, List.getElem?_drop]
      exact ⟨eh, by rw [Nat.add_comm]; exact e⟩
    obtain ⟨c, hd⟩ := pieces_ok E i _ eh
    have lt : es[i] < t := by have := List.pairwise_iff_getElem.mp E.up i (i + 1) (by omega) l2 (by omega); rw [e2] at this; exact this
    have ha := (E.within _ (List.mem_of_getElem? eh)).1
    rw [pieces_succ hp]
    unfold pstep
    split
    · rename_i ht
      refine ⟨CovR.congr (fun x => ?_) (covR_mrg (Int.le_refl 0) c lt fun q hq => (hd q hq).1), fun q hq => ?_⟩
      · constructor
        · rintro (⟨h1, h2, h3⟩ | ⟨h1, h2⟩)
          · exact ⟨h1, by omega, h3⟩
          · exact ⟨by omega, h2, by rw [edges_alike E eh e h1 h2]; exact ht⟩
        · rintro ⟨h1, h2, h3⟩
          by_cases z : x < es[i]
          · exact .inl ⟨h1, z, h3⟩
          · exact .inr ⟨by omega, h2⟩
      · have z := head_mrg (ap := 0) (fun q hq => (hd q hq).1) q hq
        refine ⟨by simp only at z; omega, ?_⟩
        generalize pieces r es i = acc at hd hq
        cases acc with
        | nil => have : q = (es[i], t) := by simpa [mrg] using hq.symm
                 rw [this]; exact Int.le_refl _
        | cons q0 rest =>
          have h0 := hd q0 (by simp)
          simp only [mrg] at hq
          split at hq
          · have : q = (q0.1, max q0.2 t) := by simpa using hq.symm
            rw [this]; simp only; omega
          · have : q = (es[i], t) := by simpa using hq.symm
            rw [this]; exact Int.le_refl _
    · rename_i ht
      refine ⟨CovR.congr (fun x => ?_) c, fun q hq => ?_⟩
      · constructor
        · rintro ⟨h1, h2, h3⟩
          exact ⟨h1, by omega, h3⟩
        · rintro ⟨h1, h2, h3⟩
          by_cases z : x < es[i]
          · exact ⟨h1, z, h3⟩
          · exact absurd (by rw [← edges_alike E eh e (by omega) h2]; exact h3) ht
      · have := hd q hq
        omega
theorem pieces_all {r : RT} {a b : Int} {es : List Int} (E : Edges r a b es) (hf : r.fine = true) : pieces r es (pairsOf es).length = (allowedP r a b).reverse := by
  have hl : (pairsOf es).length = es.length - 1 := by unfold pairsOf; rw [List.length_zip, List.length_drop]; omega
  have hpos : 0 < es.length := List.length_pos_of_mem E.lo
  have el : es[es.length - 1]? = some b := by
    obtain ⟨j, hj⟩ := List.getElem?_of_mem E.hi
    obtain ⟨l3, e3⟩ := List.getElem?_eq_some_iff.mp hj
    have e1 : es[es.length - 1]? = some (es[es.length - 1]'(by omega)) := List.getElem?_eq_getElem (by omega)
    have hh := E.within _ (List.mem_of_getElem? e1)
    rcases Nat.lt_or_ge j (es.length - 1) with z | z
    · have := List.pairwise_iff_getElem.mp E.up j (es.length - 1) l3 (by omega) z; omega
    · have : j = es.length - 1 := by omega
      rw [← this]; exact hj
  have c := (pieces_ok E (es.length - 1) b el).1
  rw [hl]
  exact CovR.one (Int.le_refl 0) c (CovR.congr (fun x => allowedP_cov hf x) ((allowedP_canon r a b).covR (Int.le_refl 0)))
set_option maxHeartbeats 8000000
local macro_rules | `(tactic| walk_at "c") => `(tactic| first | omega | decide | exact ⟨by omega, by omega⟩ | exact ⟨by decide, by decide⟩ | exact .inl ⟨by omega, by omega⟩ | exact .inr ⟨by omega, by omega⟩ | exact ⟨by omega, by omega, by omega⟩ | exact ⟨by decide, by decide, by decide⟩ | exact le_line (Nat.le_of_ble_eq_true rfl))
local macro_rules | `(tactic| walk_at "a") => `(tactic| with_reducible (first | refine i_seq ?_ | refine i_asg ?_ | refine i_cons ?_ | refine i_c ?_ | refine i_nil ?_ | refine i_op ?_ | refine i_call ?_ | refine i_cb ?_ | refine i_name ?_ | refine i_next ?_ | refine i_ret ?_ | refine i_drop ?_ | refine i_if ?_ | refine i_test ?_ | refine i_and ?_ | refine i_or ?_ | refine i_not ?_ | refine i_ite ?_ | refine i_lst ?_ | refine i_tup ?_ | refine i_bm ?_ | refine i_un ?_ | refine i_par ?_ | refine i_gsub ?_ | refine i_chain ?_ | refine i_sl ?_ | refine i_nopart ?_ | refine i_part ?_ | refine i_m1 ?_ | refine i_m0 ?_ | refine i_lc ?_ | refine i_iList ?_ | refine i_iTup ?_ | refine i_iStr ?_ | refine i_r1 ?_ | refine i_set ?_ | refine i_callk ?_ | refine i_callN ?_ | refine i_ckw ?_ | refine i_revL ?_ | refine i_tB ?_ | refine i_fld ?_ | refine i_sfld ?_ | refine i_make ?_ | refine i_makeN ?_ | refine i_meth ?_ | refine i_andV ?_ | refine i_orV ?_ | refine i_notV ?_ | refine iteT ?_ | refine iteF ?_ | refine i_yes ?_))
local macro_rules | `(tactic| walk_at "s") => `(tactic| repeat (first | walk_at "a" | refine i_var rfl ?_ | refine i_aug rfl ?_ | refine And.intro ⟨_, rfl⟩ ?_ | refine ⟨_, rfl, ?_⟩ | refine ⟨_, _, rfl, rfl, ?_⟩ | refine ⟨_, _, rfl, ?_⟩ | refine ⟨rfl, ?_⟩ | refine And.intro (by walk_at "c") ?_))
/-- a loop over zip of two lists, as far as the shorter one goes -/
theorem for_zipU {K : PySem.W.Frag} {a b : Addr} {xs ys : List V} {n : Nat} {g : TG} {tb : TS} {D : Ends} {σ : L2.St} {H : Hp} (h1 : n ≤ xs.length) (h2 : n ≤ ys.length) (h3 : xs.length = n ∨ ys.length = n) (Pv : Nat → L2.St → Hp → Prop) (h0 : Pv 0 σ H) (hq : ∀ i σ H, Pv i σ H → SqL K H a xs ∧ SqL K H b ys)
    (hs : ∀ (i : Nat) (x y : V) (T : Addr) (σ : L2.St) (H : Hp), i < n → xs[i]? = some x → ys[i]? = some y → Pv i σ H → H T = none → g (.ref T) σ (upd H T (.tup [x, y])) fun σ2 H2 => tb { D with nx := Pv (i + 1), ct := Pv (i + 1), bk := D.nx } σ2 H2) (hd : ∀ σ H, Pv n σ H → D.nx σ H) :
    ∃ W : Nat → Nat → L2.St → Hp → Prop, (∃ m, W 0 m σ H) ∧ ∀ i m σ H, W i m σ H →
      ((Itz K a b).stop i H ∧ D.nx σ H) ∨ ((Itz K a b).go i H ∧ ∃ N : L2.St → Hp → Prop, (∀ σ' H', N σ' H' → ∃ m', m' < m ∧ W (i + 1) m' σ' H') ∧ ∀ v H', (Itz K a b).yld i H v H' → g v σ H' fun σ2 H2 => tb { D with nx := N, ct := N, bk := D.nx } σ2 H2) := by
  refine ⟨fun i m σ H => i + m = n ∧ Pv i σ H, ⟨n, by omega, h0⟩, fun i m σ H ⟨e, p⟩ => ?_⟩
  have q := hq i σ H p
  cases m with
  | zero =>
    have : i = n := by omega
    subst this
    refine .inl ⟨⟨xs, ys, q.1, q.2, ?_⟩, hd σ H p⟩
    rcases h3 with z | z
    · exact .inl (by omega)
    · exact .inr (by omega)
  | succ m =>
    have l1 : i < xs.length := by omega
    have l2 : i < ys.length := by omega
    refine .inr ⟨⟨xs, ys, _, _, q.1, q.2, List.getElem?_eq_getElem l1, List.getElem?_eq_getElem l2⟩, Pv (i + 1), fun σ' H' p' => ⟨m, by omega, by omega, p'⟩, fun v H' y => ?_⟩
    obtain ⟨T, x', y', rfl, hT, rfl, f1, f2⟩ := y
    exact hs i x' y' T σ H (by omega) (f1 xs q.1) (f2 ys q.2) p hT
/-! ### a rule's pieces, by the law -/
section
theorem cutV_one (es : List Int) (h : 0 < es.length) : cutV (es.map V.int) (some 1) none = (es.drop 1).map V.int := by
  rw [show (some 1 : Option Int) = some ((1 : Nat) : Int) from rfl, cut_from (by rw [List.length_map]; omega), List.map_drop]
def pD6 (p : Pr2) : PyData := .tuple [.int p.1, .int p.2]
def PairV (H : Hp) (v : V) (p : Pr2) : Prop := ∃ t, v = .ref t ∧ H t = some (.tup [.int p.1, .int p.2])
theorem PairV.mono {H H' : Hp} {v : V} {p : Pr2} (f : Solid H H') (h : PairV H v p) : PairV H' v p := by
  obtain ⟨t, e, ht⟩ := h
  exact ⟨t, e, f _ _ ⟨fun ys z => (by cases z), fun ys z => (by cases z)⟩ ht⟩
def PairsAt (H : Hp) (vs : List V) (ps : List Pr2) : Prop := Paired (PairV H) vs ps
theorem PairsAt.mono {H H' : Hp} {vs : List V} {ps : List Pr2} (f : Solid H H') (h : PairsAt H vs ps) : PairsAt H' vs ps := paired_mono (fun _ _ z => z.mono f) h
theorem pairs_dp {K : PySem.W.Frag} {H : Hp} : ∀ {vs : List V} {ps : List Pr2}, PairsAt H vs ps → DpAll K H vs (ps.map pD6)
  | _, _, .nil => .nil
  | _, _, .cons ⟨t, e, ht⟩ r => by
    subst e
    exact .cons (.tup (SqT.of ht) (.cons (.int _) (.cons (.int _) .nil))) (pairs_dp r)
theorem pairs_ne {K : PySem.W.Frag} {H : Hp} {f p : Addr} {ys : List V} {ps : List Pr2} {Q : VK} (hp : H p = none) (ef : H f = some (.lst ys)) (h : PairsAt H ys ps) (hb : ∀ q ∈ ps, q.1.natAbs < 10000000000 ∧ q.2.natAbs < 10000000000) (q : Q (.bl (!ps.isEmpty)) (upd H p (.lst []))) : rNeD K (.ref f) (.ref p) (upd H p (.lst [])) Q := by
  have ok : OkD (.list (ps.map pD6)) 2 (ps.length * (1000 + 2) + 2) := okd_map (k := 1) (m := 1000) (n := ps.length) (fun x hx => (okd_tup (k := 0) (m := 11) (n := 2) (ds := [.int x.1, .int x.2]) (fun d hd => by
    rcases List.mem_cons.mp hd with rfl | hd
    · exact okd_int (hb x hx).1
    · rw [List.mem_singleton.mp hd]; exact okd_int (hb x hx).2) (Nat.le_refl 2)).mono (Nat.le_refl _) (by decide)) (Nat.le_refl _)
  refine ⟨.list (ps.map pD6), .list [], .lst (SqL.of (upd_at hp ef)) (dps_same (same_upd hp) _ _ (pairs_dp h)), .lst (SqL.of upd_same) .nil, ok.shaped, (okd_lst (k := 0) (m := 0) (n := 0) (ds := []) (fun d hd => by cases hd) (Nat.le_refl 0)).shaped, ?_⟩
  have : PyData.eqv (.list (ps.map pD6)) (.list []) = ps.isEmpty := by cases ps <;> rfl
  rw [this]; exact q
def spPieces : Sp := fun vs H Q _ => ∃ (v : V) (a b : Int) (r : RT), vs = [v, .int a, .int b] ∧ LAt H 6 v r ∧ r.fine = true ∧ a ≤ b ∧ 0 ≤ a ∧ b ≤ 2000000000 ∧ (b.fdiv 1440 + 1 - a.fdiv 1440).toNat * (1 + 2 * r.nodes) ≤ 3000 ∧ r.nodes ≤ 1000 ∧
  ∀ l ys H', Same H H' → H l = none → H' l = some (.lst ys) → PairsAt H' ys (allowedP r a b) → Q (.ref l) H'
/-- edges so far: all of the days below a bound -/
structure EdgeI (r : RT) (a b : Int) (d : Int) (es : List Int) : Prop where
  lo : a ∈ es
  hi : b ∈ es
  within : ∀ e ∈ es, a ≤ e ∧ e ≤ b
  all : ∀ x, a < x → x < b → x / 1440 < d → (x % 1440 = 0 ∨ x % 1440 ∈ clk r) → x ∈ es
variable {P : Program} {w : World} {K : PySem.W.Frag} {mg : Str → Option Value} {base : Heap} (T : Ev K mg base)
theorem ok_law_pieces : FnOk P w K mg base CX0 10 T.f_law_pieces T.fd_law_pieces ["_law_told_rule", "_law_first", "_law_behind"] spPieces := by
  have clocks6 : Ev K mg base → FnOk P w K mg base CX0 9 T.f_law_clocks T.fd_law_clocks ["_law_told_rule"] (spClocks 6) := fun _ => ok_law_clocks T 6
  have allows6 : Ev K mg base → FnOk P w K mg base CX0 9 T.f_law_allows T.fd_law_allows ["_law_told_rule", "_law_minute"] (spLAlw 6) := fun _ => ok_law_allows T 6
  refine T.F_law_pieces.ok scPieces (fun vs H Q E h => ?_) (fun cdv A outer s H vs Q E hr h => ?_)
  · obtain ⟨v, a, b, r, rfl, _⟩ := h
    rfl
  · obtain ⟨v, a, b, r, rfl, hv, hf, hab, ha0, hb9, hsz, hn, q⟩ := h
    refine ⟨_,
      (pss_cut (ps_set (i := 3) scPieces.nd rfl (.inl rfl) (pe_lst (pa_cons (pv 1) (pa_cons (pv 2) pa_nil))))
      (pss_cut (ps_for PassesOwn.never rfl (pi_range2 (by rfl) T.mrange (pa_cons (pe_op op_fdivN (pv 1) pe_int) (pa_cons (pe_op op_add (pe_op op_fdivN (pv 2) pe_int) pe_int) pa_nil))) (pg_name (i := 4) scPieces.nd rfl (.inl rfl))
      (pss_one (ps_for PassesOwn.never rfl (pi_list (pe_op op_cat (pe_lst (pa_cons pe_int pa_nil)) (pe_call (clocks6 T) (hr.mono (by decide)) (by rfl) T.g_law_clocks T.F_law_clocks.kp T.b_law_clocks .nil pass0 (pa_cons (pv 0) pa_nil)))) (pg_name (i := 5) scPieces.nd rfl (.inl rfl))
      (pss_one (ps_if (pt_chain op_lt op_lt (pv 1) (pe_op op_add (pe_op op_mul pe_int (pv 4)) (pv 5)) (pv 2))
      (pss_one (ps_expr (pe_bm PySem.F.plainAttrs_list PySem.F.slot_list_append PySem.F.type_list_append mt_append (pv 3) (pa_cons (pe_op op_add (pe_op op_mul pe_int (pv 4)) (pv 5)) pa_nil))))
      pss_nil)))))
      (pss_cut (ps_set (i := 3) scPieces.nd rfl (.inl rfl) (pe_callB (cr_sortedSetN rfl) (by rfl) T.msorted (by decide +kernel) (pa_cons (pe_callTy (cr_setI rfl) (by rfl) T.mset (by decide +kernel) (pa_cons (pv 3) pa_nil)) pa_nil)))
      (pss_cons (ps_set (i := 6) scPieces.nd rfl (.inl rfl) (pe_lst pa_nil))
      (pss_cons (ps_for PassesOwn.never rfl (RZ.pi_zipA (by rfl) T.mzip (pa_cons (pv 3) (pa_cons (pe_slice sl_list (pv 3) (po_some pe_int) po_none) pa_nil))) (pg_tup rfl (pgs_cons (pg_name (i := 7) scPieces.nd rfl (.inl rfl)) (pgs_cons (pg_name (i := 8) scPieces.nd rfl (.inl rfl)) pgs_nil)))
      (pss_one (ps_if (pt_val (pe_call (allows6 T) (hr.mono (by decide)) (by rfl) T.g_law_allows T.F_law_allows.kp T.b_law_allows .nil pass0 (pa_cons (pv 0) (pa_cons (pv 7) pa_nil))))
      (pss_one (ps_if (PW.pt (pw_and (pt_cmpR (op_neD hr.units) (pv 6) (pe_lst pa_nil) (nomark _)) (pw_and1 (pt_cmpR op_eq (pe_ix ix_tup (pe_ix ix_list (pv 6) (pe_un un_neg pe_int) (fun _ _ => rfl)) pe_int (fun _ _ => rfl)) (pv 7) (nomark _)))))
      (pss_one (ps_asg (pe_tup (pa_cons (pe_ix ix_tup (pe_ix ix_list (pv 6) (pe_un un_neg pe_int) (fun _ _ => rfl)) pe_int (fun _ _ => rfl)) (pa_cons (pv 8) pa_nil))) (pg_sub (pv 6) (pe_un un_neg pe_int) set_list)))
      (pss_one (ps_expr (pe_bm PySem.F.plainAttrs_list PySem.F.slot_list_append PySem.F.type_list_append mt_append (pv 6) (pa_cons (pe_tup (pa_cons (pv 7) (pa_cons (pv 8) pa_nil))) pa_nil))))))
      pss_nil)))
      (pss_one (ps_ret (pv 6))))))))
      , ?_⟩
    have ea : a.fdiv 1440 = a / 1440 := Int.fdiv_eq_ediv_of_nonneg _ (by decide)
    have eb : b.fdiv 1440 = b / 1440 := Int.fdiv_eq_ediv_of_nonneg _ (by decide)
    rw [ea, eb] at hsz
    have hcl := clk_len r
    refine ⟨fun σ H1 => ∃ (l : Addr) (w4 w5 w6 w7 w8 : Option V), σ = [some (v), some (.int a), some (.int b), some (.ref l), w4, w5, w6, w7, w8] ∧ H1 l = some (.lst ([a, b].map .int)) ∧ H l = none ∧ Same H H1, ?_, ?_⟩
    · walk_at "s"
      intro l hl
      walk_at "s"
      exact ⟨l, _, _, _, _, _, rfl, upd_same, hl, same_upd hl⟩
    rintro σ H1 ⟨l, w4, w5, w6, w7, w8, rfl, el, hl0, s1⟩
    refine ⟨fun σ H2 => ∃ (es : List Int) (w4 w5 w6 w7 w8 : Option V), σ = [some (v), some (.int a), some (.int b), some (.ref l), w4, w5, w6, w7, w8] ∧ H2 l = some (.lst (es.map .int)) ∧ Same H H2 ∧ EdgeI r a b (b / 1440 + 1) es ∧ es.length ≤ 3002, ?_, ?_⟩
    · walk_at "s"
      refine for_range (lo := a.fdiv 1440) (n := (b.fdiv 1440 + 1 - a.fdiv 1440).toNat) (fun i σ H' => ∃ (es : List Int) (w4 w5 w6 w7 w8 : Option V), σ = [some (v), some (.int a), some (.int b), some (.ref l), w4, w5, w6, w7, w8] ∧ H' l = some (.lst (es.map .int)) ∧ Same H H' ∧ EdgeI r a b (a / 1440 + i) es ∧ es.length ≤ 2 + i * (1 + 2 * r.nodes))
        ⟨[a, b], _, _, _, _, _, rfl, el, s1, ⟨by simp, by simp, fun e he => by simp only [List.mem_cons, List.not_mem_nil, or_false] at he; rcases he with rfl | rfl <;> omega, fun x h1 h2 h3 _ => by omega⟩, by simp⟩ ?_ ?_
      · rintro i σ H2 hi ⟨es, w4, w5, w6, w7, w8, rfl, e2, s2, hE, hL⟩
        have hmul : (i + 1) * (1 + 2 * r.nodes) ≤ (b / 1440 + 1 - a / 1440).toNat * (1 + 2 * r.nodes) := Nat.mul_le_mul_right _ (by rw [ea, eb] at hi; exact hi)
        have hsuc : (i + 1) * (1 + 2 * r.nodes) = i * (1 + 2 * r.nodes) + (1 + 2 * r.nodes) := Nat.succ_mul _ _
        walk_at "s"
        intro l0 hl0'
        walk_at "s"
        refine ⟨v, r, rfl, by omega, (hv.same s2).same (same_upd hl0'), fun l1 H3 hl1 el1 s3 => ?_⟩
        have e03 := s3 _ _ (show (upd H2 l0 (.lst [.int 0])) l0 = some (.lst [.int 0]) from upd_same)
        have e23 := s3 _ _ (upd_at hl0' e2)
        have s03 := (s2.trans (same_upd (o := .lst [.int 0]) hl0')).trans s3
        refine ⟨l0, l1, _, _, rfl, rfl, e03, el1, ?_, fun l2 hl2 => ?_⟩
        · rw [List.length_map]; exact le_line (by show 1 + _ ≤ _; omega)
        have ec : (upd H3 l2 (.lst ([.int 0] ++ (clk r).map .int))) l2 = some (.lst ((0 :: clk r).map .int)) := upd_same
        have e24 := upd_at (o := .lst ([.int 0] ++ (clk r).map .int)) hl2 e23
        have n2 : l2 ≠ l := fun z => by rw [z, e23] at hl2; cases hl2
        have s04 := s03.trans (same_upd (o := .lst ([.int 0] ++ (clk r).map .int)) hl2)
        generalize upd H3 l2 (.lst ([.int 0] ++ (clk r).map .int)) = H4 at ec e24 s04 ⊢
        walk_at "s"
        refine ⟨⟨_, SqL.of ec⟩, ?_⟩
        refine for_list (K := K) (a := l2) (xs := (0 :: clk r).map .int) (fun j σ H' => ∃ (es : List Int) (w5 w6 w7 w8 : Option V), σ = [some (v), some (.int a), some (.int b), some (.ref l), some (.int (a.fdiv 1440 + (i : Int))), w5, w6, w7, w8] ∧ H' l = some (.lst (es.map .int)) ∧ H' l2 = some (.lst ((0 :: clk r).map .int)) ∧ Same H H' ∧ EdgeI r a b (a / 1440 + i) es ∧ (∀ x, a < x → x < b → x / 1440 = a / 1440 + i → x % 1440 ∈ (0 :: clk r).take j → x ∈ es) ∧ es.length ≤ 2 + i * (1 + 2 * r.nodes) + j)
          ⟨es, _, _, _, _, rfl, e24, ec, s04, hE, fun x _ _ _ z => (by simp at z), by omega⟩ (fun j σ H' _ ⟨_, _, _, _, _, _, _, z, _⟩ => SqL.of z) ?_ ?_
        · rintro j x σ H5 hx ⟨es5, w5, w6, w7, w8, rfl, e5, ec5, s5, hE5, hJ, hL5⟩
          obtain ⟨cl, hcl2, rfl⟩ : ∃ c, (0 :: clk r)[j]? = some c ∧ x = .int c := by
            rw [List.getElem?_map] at hx
            cases e : (0 :: clk r)[j]? with
            | none => rw [e] at hx; cases hx
            | some d0 => rw [e] at hx; cases hx; exact ⟨d0, rfl, rfl⟩
          have hj : j < 1 + (clk r).length := by have := (List.getElem?_eq_some_iff.mp hcl2).1; rw [List.length_cons] at this; omega
          have tk : ∀ x : Int, x % 1440 ∈ (0 :: clk r).take (j + 1) → x % 1440 ∈ (0 :: clk r).take j ∨ x % 1440 = cl := fun x hx => by
            rw [List.take_succ, hcl2, Option.toList_some] at hx
            rcases List.mem_append.mp hx with z | z
            · exact .inl z
            · exact .inr (List.mem_singleton.mp z)
          walk_at "s"
          refine ite2 (fun c1 => ?_) (fun c1 => ?_)
          · have c1' := of_decide_eq_true c1
            walk_at "s"
            refine ite2 (fun c2 => ?_) (fun c2 => ?_)
            · have c2' := of_decide_eq_true c2
              walk_at "s"
              refine And.intro (.inl ⟨rfl, _, SqL.of e5⟩) ?_
              walk_at "s"
              refine ⟨l, _, _, rfl, rfl, e5, lt_line (by rw [List.length_map]; omega), ?_⟩
              walk_at "s"
              refine ⟨es5 ++ [1440 * (a.fdiv 1440 + (i : Int)) + cl], _, _, _, _, rfl, by rw [upd_same, List.map_append]; rfl, by rw [upd_ne n2]; exact ec5, app_same hl0 s5, ⟨List.mem_append_left _ hE5.lo, List.mem_append_left _ hE5.hi, fun e he => ?_, fun x h1 h2 h3 h4 => List.mem_append_left _ (hE5.all x h1 h2 h3 h4)⟩, fun x h1 h2 h3 h4 => ?_, by rw [List.length_append]; show _ + 1 ≤ _; omega⟩
              · rcases List.mem_append.mp he with z | z
                · exact hE5.within e z
                · rw [List.mem_singleton.mp z]; omega
              · rcases tk x h4 with z | z
                · exact List.mem_append_left _ (hJ x h1 h2 h3 z)
                · refine List.mem_append_right _ ?_
                  rw [List.mem_singleton]; omega
            · have c2' : ¬ 1440 * (a.fdiv 1440 + (i : Int)) + cl < b := fun y => c2 (decide_eq_true y)
              walk_at "s"
              refine ⟨es5, _, _, _, _, rfl, e5, ec5, s5, hE5, fun x h1 h2 h3 h4 => ?_, by omega⟩
              rcases tk x h4 with z | z
              · exact hJ x h1 h2 h3 z
              · exfalso; omega
          · have c1' : ¬ a < 1440 * (a.fdiv 1440 + (i : Int)) + cl := fun y => c1 (decide_eq_true y)
            walk_at "s"
            refine ⟨es5, _, _, _, _, rfl, e5, ec5, s5, hE5, fun x h1 h2 h3 h4 => ?_, by omega⟩
            rcases tk x h4 with z | z
            · exact hJ x h1 h2 h3 z
            · exfalso; omega
        · rintro σ H5 ⟨es5, w5, w6, w7, w8, rfl, e5, ec5, s5, hE5, hJ, hL5⟩
          rw [List.length_map, List.take_length] at hJ
          rw [List.length_map, List.length_cons] at hL5
          refine ⟨es5, _, _, _, _, _, rfl, e5, s5, ⟨hE5.lo, hE5.hi, hE5.within, fun x h1 h2 h3 h4 => ?_⟩, by omega⟩
          by_cases z : x / 1440 < a / 1440 + i
          · exact hE5.all x h1 h2 z h4
          · refine hJ x h1 h2 (by omega) ?_
            rcases h4 with h4 | h4
            · rw [h4]; exact List.mem_cons_self
            · exact List.mem_cons_of_mem _ h4
      · rintro σ H2 ⟨es, w4, w5, w6, w7, w8, rfl, e2, s2, hE, hL⟩
        rw [ea, eb] at hE hL
        exact ⟨es, _, _, _, _, _, rfl, e2, s2, ⟨hE.lo, hE.hi, hE.within, fun x h1 h2 h3 h4 => hE.all x h1 h2 (by omega) h4⟩, by omega⟩
    clear w4 w5 w6 w7 w8
    rintro σ H2 ⟨es, w4, w5, w6, w7, w8, rfl, e2, s2, hE, hL⟩
    have hep : ∀ es', (∀ k : Int, k ∈ es' ↔ decide (k ∈ es) = true) → es'.Pairwise (· < ·) → Edges r a b es' := fun es' hm hp => by
      have hm2 : ∀ k : Int, k ∈ es' ↔ k ∈ es := fun k => by rw [hm k]; exact decide_eq_true_iff
      exact ⟨hp, (hm2 a).mpr hE.lo, (hm2 b).mpr hE.hi, fun e he => hE.within e ((hm2 e).mp he), fun x h1 h2 h3 => (hm2 x).mpr (hE.all x h1 h2 (by omega) h3)⟩
    refine ⟨fun σ H3 => ∃ (l2 : Addr) (es' : List Int) (w4 w5 w6 w7 w8 : Option V), σ = [some (v), some (.int a), some (.int b), some (.ref l2), w4, w5, w6, w7, w8] ∧ H3 l2 = some (.lst (es'.map .int)) ∧ Same H H3 ∧ Edges r a b es' ∧ es'.length ≤ 3002, ?_, ?_⟩
    · walk_at "s"
      refine ⟨l, es, rfl, SqL.of e2, by omega, fun p c hp hc => ?_⟩
      walk_at "s"
      refine ⟨p, _, c, rfl, upd_same, by omega, fun es' p2 h1 h2 h3 hp2 => ?_⟩
      walk_at "s"
      exact ⟨p2, es', _, _, _, _, _, rfl, upd_same, (s2.trans (same_upd hp)).trans (same_upd hp2), hep es' h2 h1, by omega⟩
    clear w4 w5 w6 w7 w8
    rintro σ H3 ⟨l2, es', w4, w5, w6, w7, w8, rfl, e3, s3, hE3, hL3⟩
    walk_at "s"
    intro fl hfl
    have efl : (upd H3 fl (.lst [])) fl = some (.lst []) := upd_same
    have e4 := upd_at (o := .lst []) hfl e3
    have hfl0 : H fl = none := s3.free hfl
    have nfl : l2 ≠ fl := fun z => by rw [z, hfl] at e3; cases e3
    have s4 := s3.trans (same_upd (o := .lst []) hfl)
    generalize upd H3 fl (.lst []) = H4 at efl e4 s4 ⊢
    walk_at "s"
    refine ⟨l2, _, rfl, SqL.of e4, fun sl hsl => ?_⟩
    rw [show cutV (es'.map V.int) (some 1) none = (es'.drop 1).map V.int from cutV_one es' (List.length_pos_of_mem hE3.lo)]
    have esl : (upd H4 sl (.lst ((es'.drop 1).map V.int))) sl = some (.lst ((es'.drop 1).map V.int)) := upd_same
    have efl5 := upd_at (o := .lst ((es'.drop 1).map V.int)) hsl efl
    have e5 := upd_at (o := .lst ((es'.drop 1).map V.int)) hsl e4
    have nsl : sl ≠ fl := fun z => by rw [z, efl] at hsl; cases hsl
    have s5 := s4.trans (same_upd (o := .lst ((es'.drop 1).map V.int)) hsl)
    generalize upd H4 sl (.lst ((es'.drop 1).map V.int)) = H5 at esl efl5 e5 s5 ⊢
    have hpos : 0 < es'.length := List.length_pos_of_mem hE3.lo
    have hpl : (pairsOf es').length = es'.length - 1 := by unfold pairsOf; rw [List.length_zip, List.length_drop]; omega
    walk_at "s"
    refine ⟨l2, sl, es'.map V.int, (es'.drop 1).map V.int, rfl, .inl ⟨SqL.of e5, SqL.of esl, ?_⟩⟩
    refine for_zipU (K := K) (a := l2) (b := sl) (xs := es'.map V.int) (ys := (es'.drop 1).map V.int) (n := es'.length - 1) (by rw [List.length_map]; omega) (by rw [List.length_map, List.length_drop]; omega) (.inr (by rw [List.length_map, List.length_drop]))
      (fun i σ H' => ∃ (ys : List V) (w4 w5 w7 w8 : Option V), σ = [some (v), some (.int a), some (.int b), some (.ref l2), w4, w5, some (.ref fl), w7, w8] ∧ H' fl = some (.lst ys) ∧ PairsAt H' ys (pieces r es' i).reverse ∧ H' l2 = some (.lst (es'.map .int)) ∧ H' sl = some (.lst ((es'.drop 1).map .int)) ∧ Same H H' ∧ (pieces r es' i).length ≤ i)
      ⟨[], _, _, _, _, rfl, efl5, .nil, e5, esl, s5, Nat.le_refl _⟩ (fun i σ H' ⟨_, _, _, _, _, _, _, _, z1, z2, _⟩ => ⟨SqL.of z1, SqL.of z2⟩) ?_ ?_
    · rintro i x y tt σ H6 hi hx hy ⟨ys, w4, w5, w7, w8, rfl, ef6, hys, e6, es6, s6, hpl6⟩ htt
      obtain ⟨h, hh, rfl⟩ : ∃ h, es'[i]? = some h ∧ x = .int h := by
        rw [List.getElem?_map] at hx
        cases e : es'[i]? with
        | none => rw [e] at hx; cases hx
        | some d0 => rw [e] at hx; cases hx; exact ⟨d0, rfl, rfl⟩
      obtain ⟨t, ht, rfl⟩ : ∃ t, es'[i + 1]? = some t ∧ y = .int t := by
        rw [List.getElem?_map, List.getElem?_drop, Nat.add_comm] at hy
        cases e : es'[i + 1]? with
        | none => rw [e] at hy; cases hy
        | some d0 => rw [e] at hy; cases hy; exact ⟨d0, rfl, rfl⟩
      have hpr : (pairsOf es')[i]? = some (h, t) := by
        unfold pairsOf
        rw [List.getElem?_zip_eq_some, List.getElem?_drop]
        exact ⟨hh, by rw [Nat.add_comm]; exact ht⟩
      have hst := pieces_succ (r := r) hpr
      have hlast := (pieces_ok hE3 i h hh).2
      have s6' := same_upd (o := .tup [.int h, .int t]) htt
      refine ⟨tt, _, rfl, .inl (.inl upd_same), rfl, ?_⟩
      have ef7 := s6' _ _ ef6
      have hys7 := hys.mono (solid_same s6')
      have e7 := s6' _ _ e6
      have es7 := s6' _ _ es6
      have s7 := s6.trans s6'
      generalize upd H6 tt (.tup [.int h, .int t]) = H7 at ef7 hys7 e7 es7 s7 ⊢
      walk_at "s"
      refine ⟨v, r, h, rfl, hv.same s7, fun H8 s8 => ?_⟩
      have ef8 := s8 _ _ ef7
      have hys8 := hys7.mono (solid_same s8)
      have e8 := s8 _ _ e7
      have es8 := s8 _ _ es7
      have s8' := s7.trans s8
      walk_at "s"
      by_cases ha : alw r h = true
      · rw [if_pos ha]
        have hst2 : pieces r es' (i + 1) = mrg 0 (pieces r es' i) (h, t) := by rw [hst]; unfold pstep; rw [if_pos ha]
        walk_at "s"
        intro p0 hp0
        have hpb : ∀ q ∈ (pieces r es' i).reverse, q.1.natAbs < 10000000000 ∧ q.2.natAbs < 10000000000 := fun q hq => by
          have z := (CovR.list (Int.le_refl 0) (pieces_ok hE3 i h hh).1).1 q (List.mem_reverse.mp hq)
          have hw := hE3.within h (List.mem_of_getElem? hh)
          omega
        refine pairs_ne hp0 ef8 hys8 hpb ?_
        have s8p := same_upd (o := .lst []) hp0
        have ef9 := s8p _ _ ef8
        have hys9 := hys8.mono (solid_same s8p)
        have e9 := s8p _ _ e8
        have es9 := s8p _ _ es8
        have s9 := s8'.trans s8p
        have hyl := Paired.length hys9
        rw [List.length_reverse] at hyl
        clear hpb hst hys7 hys8 hys ef6 ef7 ef8 e6 e7 e8 es6 es7 es8
        generalize upd H8 p0 (.lst []) = H9 at ef9 hys9 e9 es9 s9 ⊢
        have hlt : h < t := by
          obtain ⟨l1, e1⟩ := List.getElem?_eq_some_iff.mp hh
          obtain ⟨l2', e2'⟩ := List.getElem?_eq_some_iff.mp ht
          have := List.pairwise_iff_getElem.mp hE3.up i (i + 1) l1 l2' (by omega)
          rw [e1, e2'] at this; exact this
        have new_pair : ∀ {pt : Addr} {zs : List V}, H9 pt = none → PairV (upd (upd H9 pt (.tup [.int h, .int t])) fl (.lst zs)) (.ref pt) (h, t) := fun {pt zs} hpt => by
          refine ⟨pt, rfl, ?_⟩
          rw [upd_ne (fun z => by rw [z, ef9] at hpt; cases hpt)]
          exact upd_same
        have old_pairs : ∀ {pt : Addr} {o : HO} {zs ws : List V} {ps : List Pr2}, H9 pt = none → PairsAt H9 ws ps → PairsAt (upd (upd H9 pt o) fl (.lst zs)) ws ps := fun hpt z => (z.mono (solid_same (same_upd hpt))).mono (solid_upd (upd_at hpt ef9))
        generalize pieces r es' i = acc at hys9 hst2 hpl6 hlast hyl ⊢
        cases acc with
        | nil =>
          have e0 : mrg 0 [] (h, t) = [(h, t)] := rfl
          rw [e0] at hst2
          obtain rfl : ys = [] := List.eq_nil_of_length_eq_zero hyl
          refine ⟨false, rfl, iteF ?_⟩
          walk_at "s"
          refine And.intro (.inl ⟨rfl, _, SqL.of ef9⟩) ?_
          walk_at "s"
          intro pt hpt
          walk_at "s"
          refine ⟨fl, _, _, rfl, rfl, upd_at hpt ef9, lt_line (by exact Nat.zero_lt_succ _), ?_⟩
          walk_at "s"
          refine ⟨_, _, _, _, _, rfl, upd_same, ?_, by rw [upd_ne nfl]; exact upd_at hpt e9, by rw [upd_ne nsl]; exact upd_at hpt es9, app_same hfl0 (s9.trans (same_upd hpt)), ?_⟩
          · rw [hst2]
            exact .cons (new_pair hpt) .nil
          · rw [hst2]
            show 1 ≤ _; omega
        | cons q0 rest =>
          have hq0 := hlast q0 (by simp)
          rw [List.reverse_cons] at hys9
          obtain ⟨ys0, y0, rfl, hp0s, hy0⟩ := paired_snoc_inv hys9
          obtain ⟨t0, rfl, et0⟩ := hy0
          refine ⟨true, by rw [show (q0 :: rest).reverse.isEmpty = false by simp]; rfl, iteT ?_⟩
          walk_at "s"
          refine i_ixLast (SqL.of ef9) ?_
          walk_at "s"
          refine i_ixT1 (SqT.of et0) ?_
          walk_at "s"
          have hys9' : PairsAt H9 (ys0 ++ [.ref t0]) (rest.reverse ++ [q0]) := hys9
          refine ite2 (fun c => ?_) (fun c => ?_)
          · have c1 : q0.2 = h := V.int.inj (of_decide_eq_true c)
            have e0 : mrg 0 (q0 :: rest) (h, t) = (q0.1, t) :: rest := by
              show (if h - q0.2 ≤ 0 then (q0.1, max q0.2 t) :: rest else _) = _
              rw [if_pos (by omega), show max q0.2 t = t by omega]
            rw [e0] at hst2
            walk_at "s"
            refine i_ixLast (SqL.of ef9) ?_
            walk_at "s"
            refine i_ixT0 (SqT.of et0) ?_
            walk_at "s"
            intro pt hpt
            walk_at "s"
            refine ⟨fl, _, -1, ys0.length, rfl, rfl, upd_at hpt ef9, by rw [List.length_append, List.length_singleton]; exact ixN_last, ?_⟩
            rw [show (ys0 ++ [V.ref t0]).set ys0.length (.ref pt) = ys0 ++ [.ref pt] by simp]
            refine ⟨_, _, _, _, _, rfl, upd_same, ?_, by rw [upd_ne nfl]; exact upd_at hpt e9, by rw [upd_ne nsl]; exact upd_at hpt es9, app_same hfl0 (s9.trans (same_upd hpt)), ?_⟩
            · rw [hst2, List.reverse_cons]
              refine paired_app (old_pairs hpt hp0s) (.cons ⟨pt, rfl, ?_⟩ .nil)
              rw [upd_ne (fun z => by rw [z, ef9] at hpt; cases hpt)]
              exact upd_same
            · rw [hst2, List.length_cons]; rw [List.length_cons] at hpl6; omega
          · have c1 : q0.2 ≠ h := fun z => c (decide_eq_true (congrArg V.int z))
            have e0 : mrg 0 (q0 :: rest) (h, t) = (h, t) :: q0 :: rest := by
              show (if h - q0.2 ≤ 0 then (q0.1, max q0.2 t) :: rest else _) = _
              rw [if_neg (by omega)]
            rw [e0] at hst2
            walk_at "s"
            refine And.intro (.inl ⟨rfl, _, SqL.of ef9⟩) ?_
            walk_at "s"
            intro pt hpt
            walk_at "s"
            refine ⟨fl, _, _, rfl, rfl, upd_at hpt ef9, lt_line (by omega), ?_⟩
            walk_at "s"
            refine ⟨_, _, _, _, _, rfl, upd_same, ?_, by rw [upd_ne nfl]; exact upd_at hpt e9, by rw [upd_ne nsl]; exact upd_at hpt es9, app_same hfl0 (s9.trans (same_upd hpt)), ?_⟩
            · rw [hst2, List.reverse_cons, List.reverse_cons]
              exact paired_app (old_pairs hpt hys9') (.cons (new_pair hpt) .nil)
            · rw [hst2, List.length_cons]; omega
      · rw [if_neg ha]
        have hst2 : pieces r es' (i + 1) = pieces r es' i := by rw [hst]; unfold pstep; rw [if_neg ha]
        walk_at "s"
        refine ⟨ys, _, _, _, _, rfl, ef8, ?_, e8, es8, s8', ?_⟩
        · rw [hst2]; exact hys8
        · rw [hst2]; omega
    · rintro σ H6 ⟨ys, w4, w5, w7, w8, rfl, ef6, hys, e6, es6, s6, hpl6⟩
      walk_at "s"
      refine q fl ys H6 s6 hfl0 ef6 ?_
      have z := pieces_all hE3 hf
      rw [hpl] at z
      rw [z, List.reverse_reverse] at hys
      exact hys
end
set_option maxHeartbeats 8000000
local macro_rules | `(tactic| walk_at "c") => `(tactic| first | omega | decide | exact ⟨by omega, by omega⟩ | exact ⟨by decide, by decide⟩ | exact .inl ⟨by omega, by omega⟩ | exact .inr ⟨by omega, by omega⟩ | exact ⟨by omega, by omega, by omega⟩ | exact ⟨by decide, by decide, by decide⟩ | exact le_line (Nat.le_of_ble_eq_true rfl))
local macro_rules | `(tactic| walk_at "a") => `(tactic| with_reducible (first | refine i_seq ?_ | refine i_asg ?_ | refine i_cons ?_ | refine i_c ?_ | refine i_nil ?_ | refine i_op ?_ | refine i_call ?_ | refine i_cb ?_ | refine i_name ?_ | refine i_next ?_ | refine i_ret ?_ | refine i_drop ?_ | refine i_if ?_ | refine i_test ?_ | refine i_and ?_ | refine i_or ?_ | refine i_not ?_ | refine i_ite ?_ | refine i_lst ?_ | refine i_tup ?_ | refine i_bm ?_ | refine i_un ?_ | refine i_par ?_ | refine i_gsub ?_ | refine i_chain ?_ | refine i_sl ?_ | refine i_nopart ?_ | refine i_part ?_ | refine i_m1 ?_ | refine i_m0 ?_ | refine i_lc ?_ | refine i_iList ?_ | refine i_iTup ?_ | refine i_iStr ?_ | refine i_r1 ?_ | refine i_set ?_ | refine i_callk ?_ | refine i_callN ?_ | refine i_ckw ?_ | refine i_revL ?_ | refine i_tB ?_ | refine i_fld ?_ | refine i_sfld ?_ | refine i_make ?_ | refine i_makeN ?_ | refine i_meth ?_ | refine i_andV ?_ | refine i_orV ?_ | refine i_notV ?_ | refine iteT ?_ | refine iteF ?_ | refine i_yes ?_))
local macro_rules | `(tactic| walk_at "s") => `(tactic| repeat (first | walk_at "a" | refine i_var rfl ?_ | refine i_aug rfl ?_ | refine And.intro ⟨_, rfl⟩ ?_ | refine ⟨_, rfl, ?_⟩ | refine ⟨_, _, rfl, rfl, ?_⟩ | refine ⟨_, _, rfl, ?_⟩ | refine ⟨rfl, ?_⟩ | refine And.intro (by walk_at "c") ?_))
section
open LamX (Tabs)
variable {P : Program} {w : World} {K : PySem.W.Frag} {mg : Str → Option Value} {base : Heap} (T : Ev K mg base)
def spIs26 : Sp := fun vs H Q _ => ∃ (p q : Addr) (ys zs : List V) (ps : List Pr2), vs = [.ref p, .ref q] ∧ H p = some (.lst ys) ∧ StrsAt T.CStretch H ys ps ∧ H q = some (.lst zs) ∧ PairsAt H zs ps ∧ ps.length ≤ 30000 ∧ (∀ q ∈ ps, q.1.natAbs < 10000000000 ∧ q.2.natAbs < 10000000000) ∧ ∀ H', Same H H' → Q (.bl true) H'
theorem ok_law_is : FnOk P w K mg base CX0 2 T.f_law_is T.fd_law_is ["_law_told", "_law_due"] (spIs26 T) := by
  refine T.F_law_is.ok scLIs (fun vs H Q E h => ?_) (fun cdv A outer s H vs Q E hr h => ?_)
  · obtain ⟨p, q, ys, zs, ps, rfl, _⟩ := h
    rfl
  · obtain ⟨p, o, ys, zs, ps, rfl, hp, hys, ho, hzs, hl, hb, q⟩ := h
    refine ⟨_,
      (pss_cons (ps_if (PW.pt (pw_or (pt_not (pt_val (pe_callB call_isi (by rfl) T.misinstance (by decide +kernel) (pa_cons (pv 0) (pa_cons (pe_bltn (v := .ty "list") (u := .type "list") (by rfl) T.mlist (by decide +kernel) rfl) pa_nil))))) (pw_or1 (pt_cmpR (op_neD hr.units) (pe_lc (own := [("_law_one", 2)]) (g := gName 2)  rfl scLIs.nd (pi_list (pv 0)) (blkOk_by (N := NLIs) (own := [("_law_one", 2)]) (sc := defScope sLIs) (by decide +kernel)) (fun _ _ _ _ _ => pg_name (i := 2) scLIs.nd rfl (Or.inl rfl)) (fun _ _ _ _ _ => pts_one (pt_not (pt_val (pe_callB (r := rIsi K) call_isi (by rfl) T.misinstance (by decide +kernel) (pa_cons (pv 2) (pa_cons (pe_glob (v := .ref T.CStretch) (by rfl) T.gCStretch rfl) pa_nil)))))) (fun _ _ _ _ _ => (pv 2))) (pe_lst pa_nil) (nomark _)))))
      (pss_one (ps_ret pe_bl))
      pss_nil)
      (pss_one (ps_ret (pe_cmpR (op_eqD hr.units) (pe_lc (own := [("_law_one", 2)]) (g := gName 2) (tt := tYes) rfl scLIs.nd (pi_list (pv 0)) (blkOk_by (N := NLIs) (own := [("_law_one", 2)]) (sc := defScope sLIs) (by decide +kernel)) (fun _ _ _ _ _ => pg_name (i := 2) scLIs.nd rfl (Or.inl rfl)) (fun _ _ _ _ _ => pts_nil) (fun _ _ _ _ _ => (pe_tup (pa_cons (show PE _ _ (tFld K (tVar 2) "first") from pe_fld (pv 2) rfl) (pa_cons (show PE _ _ (tFld K (tVar 2) "behind") from pe_fld (pv 2) rfl) pa_nil))))) (pv 1) (nomark _)))))
      , ?_⟩
    have hyl := hys.len
    walk_at "s"
    refine ⟨_, _, _, _, true, rfl, .ty "list", .base (.lst hp), kit_ty (by decide +kernel), ?_⟩
    walk_at "s"
    refine ⟨⟨_, SqL.of hp⟩, fun D hD => ?_⟩
    refine lc_list (K := K) (a := p) (xs := ys) (fun i H' => H' D = some (.lst []) ∧ Same H H') ⟨upd_same, same_upd hD⟩ (fun i H' _ z => SqL.of (z.2 _ _ hp)) ?_ ?_
    · rintro i x H1 hx ⟨eD, s1⟩
      obtain ⟨y, f, g, rfl, hpi, hy⟩ := (hys.same s1).at hx
      walk_at "s"
      refine ⟨_, _, _, _, true, rfl, .own T.CStretch, isStr T hy, kitC, ?_⟩
      walk_at "s"
      exact s1
    rintro H1 ⟨eD, s1⟩
    walk_at "s"
    intro p0 hp0
    refine pairs_ne (ps := []) hp0 eD .nil (fun q hq => by cases hq) ?_
    have s2 := s1.trans (same_upd (o := .lst []) hp0)
    generalize upd H1 p0 (.lst []) = H2 at s2 ⊢
    walk_at "s"
    refine ⟨⟨_, SqL.of (s2 _ _ hp)⟩, fun D2 hD2 => ?_⟩
    refine lc_list (K := K) (a := p) (xs := ys) (fun i H' => ∃ acc, H' D2 = some (.lst acc) ∧ PairsAt H' acc (ps.take i) ∧ Same H2 H') ⟨[], upd_same, by rw [List.take_zero]; exact .nil, same_upd hD2⟩ (fun i H' _ z => SqL.of (z.choose_spec.2.2 _ _ (s2 _ _ hp))) ?_ ?_
    · rintro i x H3 hx ⟨acc, eK, hacc, s3⟩
      obtain ⟨y, f, g, rfl, hpi, hy⟩ := ((hys.same s2).same s3).at hx
      have hi : i < ys.length := (List.getElem?_eq_some_iff.mp hx).1
      have hal := Paired.length hacc
      rw [List.length_take] at hal
      walk_at "s"
      refine ⟨y, T.CStretch, _, _, _, rfl, hy.choose_spec, cl_Stretch T, T.nStretch_first, strF_first _ _, ?_⟩
      walk_at "s"
      refine ⟨y, T.CStretch, _, _, _, rfl, hy.choose_spec, cl_Stretch T, T.nStretch_behind, strF_behind _ _, ?_⟩
      walk_at "s"
      intro t ht
      have eK2 := upd_at (o := .tup [.int f, .int g]) ht eK
      refine ⟨acc, eK2, lt_line (by omega), acc ++ [.ref t], upd_same, ?_, app_same hD2 (s3.trans (same_upd ht))⟩
      rw [List.take_succ, hpi, Option.toList_some]
      refine paired_app ((PairsAt.mono (solid_same (same_upd ht)) hacc).mono (solid_upd eK2)) (.cons ⟨t, rfl, ?_⟩ .nil)
      rw [upd_ne (fun z => by rw [z, eK] at ht; cases ht)]
      exact upd_same
    · rintro H3 ⟨acc, eK, hacc, s3⟩
      rw [hyl, List.take_length] at hacc
      walk_at "s"
      have s03 := s2.trans s3
      have ok : OkD (.list (ps.map pD6)) 2 (ps.length * (1000 + 2) + 2) := okd_map (k := 1) (m := 1000) (n := ps.length) (fun x hx => (okd_tup (k := 0) (m := 11) (n := 2) (ds := [.int x.1, .int x.2]) (fun d hd => by
        rcases List.mem_cons.mp hd with rfl | hd
        · exact okd_int (hb x hx).1
        · rw [List.mem_singleton.mp hd]; exact okd_int (hb x hx).2) (Nat.le_refl 2)).mono (Nat.le_refl _) (by decide)) (Nat.le_refl _)
      refine ⟨.list (ps.map pD6), .list (ps.map pD6), .lst (SqL.of eK) (pairs_dp hacc), .lst (SqL.of (s03 _ _ ho)) (pairs_dp (hzs.mono (solid_same s03))), ok.shaped, ok.shaped, ?_⟩
      rw [ok.refl]
      exact q H3 s03
end
set_option maxHeartbeats 8000000
local macro_rules | `(tactic| walk_at "c") => `(tactic| first | omega | decide | exact ⟨by omega, by omega⟩ | exact ⟨by decide, by decide⟩ | exact .inl ⟨by omega, by omega⟩ | exact .inr ⟨by omega, by omega⟩ | exact ⟨by omega, by omega, by omega⟩ | exact ⟨by decide, by decide, by decide⟩ | exact le_line (Nat.le_of_ble_eq_true rfl))
local macro_rules | `(tactic| walk_at "a") => `(tactic| with_reducible (first | refine i_seq ?_ | refine i_asg ?_ | refine i_cons ?_ | refine i_c ?_ | refine i_nil ?_ | refine i_op ?_ | refine i_call ?_ | refine i_cb ?_ | refine i_name ?_ | refine i_next ?_ | refine i_ret ?_ | refine i_drop ?_ | refine i_if ?_ | refine i_test ?_ | refine i_and ?_ | refine i_or ?_ | refine i_not ?_ | refine i_ite ?_ | refine i_lst ?_ | refine i_tup ?_ | refine i_bm ?_ | refine i_un ?_ | refine i_par ?_ | refine i_gsub ?_ | refine i_chain ?_ | refine i_sl ?_ | refine i_nopart ?_ | refine i_part ?_ | refine i_m1 ?_ | refine i_m0 ?_ | refine i_lc ?_ | refine i_iList ?_ | refine i_iTup ?_ | refine i_iStr ?_ | refine i_r1 ?_ | refine i_set ?_ | refine i_callk ?_ | refine i_callN ?_ | refine i_ckw ?_ | refine i_revL ?_ | refine i_tB ?_ | refine i_fld ?_ | refine i_sfld ?_ | refine i_make ?_ | refine i_makeN ?_ | refine i_meth ?_ | refine i_andV ?_ | refine i_orV ?_ | refine i_notV ?_ | refine iteT ?_ | refine iteF ?_ | refine i_yes ?_))
local macro_rules | `(tactic| walk_at "s") => `(tactic| repeat (first | walk_at "a" | refine i_var rfl ?_ | refine i_aug rfl ?_ | refine And.intro ⟨_, rfl⟩ ?_ | refine ⟨_, rfl, ?_⟩ | refine ⟨_, _, rfl, rfl, ?_⟩ | refine ⟨_, _, rfl, ?_⟩ | refine ⟨rfl, ?_⟩ | refine And.intro (by walk_at "c") ?_))
section
variable {P : Program} {w : World} {K : PySem.W.Frag} {mg : Str → Option Value} {base : Heap} (T : Ev K mg base)
def spWide : Sp := fun vs H Q _ => ∃ (a c : Addr) (n : Nat), vs = [.ref a] ∧ n ≤ 800000 ∧ Tape H a c n ∧ ∀ v r H', LAt H' 4 v r → RT.fine r = true → r.nodes ≤ 90 → Tape H' a c (n + 200) → Keep a H H' → Q v H'
theorem LAt.up {H : Hp} : ∀ {d : Nat} {v : V} {r : RT}, LAt H d v r → LAt H (d + 1) v r
  | 0, _, _, h => h.elim
  | d + 1, v, r, ⟨p, ys, e, h, g⟩ => by
    refine ⟨p, ys, e, h, ?_⟩
    match r, g with
    | .hours _ _, g => exact g
    | .days _, g => exact g
    | .unl r, ⟨x, g1, g2⟩ => exact ⟨x, g1, LAt.up g2⟩
    | .both rs, ⟨t, xs, g1, g2, g4, g3⟩ => exact ⟨t, xs, g1, g2, g4, paired_mono (fun _ _ z => LAt.up z) g3⟩
    | .eith rs, ⟨t, xs, g1, g2, g4, g3⟩ => exact ⟨t, xs, g1, g2, g4, paired_mono (fun _ _ z => LAt.up z) g3⟩
/-- trees side by side, all fine, of so many nodes -/
def Trees (H : Hp) (d : Nat) (vs : List V) (rs : List RT) (i N : Nat) : Prop := rs.length = i ∧ Paired (LAt H d) vs rs ∧ RT.fines rs = true ∧ RT.nodess rs ≤ N
theorem Trees.mono {H H' : Hp} {d : Nat} {vs : List V} {rs : List RT} {i N : Nat} (h : Trees H d vs rs i N) (f : Solid H H') : Trees H' d vs rs i N := ⟨h.1, paired_mono (fun _ _ z => z.mono f) h.2.1, h.2.2⟩
theorem Trees.snoc {H : Hp} {d : Nat} {vs : List V} {rs : List RT} {i N M : Nat} {v : V} {r : RT} (h : Trees H d vs rs i N) (hv : LAt H d v r) (hf : r.fine = true) (hn : N + r.nodes ≤ M) : Trees H d (vs ++ [v]) (rs ++ [r]) (i + 1) M := by
  obtain ⟨h1, h2, h3, h4⟩ := h
  have e : RT.nodess [r] = r.nodes := by rw [RT.nodess, RT.nodess]; omega
  exact ⟨by rw [List.length_append, h1]; rfl, paired_app h2 (.cons hv .nil), fines_app h3 (by rw [RT.fines, hf]; rfl), by rw [nodess_app, e]; omega⟩
theorem fines_unl : ∀ rs : List RT, RT.fines (rs.map .unl) = RT.fines rs ∧ RT.nodess (rs.map .unl) = RT.nodess rs + rs.length
  | [] => ⟨rfl, by rw [List.map_nil, RT.nodess]; rfl⟩
  | r :: rs => by
    obtain ⟨a, b⟩ := fines_unl rs
    rw [List.map_cons, RT.fines, RT.fines, RT.nodess, RT.nodess, RT.nodes, RT.fine, a, b, List.length_cons]
    exact ⟨rfl, by omega⟩
theorem ok_law_wide : FnOk P w K mg base CX0 2 T.f_law_wide T.fd_law_wide ["_law_tape_here"] spWide := by
  refine T.F_law_wide.ok scWide (fun vs H Q E h => ?_) (fun cdv A outer s H vs Q E hr h => ?_)
  · obtain ⟨a, c, n, rfl, _⟩ := h
    rfl
  · obtain ⟨a, c, n, rfl, hn, hT, q⟩ := h
    refine ⟨_,
      (pss_cons (ps_par3 (i := 1) (j := 2) (l := 3) rfl scWide.nd rfl rfl rfl (by decide) (by decide) (by decide) rfl rfl rfl (pa_cons (pe_op op_add pe_int (pe_call (ok_law_draw T) (hr.mono (by decide)) (by rfl) T.g_law_draw T.F_law_draw.kp T.b_law_draw .nil pass0 (pa_cons (pv 0) (pa_cons pe_int pa_nil)))) (pa_cons (pe_call (ok_law_draw T) (hr.mono (by decide)) (by rfl) T.g_law_draw T.F_law_draw.kp T.b_law_draw .nil pass0 (pa_cons (pv 0) (pa_cons pe_int pa_nil))) (pa_cons (pe_lst pa_nil) pa_nil))) (by rfl))
      (pss_cut (ps_for PassesOwn.never rfl (pi_range1 (by rfl) T.mrange (pa_cons pe_int pa_nil)) (pg_name (i := 4) scWide.nd rfl (.inl rfl))
      (pss_cons (ps_set (i := 5) scWide.nd rfl (.inl rfl) (pe_lst pa_nil))
      (pss_cons (ps_for PassesOwn.never rfl (pi_range1 (by rfl) T.mrange (pa_cons pe_int pa_nil)) (pg_name (i := 6) scWide.nd rfl (.inl rfl))
      (pss_cons (ps_expr (pe_bm PySem.F.plainAttrs_list PySem.F.slot_list_append PySem.F.type_list_append mt_append (pv 5) (pa_cons (pe_tup (pa_cons pe_str (pa_cons (pv 2) (pa_cons (pe_op op_add (pe_op op_add (pv 2) pe_int) (pe_call (ok_law_draw T) (hr.mono (by decide)) (by rfl) T.g_law_draw T.F_law_draw.kp T.b_law_draw .nil pass0 (pa_cons (pv 0) (pa_cons (pv 1) pa_nil)))) pa_nil)))) pa_nil)))
      (pss_one (ps_set (i := 2) scWide.nd rfl (.inl rfl) (pe_op op_add (pe_op op_add (pe_op op_add (pv 2) (pv 1)) pe_int) (pe_call (ok_law_draw T) (hr.mono (by decide)) (by rfl) T.g_law_draw T.F_law_draw.kp T.b_law_draw .nil pass0 (pa_cons (pv 0) (pa_cons pe_int pa_nil))))))))
      (pss_one (ps_expr (pe_bm PySem.F.plainAttrs_list PySem.F.slot_list_append PySem.F.type_list_append mt_append (pv 3) (pa_cons (pe_tup (pa_cons pe_str (pa_cons (pe_callTy call_tuple_of (by rfl) T.mtuple (by decide +kernel) (pa_cons (pv 5) pa_nil)) pa_nil))) pa_nil)))))))
      (pss_cons (ps_set (i := 7) scWide.nd rfl (.inl rfl) (pe_call (ok_law_draw T) (hr.mono (by decide)) (by rfl) T.g_law_draw T.F_law_draw.kp T.b_law_draw .nil pass0 (pa_cons (pv 0) (pa_cons pe_int pa_nil))))
      (pss_cons (ps_if (pt_cmpR op_eq (pv 7) pe_int (nomark _))
      (pss_one (ps_ret (pe_tup (pa_cons pe_str (pa_cons (pe_callTy call_tuple_of (by rfl) T.mtuple (by decide +kernel) (pa_cons (pe_lc (own := [("_law_one", 8)]) (g := gName 8) (tt := tYes) rfl scWide.nd (pi_list (pv 3)) (blkOk_by (N := NWide) (own := [("_law_one", 8)]) (sc := defScope sWide) (by decide +kernel)) (fun _ _ _ _ _ => pg_name (i := 8) scWide.nd rfl (Or.inl rfl)) (fun _ _ _ _ _ => pts_nil) (fun _ _ _ _ _ => (pe_tup (pa_cons pe_str (pa_cons (pv 8) pa_nil))))) pa_nil)) pa_nil)))))
      pss_nil)
      (pss_one (ps_ret (pe_ix ix_list (pe_lst (pa_cons (pe_tup (pa_cons pe_str (pa_cons (pe_callTy call_tuple_of (by rfl) T.mtuple (by decide +kernel) (pa_cons (pv 3) pa_nil)) pa_nil))) (pa_cons (pe_tup (pa_cons pe_str (pa_cons (pe_tup (pa_cons pe_str (pa_cons (pe_callTy call_tuple_of (by rfl) T.mtuple (by decide +kernel) (pa_cons (pv 3) pa_nil)) pa_nil))) pa_nil))) pa_nil))) (pe_op op_sub (pv 7) pe_int) (fun _ _ => rfl))))))))
      , ?_⟩
    walk_at "s"
    refine dr 10 hT (by omega) (by omega) (by omega) fun st0 H1 p1 p2 T1 k1 => ?_
    walk_at "s"
    refine dr 40 T1 (by omega) (by omega) (by omega) fun he0 H2 p3 p4 T2 k2 => ?_
    walk_at "s"
    intro li hli
    have eli : (upd H2 li (.lst [])) li = some (.lst []) := upd_same
    have nla := T2.ne hli
    have nlc := T2.nec hli
    have T3 := T2.new (o := .lst []) hli
    have k3 := (k1.trans k2).new (o := .lst []) hli
    have hli0 : H li = none := (k1.trans k2).free hli nla
    generalize upd H2 li (.lst []) = H3 at eli T3 k3 ⊢
    walk_at "s"
    refine ⟨_, _, _, rfl, ?_⟩
    refine ⟨fun σ H' => ∃ (vs : List V) (rs : List RT) (he : Int) (w4 w5 w6 w7 w8 : Option V), σ = [some (.ref a), some (.int (1 + st0)), some (.int he), some (.ref li), w4, w5, w6, w7, w8] ∧ H' li = some (.lst vs) ∧ Trees H' 2 vs rs 8 80 ∧ Tape H' a c (n + 130) ∧ Keep a H H', ?_, ?_⟩
    · walk_at "s"
      refine for_range (lo := 0) (n := 8) (fun k σ H' => ∃ (vs : List V) (rs : List RT) (he : Int) (w4 w5 w6 w7 w8 : Option V), σ = [some (.ref a), some (.int (1 + st0)), some (.int he), some (.ref li), w4, w5, w6, w7, w8] ∧ H' li = some (.lst vs) ∧ Trees H' 2 vs rs k (10 * k) ∧ (0 ≤ he ∧ he ≤ 40 + 160 * k) ∧ Tape H' a c (n + 2 + 16 * k) ∧ Keep a H H')
        ⟨[], [], he0, _, _, _, _, _, rfl, eli, ⟨rfl, .nil, rfl, by rw [RT.nodess]; exact Nat.zero_le _⟩, ⟨p3, by omega⟩, T3, k3⟩ ?_ ?_
      · rintro k σ H4 hk ⟨vs, rs, he, w4, w5, w6, w7, w8, rfl, e4, htr, hhe, T4, k4⟩
        walk_at "s"
        intro lh hlh
        have elh : (upd H4 lh (.lst [])) lh = some (.lst []) := upd_same
        have nha := T4.ne hlh
        have nhc := T4.nec hlh
        have hlh0 : H lh = none := k4.free hlh nha
        have nhi : lh ≠ li := fun z => by rw [z, e4] at hlh; cases hlh
        have e5 := upd_at (o := .lst []) hlh e4
        have T5 := T4.new (o := .lst []) hlh
        have k5 := k4.new (o := .lst []) hlh
        have htr5 := htr.mono (solid_same (same_upd (o := .lst []) hlh))
        generalize upd H4 lh (.lst []) = H5 at elh e5 T5 k5 htr5 ⊢
        walk_at "s"
        refine for_range (lo := 0) (n := 8) (fun j σ H' => ∃ (hs : List V) (rs2 : List RT) (he : Int) (w6 w7 w8 : Option V), σ = [some (.ref a), some (.int (1 + st0)), some (.int he), some (.ref li), some (.int (0 + (k : Int))), some (.ref lh), w6, w7, w8] ∧ H' lh = some (.lst hs) ∧ Trees H' 1 hs rs2 j j ∧ H' li = some (.lst vs) ∧ Trees H' 2 vs rs k (10 * k) ∧ (0 ≤ he ∧ he ≤ 40 + 160 * k + 20 * j) ∧ Tape H' a c (n + 2 + 16 * k + 2 * j) ∧ Keep a H H')
          ⟨[], [], he, _, _, _, rfl, elh, ⟨rfl, .nil, rfl, by rw [RT.nodess]; exact Nat.zero_le _⟩, e5, htr5, ⟨hhe.1, by omega⟩, T5, k5⟩ ?_ ?_
        · rintro j σ H6 hj ⟨hs, rs2, he, w6, w7, w8, rfl, e6h, ht6, e6, htr6, hhe6, T6, k6⟩
          walk_at "s"
          refine And.intro (.inl ⟨rfl, _, SqL.of e6h⟩) ?_
          walk_at "s"
          refine dr (1 + st0) T6 (by omega) (by omega) (by omega) fun d7 H7 d0 d1 T7 k7 => ?_
          have sk := T6.tape.elim fun _ e => solid_keep e k7
          have e7h := k7 _ _ nha e6h
          have e7 := k7 _ _ nla e6
          have ht7 := ht6.mono sk
          have htr7 := htr6.mono sk
          have k67 := k6.trans k7
          walk_at "s"
          intro pt hpt
          walk_at "s"
          have e8h := upd_at (o := .tup [.str "hours", .int he, .int (he + 1 + d7)]) hpt e7h
          have sn := solid_same (same_upd (o := .tup [.str "hours", .int he, .int (he + 1 + d7)]) hpt)
          have su := solid_trans sn (solid_upd (o := .lst (hs ++ [.ref pt])) e8h)
          have hlen := Paired.length ht7.2.1
          have hl2 := ht7.1
          refine ⟨lh, _, _, rfl, rfl, e8h, lt_line (by omega), ?_⟩
          have T9 := (T7.new (o := .tup [.str "hours", .int he, .int (he + 1 + d7)]) hpt).upd (o := .lst (hs ++ [.ref pt])) nha nhc
          have k9 := app_keep (o := .lst (hs ++ [.ref pt])) hlh0 (k67.new (o := .tup [.str "hours", .int he, .int (he + 1 + d7)]) hpt)
          have ht9 := (ht7.mono su).snoc (v := .ref pt) (r := .hours he (he + 1 + d7)) (M := j + 1) ⟨pt, _, rfl, by rw [upd_ne (fun z => by rw [z, e7h] at hpt; cases hpt)]; exact upd_same, rfl⟩ (by rw [RT.fine]; exact decide_eq_true (by omega)) (by rw [RT.nodes]; exact Nat.le_refl _)
          have htr9 := htr7.mono su
          have e9 : (upd (upd H7 pt (.tup [.str "hours", .int he, .int (he + 1 + d7)])) lh (.lst (hs ++ [.ref pt]))) li = some (.lst vs) := by rw [upd_ne nhi.symm]; exact upd_at hpt e7
          have e9h : (upd (upd H7 pt (.tup [.str "hours", .int he, .int (he + 1 + d7)])) lh (.lst (hs ++ [.ref pt]))) lh = some (.lst (hs ++ [.ref pt])) := upd_same
          generalize upd (upd H7 pt (.tup [.str "hours", .int he, .int (he + 1 + d7)])) lh (.lst (hs ++ [.ref pt])) = H9 at T9 k9 ht9 htr9 e9 e9h ⊢
          walk_at "s"
          refine dr 9 T9 (by omega) (by omega) (by omega) fun d10 H10 d2 d3 T10 k10 => ?_
          have sk2 := T9.tape.elim fun _ e => solid_keep e k10
          walk_at "s"
          exact ⟨_, _, _, _, _, _, rfl, k10 _ _ nha e9h, ht9.mono sk2, k10 _ _ nla e9, htr9.mono sk2, ⟨by omega, by omega⟩, T10.mono (by omega), k9.trans k10⟩
        · rintro σ H6 ⟨hs, rs2, he, w6, w7, w8, rfl, e6h, ht6, e6, htr6, hhe6, T6, k6⟩
          walk_at "s"
          refine And.intro (.inl ⟨rfl, _, SqL.of e6⟩) ?_
          walk_at "s"
          refine ⟨lh, hs, rfl, .inl ⟨SqL.of e6h, fun u hu => ?_⟩⟩
          walk_at "s"
          intro pt hpt
          walk_at "s"
          have e8 := upd_at (o := .tup [.str "either", .ref u]) hpt (upd_at (o := .tup hs) hu e6)
          have sn := solid_trans (solid_same (same_upd (o := .tup hs) hu)) (solid_same (same_upd (o := .tup [.str "either", .ref u]) hpt))
          have su := solid_trans sn (solid_upd (o := .lst (vs ++ [.ref pt])) e8)
          have hlen := Paired.length htr6.2.1
          have hl2 := htr6.1
          refine ⟨li, _, _, rfl, rfl, e8, lt_line (by omega), ?_⟩
          have T9 := ((T6.new (o := .tup hs) hu).new (o := .tup [.str "either", .ref u]) hpt).upd (o := .lst (vs ++ [.ref pt])) nla nlc
          have k9 := app_keep (o := .lst (vs ++ [.ref pt])) hli0 ((k6.new (o := .tup hs) hu).new (o := .tup [.str "either", .ref u]) hpt)
          have nu : u ≠ pt := fun z => by rw [z] at hpt; rw [upd_same] at hpt; cases hpt
          have nui : u ≠ li := fun z => by rw [z, e6] at hu; cases hu
          have npi : pt ≠ li := fun z => by rw [z, upd_at hu e6] at hpt; cases hpt
          refine ⟨_, _, he, _, _, _, _, _, rfl, upd_same, (htr6.mono su).snoc (v := .ref pt) (r := .eith rs2) ⟨pt, _, rfl, by rw [upd_ne npi]; exact upd_same, u, hs, rfl, by rw [upd_ne nui, upd_ne nu]; exact upd_same, by have := ht6.1; omega, (ht6.mono su).2.1⟩ (by rw [RT.fine]; exact ht6.2.2.1) (by have := ht6.2.2.2; rw [RT.nodes]; omega), ⟨by omega, by omega⟩, T9.mono (by omega), k9⟩
      · rintro σ H4 ⟨vs, rs, he, w4, w5, w6, w7, w8, rfl, e4, htr, hhe, T4, k4⟩
        exact ⟨vs, rs, he, _, _, _, _, _, rfl, e4, htr, T4, k4⟩
    rintro σ H3 ⟨vs, rs, he, w4, w5, w6, w7, w8, rfl, eli, htr, T3, k3⟩
    walk_at "s"
    refine dr 3 T3 (by omega) (by omega) (by omega) fun way H4 w0 w1 T4 k4 => ?_
    have eli4 := k4 _ _ nla eli
    have htr4 := T3.tape.elim fun _ e => htr.mono (solid_keep e k4)
    walk_at "s"
    have htl := htr4.1
    have hvl := Paired.length htr4.2.1
    have kk := k3.trans k4
    have Tz := T4.mono (m := n + 200) (by omega)
    refine ite2 (fun c => ?_) (fun c => ?_)
    · walk_at "s"
      refine ⟨⟨_, SqL.of eli4⟩, fun D hD => ?_⟩
      refine lc_list (K := K) (a := li) (xs := vs) (fun i H' => ∃ acc, H' D = some (.lst acc) ∧ Paired (LAt H' 3) acc ((rs.take i).map .unl) ∧ Same H4 H') ⟨[], upd_same, by rw [List.take_zero]; exact .nil, same_upd hD⟩ (fun i H' _ z => SqL.of (z.choose_spec.2.2 _ _ eli4)) ?_ ?_
      · rintro i x H5 hx ⟨acc, eD, hacc, s5⟩
        obtain ⟨r, hr1, hr2⟩ := paired_at htr4.2.1 hx
        have hi : i < vs.length := (List.getElem?_eq_some_iff.mp hx).1
        have hal := Paired.length hacc
        rw [List.length_map, List.length_take] at hal
        walk_at "s"
        intro pt hpt
        have eD2 := upd_at (o := .tup [.str "unless", x]) hpt eD
        have sn := solid_same (same_upd (o := .tup [.str "unless", x]) hpt)
        refine ⟨acc, eD2, lt_line (by omega), acc ++ [.ref pt], upd_same, ?_, app_same hD (s5.trans (same_upd hpt))⟩
        rw [List.take_succ, hr1, Option.toList_some, List.map_append]
        have su := solid_trans sn (solid_upd (o := .lst (acc ++ [.ref pt])) eD2)
        exact paired_app (paired_mono (fun _ _ z => z.mono su) hacc) (.cons ⟨pt, _, rfl, by rw [upd_ne (fun z => by rw [z, eD] at hpt; cases hpt)]; exact upd_same, x, rfl, (hr2.same s5).mono su⟩ .nil)
      · rintro H5 ⟨acc, eD, hacc, s5⟩
        rw [hvl, List.take_length] at hacc
        walk_at "s"
        refine ⟨D, acc, rfl, .inl ⟨SqL.of eD, fun u hu => ?_⟩⟩
        walk_at "s"
        intro pt hpt
        have sn := solid_trans (solid_same (same_upd (o := .tup acc) hu)) (solid_same (same_upd (o := .tup [.str "both", .ref u]) hpt))
        have fu := fines_unl rs
        have hn4 := htr4.2.2.2
        refine q _ (.both (rs.map .unl)) _ ⟨pt, _, rfl, upd_same, u, acc, rfl, upd_at hpt upd_same, by rw [List.length_map]; omega, paired_mono (fun _ _ z => z.mono sn) hacc⟩ (by rw [RT.fine, fu.1]; exact htr4.2.2.1) (by rw [RT.nodes, fu.2]; omega) (((Tz.same s5).new hu).new hpt) (((kk.same s5).new hu).new hpt)
    · walk_at "s"
      refine ⟨li, vs, rfl, .inl ⟨SqL.of eli4, fun u1 hu1 => ?_⟩⟩
      walk_at "s"
      intro t1 ht1
      have s1 := (same_upd (o := .tup vs) hu1).trans (same_upd (o := .tup [.str "either", .ref u1]) ht1)
      have eu1 := upd_at (o := .tup [.str "either", .ref u1]) ht1 (show (upd H4 u1 (.tup vs)) u1 = some (.tup vs) from upd_same)
      have et1 : (upd (upd H4 u1 (.tup vs)) t1 (.tup [.str "either", .ref u1])) t1 = some (.tup [.str "either", .ref u1]) := upd_same
      generalize upd (upd H4 u1 (.tup vs)) t1 (.tup [.str "either", .ref u1]) = H5 at s1 eu1 et1 ⊢
      walk_at "s"
      refine ⟨li, vs, rfl, .inl ⟨SqL.of (s1 _ _ eli4), fun u2 hu2 => ?_⟩⟩
      walk_at "s"
      intro t2 ht2
      have s2 := (same_upd (o := .tup vs) hu2).trans (same_upd (o := .tup [.str "either", .ref u2]) ht2)
      have eu2 := upd_at (o := .tup [.str "either", .ref u2]) ht2 (show (upd H5 u2 (.tup vs)) u2 = some (.tup vs) from upd_same)
      have et2 : (upd (upd H5 u2 (.tup vs)) t2 (.tup [.str "either", .ref u2])) t2 = some (.tup [.str "either", .ref u2]) := upd_same
      generalize upd (upd H5 u2 (.tup vs)) t2 (.tup [.str "either", .ref u2]) = H6 at s2 eu2 et2 ⊢
      walk_at "s"
      intro t3 ht3
      have s3 := same_upd (o := .tup [.str "unless", .ref t2]) ht3
      have et3 : (upd H6 t3 (.tup [.str "unless", .ref t2])) t3 = some (.tup [.str "unless", .ref t2]) := upd_same
      generalize upd H6 t3 (.tup [.str "unless", .ref t2]) = H7 at s3 et3 ⊢
      walk_at "s"
      intro l hl
      have s4 := same_upd (o := .lst [.ref t1, .ref t3]) hl
      have el : (upd H7 l (.lst [.ref t1, .ref t3])) l = some (.lst [.ref t1, .ref t3]) := upd_same
      generalize upd H7 l (.lst [.ref t1, .ref t3]) = H8 at s4 el ⊢
      have sx := ((s1.trans s2).trans s3).trans s4
      have hps := paired_mono (fun _ _ z => LAt.same z sx) htr4.2.1
      have hn4 := htr4.2.2.2
      have z1 : LAt H8 4 (.ref t1) (.eith rs) := ⟨t1, _, rfl, ((s2.trans s3).trans s4) _ _ et1, u1, vs, rfl, ((s2.trans s3).trans s4) _ _ eu1, by omega, paired_mono (fun _ _ z => LAt.up z) hps⟩
      have z2 : LAt H8 3 (.ref t2) (.eith rs) := ⟨t2, _, rfl, (s3.trans s4) _ _ et2, u2, vs, rfl, (s3.trans s4) _ _ eu2, by omega, hps⟩
      have z3 : LAt H8 4 (.ref t3) (.unl (.eith rs)) := ⟨t3, _, rfl, s4 _ _ et3, .ref t2, rfl, z2⟩
      have n0 : way ≠ 0 := fun e => c (decide_eq_true (by rw [e]))
      have hw : way = 1 ∨ way = 2 := by omega
      walk_at "s"
      rcases hw with rfl | rfl
      · refine i_ixLe 0 (SqL.of el) rfl rfl ?_
        exact q _ _ _ z1 (by rw [RT.fine]; exact htr4.2.2.1) (by rw [RT.nodes]; omega) (Tz.same sx) (kk.same sx)
      · refine i_ixLe 1 (SqL.of el) rfl rfl ?_
        exact q _ _ _ z3 (by rw [RT.fine, RT.fine]; exact htr4.2.2.1) (by rw [RT.nodes, RT.nodes]; omega) (Tz.same sx) (kk.same sx)
end
section
open LamX (Tabs ExtN)
variable {TT : List (Addr × Str)} {H H' : Hp} {F c : Addr} {n : Nat}
theorem Tape.tabs (t : Tape H F c n) (k : Keep F H H') (h : Tabs TT H) : Tabs TT H' := by
  obtain ⟨ys, e⟩ := t.tape
  exact tabs_lst e (fun b o n e => k b o n e) h
theorem Tape.sm (t : Tape H F c n) (s : Sm TT H H') : Tape H' F c n := by
  obtain ⟨t, r, ns, h1, h2, h3, h4, h5, h6⟩ := t.ex
  exact ⟨t, r, ns, s.at h1, s.at h2, h3, h4, h5, h6⟩
end
theorem allowedP_facts {r : RT} {a b : Int} (hf : r.fine = true) (ha : 0 ≤ a) (hb : b ≤ 2000000000) (hsz : (b.fdiv 10080 + 1 - a.fdiv 10080).toNat * (15 * r.nodes) ≤ 30000) :
    (allowedP r a b).length ≤ 30000 ∧ ∀ q ∈ allowedP r a b, q.1.natAbs < 10000000000 ∧ q.2.natAbs < 10000000000 := by
  constructor
  · have h1 := (wp_in r true hf).2
    have h2 := inWeeks_len (wp r true) (a.fdiv 10080) (b.fdiv 10080 + 1 - a.fdiv 10080).toNat
    have h3 : (b.fdiv 10080 + 1 - a.fdiv 10080).toNat * (wp r true).length ≤ (b.fdiv 10080 + 1 - a.fdiv 10080).toNat * (15 * r.nodes) := Nat.mul_le_mul_left _ h1
    have h4 := kept_len (inWeeks (wp r true) (a.fdiv 10080) (b.fdiv 10080 + 1 - a.fdiv 10080).toNat) a b
    have h5 : (allowedP r a b).length ≤ (kept (inWeeks (wp r true) (a.fdiv 10080) (b.fdiv 10080 + 1 - a.fdiv 10080).toNat) a b).length := jnd_len
    omega
  · intro q hq
    have hlt := (allowedP_canon r a b).1 q hq
    have c1 := (allowedP_cov (a := a) (b := b) hf q.1).mp ⟨q, hq, Int.le_refl _, hlt⟩
    have c2 := (allowedP_cov (a := a) (b := b) hf (q.2 - 1)).mp ⟨q, hq, by omega, by omega⟩
    omega
set_option maxHeartbeats 8000000
local macro_rules | `(tactic| walk_at "c") => `(tactic| first | omega | decide | exact ⟨by omega, by omega⟩ | exact ⟨by decide, by decide⟩ | exact .inl ⟨by omega, by omega⟩ | exact .inr ⟨by omega, by omega⟩ | exact ⟨by omega, by omega, by omega⟩ | exact ⟨by decide, by decide, by decide⟩ | exact le_line (Nat.le_of_ble_eq_true rfl))
local macro_rules | `(tactic| walk_at "a") => `(tactic| with_reducible (first | refine i_seq ?_ | refine i_asg ?_ | refine i_cons ?_ | refine i_c ?_ | refine i_nil ?_ | refine i_op ?_ | refine i_call ?_ | refine i_cb ?_ | refine i_name ?_ | refine i_next ?_ | refine i_ret ?_ | refine i_drop ?_ | refine i_if ?_ | refine i_test ?_ | refine i_and ?_ | refine i_or ?_ | refine i_not ?_ | refine i_ite ?_ | refine i_lst ?_ | refine i_tup ?_ | refine i_bm ?_ | refine i_un ?_ | refine i_par ?_ | refine i_gsub ?_ | refine i_chain ?_ | refine i_sl ?_ | refine i_nopart ?_ | refine i_part ?_ | refine i_m1 ?_ | refine i_m0 ?_ | refine i_lc ?_ | refine i_iList ?_ | refine i_iTup ?_ | refine i_iStr ?_ | refine i_r1 ?_ | refine i_set ?_ | refine i_callk ?_ | refine i_callN ?_ | refine i_ckw ?_ | refine i_revL ?_ | refine i_tB ?_ | refine i_fld ?_ | refine i_sfld ?_ | refine i_make ?_ | refine i_makeN ?_ | refine i_meth ?_ | refine i_andV ?_ | refine i_orV ?_ | refine i_notV ?_ | refine iteT ?_ | refine iteF ?_ | refine i_yes ?_))
local macro_rules | `(tactic| walk_at "s") => `(tactic| repeat (first | walk_at "a" | refine i_var rfl ?_ | refine i_aug rfl ?_ | refine And.intro ⟨_, rfl⟩ ?_ | refine ⟨_, rfl, ?_⟩ | refine ⟨_, _, rfl, rfl, ?_⟩ | refine ⟨_, _, rfl, ?_⟩ | refine ⟨rfl, ?_⟩ | refine And.intro (by walk_at "c") ?_))
section
open LamX (Tabs)
variable {P : Program} {w : World} {K : PySem.W.Frag} {mg : Str → Option Value} {base : Heap} (T : Ev K mg base)
def KeepN (F : Addr) (H H' : Hp) : Prop := ∀ b o, b ≠ F → (∀ ps, o ≠ HO.tbl ps) → H b = some o → H' b = some o
theorem Keep.n {F : Addr} {H H' : Hp} (k : Keep F H H') : KeepN F H H' := fun b o n _ e => k b o n e
theorem Sm.n {TT : List (Addr × Str)} {F : Addr} {H H' : Hp} (s : Sm TT H H') : KeepN F H H' := fun b o _ m e => s.1 b o e m
theorem sameN {F : Addr} {H H' : Hp} (s : Same H H') : KeepN F H H' := fun b o _ _ e => s b o e
theorem KeepN.trans {F : Addr} {H H1 H2 : Hp} (a : KeepN F H H1) (b : KeepN F H1 H2) : KeepN F H H2 := fun x o n m e => b x o n m (a x o n m e)
theorem sqL_keepN {K : PySem.W.Frag} {F a : Addr} {H H' : Hp} {xs : List V} (h : SqL K H a xs) (n1 : H F = none) (k : KeepN F H H') : SqL K H' a xs := by
  rcases h with (h | ⟨o, h⟩) | h
  · exact .inl (.inl (k _ _ (ne_of_none h n1) (by intro ps z; cases z) h))
  · exact .inl (.inr ⟨o, k _ _ (ne_of_none h n1) (by intro ps z; cases z) h⟩)
  · exact .inr h
def spRight26 : Sp := fun vs H Q _ => ∃ (a c : Addr) (n : Nat), vs = [.ref a] ∧ n ≤ 700000 ∧ Tape H a c n ∧ Tabs (TT T) H ∧ ∀ H', Tape H' a c (n + 70000) → Tabs (TT T) H' → KeepN a H H' → Q (.bl true) H'
theorem ok_law_wide_right : FnOk P w K mg base CX0 20 T.f_law_wide_right T.fd_law_wide_right ["_law_tape_here"] (spRight26 T) := by
  have object6 : Ev K mg base → FnOk P w K mg base CX0 9 T.f_law_object T.fd_law_object ["_law_told_rule"] (spObj T 6) := fun _ => ok_law_object T 6
  have allowed6 : Ev K mg base → FnOk P w K mg base CX0 18 T.fallowed_in T.fdallowed_in ["rule", "within"] (spAllowedIn T 6) := fun _ => okallowed_in T 6
  refine T.F_law_wide_right.ok scWideRight (fun vs H Q E h => ?_) (fun cdv A outer s H vs Q E hr h => ?_)
  · obtain ⟨a, c, n, rfl, _⟩ := h
    rfl
  · obtain ⟨a, c, n, rfl, hn, hT, tb, q⟩ := h
    refine ⟨_,
      (pss_cons (ps_par (i := 1) (j := 2) rfl scWideRight.nd rfl rfl (by decide) rfl rfl (pa_cons (pe_call (ok_law_wide T) (hr.mono (by decide)) (by rfl) T.g_law_wide T.F_law_wide.kp T.b_law_wide .nil pass0 (pa_cons (pv 0) pa_nil)) (pa_cons (pe_call (ok_law_draw T) (hr.mono (by decide)) (by rfl) T.g_law_draw T.F_law_draw.kp T.b_law_draw .nil pass0 (pa_cons (pv 0) (pa_cons (pe_op op_pow pe_int pe_int) pa_nil))) pa_nil)) (by rfl))
      (pss_cons (ps_set (i := 3) scWideRight.nd rfl (.inl rfl) (pe_op op_add (pe_op op_add (pv 2) pe_int) (pe_call (ok_law_draw T) (hr.mono (by decide)) (by rfl) T.g_law_draw T.F_law_draw.kp T.b_law_draw .nil pass0 (pa_cons (pv 0) (pa_cons pe_int pa_nil)))))
      (pss_one (ps_ret (pe_call (ok_law_is T) (hr.mono (by decide)) (by rfl) T.g_law_is T.F_law_is.kp T.b_law_is .nil pass0 (pa_cons (pe_call (allowed6 T) (hr.mono (by decide)) (by rfl) T.gallowed_in T.Fallowed_in.kp T.ballowed_in .nil pass0 (pa_cons (pe_call (object6 T) (hr.mono (by decide)) (by rfl) T.g_law_object T.F_law_object.kp T.b_law_object .nil pass0 (pa_cons (pv 1) pa_nil)) (pa_cons (pe_makeN (mk_Stretch T) (okStretch___init__ T) (hr.mono (by decide)) (by rfl) T.gCStretch (kb_Stretch___init___3 T).choose_spec pass0 (pa_cons (pv 2) (pa_cons (pv 3) pa_nil)) pk_nil) pa_nil))) (pa_cons (pe_call (ok_law_pieces T) (hr.mono (by decide)) (by rfl) T.g_law_pieces T.F_law_pieces.kp T.b_law_pieces .nil pass0 (pa_cons (pv 1) (pa_cons (pv 2) (pa_cons (pv 3) pa_nil)))) pa_nil)))))))
      , ?_⟩
    walk_at "s"
    refine ⟨a, c, n, rfl, by omega, hT, fun v r H1 hv hf hnr T1 k1 => ?_⟩
    walk_at "s"
    refine dr ((10 : Int) ^ Int.toNat 5) T1 (by decide) (by decide) (by omega) fun f H2 f0 f1 T2 k2 => ?_
    have hv2 := hv.keep T1 k2
    have e5 : (10 : Int) ^ Int.toNat 5 = 100000 := by decide
    rw [e5] at f1
    walk_at "s"
    refine dr 1440 T2 (by omega) (by omega) (by omega) fun g H3 g0 g1 T3 k3 => ?_
    have hv3 := hv2.keep T2 k3
    have tb3 := T2.tabs k3 (T1.tabs k2 (hT.tabs k1 tb))
    walk_at "s"
    refine ⟨v, r, rfl, hv3.up.up, fun x H4 hx s4 => ?_⟩
    walk_at "s"
    refine mkStr (a := f) (b := f + 1440 + g) (y := .int (f + 1440 + g)) (.inl rfl) (by omega) fun o H5 ho0 ho s5 => ?_
    walk_at "s"
    have s45 := s4.trans s5
    have ea : f.fdiv 10080 = f / 10080 := Int.fdiv_eq_ediv_of_nonneg _ (by decide)
    have eb : (f + 1440 + g).fdiv 10080 = (f + 1440 + g) / 10080 := Int.fdiv_eq_ediv_of_nonneg _ (by decide)
    have ec : f.fdiv 1440 = f / 1440 := Int.fdiv_eq_ediv_of_nonneg _ (by decide)
    have ed : (f + 1440 + g).fdiv 1440 = (f + 1440 + g) / 1440 := Int.fdiv_eq_ediv_of_nonneg _ (by decide)
    have hw2 : ((f + 1440 + g).fdiv 10080 + 1 - f.fdiv 10080).toNat * (15 * r.nodes) ≤ 2 * (15 * r.nodes) := Nat.mul_le_mul_right _ (by omega)
    have hw3 : ((f + 1440 + g).fdiv 1440 + 1 - f.fdiv 1440).toNat * (1 + 2 * r.nodes) ≤ 4 * (1 + 2 * r.nodes) := Nat.mul_le_mul_right _ (by omega)
    have af := allowedP_facts (r := r) (a := f) (b := f + 1440 + g) hf f0 (by omega) (by omega)
    refine ⟨x, o, r, f, f + 1440 + g, rfl, hx.same T s5, Nat.le_refl _, hf, by omega, ho, by omega, f0, by omega, by omega, tb3.ext s45, fun l ys H6 s6 hl el hys => ?_⟩
    walk_at "s"
    refine ⟨v, f, f + 1440 + g, r, rfl, ((hv3.up.up).same s45).mono (solid_sm s6), hf, by omega, f0, by omega, by omega, by omega, fun l2 zs H7 s7 hl2 el2 hzs => ?_⟩
    walk_at "s"
    refine ⟨l, l2, ys, zs, _, rfl, s7 _ _ el, hys.same s7, el2, hzs, af.1, af.2, fun H8 s8 => ?_⟩
    exact q H8 (((((T3.same s45).sm s6).same s7).same s8).mono (by omega)) (((s6.2.1 (tb3.ext s45)).ext s7).ext s8) ((((k1.n.trans (k2.n.trans k3.n)).trans (sameN s45)).trans (Sm.n s6)).trans (sameN (s7.trans s8)))
theorem ok_law_deep_right : FnOk P w K mg base CX0 20 T.f_law_deep_right T.fd_law_deep_right ["_law_tape_here"] (spRight26 T) := by
  have rule6 : Ev K mg base → FnOk P w K mg base CX0 9 T.f_law_rule T.fd_law_rule ["_law_tape_here", "_law_deep"] (spRule 6) := fun _ => ok_law_rule T 6
  have object6 : Ev K mg base → FnOk P w K mg base CX0 9 T.f_law_object T.fd_law_object ["_law_told_rule"] (spObj T 6) := fun _ => ok_law_object T 6
  have allowed6 : Ev K mg base → FnOk P w K mg base CX0 18 T.fallowed_in T.fdallowed_in ["rule", "within"] (spAllowedIn T 6) := fun _ => okallowed_in T 6
  refine T.F_law_deep_right.ok scDeepRight (fun vs H Q E h => ?_) (fun cdv A outer s H vs Q E hr h => ?_)
  · obtain ⟨a, c, n, rfl, _⟩ := h
    rfl
  · obtain ⟨a, c, n, rfl, hn, hT, tb, q⟩ := h
    refine ⟨_,
      (pss_cons (ps_par (i := 1) (j := 2) rfl scDeepRight.nd rfl rfl (by decide) rfl rfl (pa_cons (pe_call (rule6 T) (hr.mono (by decide)) (by rfl) T.g_law_rule T.F_law_rule.kp T.b_law_rule .nil pass0 (pa_cons (pv 0) (pa_cons pe_int pa_nil))) (pa_cons (pe_call (ok_law_draw T) (hr.mono (by decide)) (by rfl) T.g_law_draw T.F_law_draw.kp T.b_law_draw .nil pass0 (pa_cons (pv 0) (pa_cons (pe_op op_pow pe_int pe_int) pa_nil))) pa_nil)) (by rfl))
      (pss_cons (ps_set (i := 3) scDeepRight.nd rfl (.inl rfl) (pe_op op_add (pv 2) (pe_call (ok_law_draw T) (hr.mono (by decide)) (by rfl) T.g_law_draw T.F_law_draw.kp T.b_law_draw .nil pass0 (pa_cons (pv 0) (pa_cons pe_int pa_nil)))))
      (pss_one (ps_ret (pe_call (ok_law_is T) (hr.mono (by decide)) (by rfl) T.g_law_is T.F_law_is.kp T.b_law_is .nil pass0 (pa_cons (pe_call (allowed6 T) (hr.mono (by decide)) (by rfl) T.gallowed_in T.Fallowed_in.kp T.ballowed_in .nil pass0 (pa_cons (pe_call (object6 T) (hr.mono (by decide)) (by rfl) T.g_law_object T.F_law_object.kp T.b_law_object .nil pass0 (pa_cons (pv 1) pa_nil)) (pa_cons (pe_makeN (mk_Stretch T) (okStretch___init__ T) (hr.mono (by decide)) (by rfl) T.gCStretch (kb_Stretch___init___3 T).choose_spec pass0 (pa_cons (pv 2) (pa_cons (pv 3) pa_nil)) pk_nil) pa_nil))) (pa_cons (pe_call (ok_law_pieces T) (hr.mono (by decide)) (by rfl) T.g_law_pieces T.F_law_pieces.kp T.b_law_pieces .nil pass0 (pa_cons (pv 1) (pa_cons (pv 2) (pa_cons (pv 3) pa_nil)))) pa_nil)))))))
      , ?_⟩
    walk_at "s"
    have e6 : rcost 6 = 65536 := rfl
    have e36 : 3 ^ 6 = 729 := rfl
    refine ⟨a, c, n, rfl, by decide, by omega, hT, fun v r H1 hv hf hnr T1 k1 => ?_⟩
    walk_at "s"
    refine dr ((10 : Int) ^ Int.toNat 6) T1 (by decide) (by decide) (by omega) fun f H2 f0 f1 T2 k2 => ?_
    have hv2 := hv.keep T1 k2
    have e5 : (10 : Int) ^ Int.toNat 6 = 1000000 := by decide
    rw [e5] at f1
    walk_at "s"
    refine dr 2880 T2 (by omega) (by omega) (by omega) fun g H3 g0 g1 T3 k3 => ?_
    have hv3 := hv2.keep T2 k3
    have tb3 := T2.tabs k3 (T1.tabs k2 (hT.tabs k1 tb))
    walk_at "s"
    refine ⟨v, r, rfl, hv3, fun x H4 hx s4 => ?_⟩
    walk_at "s"
    refine mkStr (a := f) (b := f + g) (y := .int (f + g)) (.inl rfl) (by omega) fun o H5 ho0 ho s5 => ?_
    walk_at "s"
    have s45 := s4.trans s5
    have ea : f.fdiv 10080 = f / 10080 := Int.fdiv_eq_ediv_of_nonneg _ (by decide)
    have eb : (f + g).fdiv 10080 = (f + g) / 10080 := Int.fdiv_eq_ediv_of_nonneg _ (by decide)
    have ec : f.fdiv 1440 = f / 1440 := Int.fdiv_eq_ediv_of_nonneg _ (by decide)
    have ed : (f + g).fdiv 1440 = (f + g) / 1440 := Int.fdiv_eq_ediv_of_nonneg _ (by decide)
    have hw2 : ((f + g).fdiv 10080 + 1 - f.fdiv 10080).toNat * (15 * r.nodes) ≤ 2 * (15 * r.nodes) := Nat.mul_le_mul_right _ (by omega)
    have hw3 : ((f + g).fdiv 1440 + 1 - f.fdiv 1440).toNat * (1 + 2 * r.nodes) ≤ 3 * (1 + 2 * r.nodes) := Nat.mul_le_mul_right _ (by omega)
    have af := allowedP_facts (r := r) (a := f) (b := f + g) hf f0 (by omega) (by omega)
    refine ⟨x, o, r, f, f + g, rfl, hx.same T s5, Nat.le_refl _, hf, by omega, ho, by omega, f0, by omega, by omega, tb3.ext s45, fun l ys H6 s6 hl el hys => ?_⟩
    walk_at "s"
    refine ⟨v, f, f + g, r, rfl, ((hv3).same s45).mono (solid_sm s6), hf, by omega, f0, by omega, by omega, by omega, fun l2 zs H7 s7 hl2 el2 hzs => ?_⟩
    walk_at "s"
    refine ⟨l, l2, ys, zs, _, rfl, s7 _ _ el, hys.same s7, el2, hzs, af.1, af.2, fun H8 s8 => ?_⟩
    exact q H8 (((((T3.same s45).sm s6).same s7).same s8).mono (by omega)) (((s6.2.1 (tb3.ext s45)).ext s7).ext s8) ((((k1.n.trans (k2.n.trans k3.n)).trans (sameN s45)).trans (Sm.n s6)).trans (sameN (s7.trans s8)))
end
set_option maxHeartbeats 8000000
local macro_rules | `(tactic| walk_at "c") => `(tactic| first | omega | decide | exact ⟨by omega, by omega⟩ | exact ⟨by decide, by decide⟩ | exact .inl ⟨by omega, by omega⟩ | exact .inr ⟨by omega, by omega⟩ | exact ⟨by omega, by omega, by omega⟩ | exact ⟨by decide, by decide, by decide⟩ | exact le_line (Nat.le_of_ble_eq_true rfl))
local macro_rules | `(tactic| walk_at "a") => `(tactic| with_reducible (first | refine i_seq ?_ | refine i_asg ?_ | refine i_cons ?_ | refine i_c ?_ | refine i_nil ?_ | refine i_op ?_ | refine i_call ?_ | refine i_cb ?_ | refine i_name ?_ | refine i_next ?_ | refine i_ret ?_ | refine i_drop ?_ | refine i_if ?_ | refine i_test ?_ | refine i_and ?_ | refine i_or ?_ | refine i_not ?_ | refine i_ite ?_ | refine i_lst ?_ | refine i_tup ?_ | refine i_bm ?_ | refine i_un ?_ | refine i_par ?_ | refine i_gsub ?_ | refine i_chain ?_ | refine i_sl ?_ | refine i_nopart ?_ | refine i_part ?_ | refine i_m1 ?_ | refine i_m0 ?_ | refine i_lc ?_ | refine i_iList ?_ | refine i_iTup ?_ | refine i_iStr ?_ | refine i_r1 ?_ | refine i_set ?_ | refine i_callk ?_ | refine i_callN ?_ | refine i_ckw ?_ | refine i_revL ?_ | refine i_tB ?_ | refine i_fld ?_ | refine i_sfld ?_ | refine i_make ?_ | refine i_makeN ?_ | refine i_meth ?_ | refine i_andV ?_ | refine i_orV ?_ | refine i_notV ?_ | refine iteT ?_ | refine iteF ?_ | refine i_yes ?_))
local macro_rules | `(tactic| walk_at "s") => `(tactic| repeat (first | walk_at "a" | refine i_var rfl ?_ | refine i_aug rfl ?_ | refine And.intro ⟨_, rfl⟩ ?_ | refine ⟨_, rfl, ?_⟩ | refine ⟨_, _, rfl, rfl, ?_⟩ | refine ⟨_, _, rfl, ?_⟩ | refine ⟨rfl, ?_⟩ | refine And.intro (by walk_at "c") ?_))
theorem if_top8 {n : Int} : ∃ top : Int, top ≤ 8 ∧ 2 ≤ top ∧ (if (if (8 : Int) < n then (8 : Int) else n) > 2 then (if (8 : Int) < n then (8 : Int) else n) else 2) = top := ⟨_, by split <;> split <;> omega, by split <;> split <;> omega, rfl⟩
section
open LamX (Tabs)
variable {P : Program} {w : World} {K : PySem.W.Frag} {mg : Str → Option Value} {base : Heap} (T : Ev K mg base)
def spAny (n : Nat) (sps : Nat → Sp) : Sp := fun vs H Q E => ∃ d, d ≤ n ∧ sps d vs H Q E
theorem ok_any {P : Program} {w : World} {K : PySem.W.Frag} {mg : Str → Option Value} {base : Heap} {f : Addr} {fd : FuncData} {ps : List Str} {n k : Nat} {sps : Nat → Sp} (h : ∀ d, d ≤ n → FnOk P w K mg base CX0 (d + k) f fd ps (sps d)) : FnOk P w K mg base CX0 (n + k) f fd ps (spAny n sps) :=
  ⟨fun vs H Q E ⟨d, hd, q⟩ => (h d hd).len vs H Q E q, fun A outer s H args us vs Q E hr he hb hv ⟨d, hd, q⟩ => (h d hd).run A outer s H args us vs Q E (hr.mono (by omega)) he hb hv q⟩
theorem RuleAt.keep {H H' : Hp} {d : Nat} {v : V} {r : RT} {F c : Addr} {n : Nat} (h : RuleAt T H d v r) (hT : Tape H F c n) (s : Keep F H H') : RuleAt T H' d v r := by
  obtain ⟨ys, e⟩ := hT.tape
  exact h.mono T (solid_keep e s)
/-- what a rule of so few nodes costs within so few days -/
theorem law_costs {a b : Int} {n : Nat} (h0 : 0 ≤ a) (hab : a ≤ b) (hl : b - a ≤ 86400) (hn : n ≤ 13) :
    (b.fdiv 10080 + 1 - a.fdiv 10080).toNat * (15 * n) ≤ 30000 ∧ (b.fdiv 1440 + 1 - a.fdiv 1440).toNat * (1 + 2 * n) ≤ 3000 := by
  have ea : a.fdiv 10080 = a / 10080 := Int.fdiv_eq_ediv_of_nonneg _ (by decide)
  have eb : b.fdiv 10080 = b / 10080 := Int.fdiv_eq_ediv_of_nonneg _ (by decide)
  have ec : a.fdiv 1440 = a / 1440 := Int.fdiv_eq_ediv_of_nonneg _ (by decide)
  have ed : b.fdiv 1440 = b / 1440 := Int.fdiv_eq_ediv_of_nonneg _ (by decide)
  constructor
  · exact Nat.le_trans (Nat.mul_le_mul (show (b.fdiv 10080 + 1 - a.fdiv 10080).toNat ≤ 11 by omega) (show 15 * n ≤ 195 by omega)) (by decide)
  · exact Nat.le_trans (Nat.mul_le_mul (show (b.fdiv 1440 + 1 - a.fdiv 1440).toNat ≤ 62 by omega) (show 1 + 2 * n ≤ 27 by omega)) (by decide)
theorem StrAt.solid {C : Addr} {H H' : Hp} {p : Addr} {a b : Int} (h : StrAt C H p a b) (s : Solid H H') : StrAt C H' p a b := by
  obtain ⟨dx, e⟩ := h
  exact ⟨dx, s _ _ ⟨fun _ z => (by cases z), fun _ z => (by cases z)⟩ e⟩
theorem tabs_upd {TT : List (Addr × Str)} {H : Hp} {F : Addr} {xs : List V} {o : HO} (hF : H F = some (.lst xs)) (t : Tabs TT H) : Tabs TT (upd H F o) := tabs_lst hF (fun b o n e => by rw [upd_ne n]; exact e) t
theorem ok_law : FnOkG P w K mg base CX0 30 T.flaw T.fdlaw ["_law_script"] (spLawT K (TT T)) := by
  have rule6 : Ev K mg base → FnOk P w K mg base CX0 9 T.f_law_rule T.fd_law_rule ["_law_tape_here", "_law_deep"] (spAny 6 spRule) := fun _ => ok_any fun d _ => ok_law_rule T d
  have object6 : Ev K mg base → FnOk P w K mg base CX0 9 T.f_law_object T.fd_law_object ["_law_told_rule"] (spObj T 6) := fun _ => ok_law_object T 6
  have allowed6 : Ev K mg base → FnOk P w K mg base CX0 18 T.fallowed_in T.fdallowed_in ["rule", "within"] (spAllowedIn T 6) := fun _ => okallowed_in T 6
  refine okG T.Flaw scLaw (fun vs H Q E h => ?_) (fun cdv A outer s H vs Q E gd hr h => ?_)
  · obtain ⟨a, ns, rfl, _⟩ := h
    rfl
  · obtain ⟨a, ns, rfl, hS, hlen, tb, q⟩ := h
    refine ⟨_,
      (pss_cons (ps_set (i := 1) scLaw.nd rfl (.inl rfl) (pe_call (ok_law_tape T) (hr.mono (by decide)) (by rfl) T.g_law_tape T.F_law_tape.kp T.b_law_tape .nil pass0 (pa_cons (pv 0) pa_nil)))
      (pss_cons (ps_set (i := 2) scLaw.nd rfl (.inl rfl) (pe_call (ok_law_draw T) (hr.mono (by decide)) (by rfl) T.g_law_draw T.F_law_draw.kp T.b_law_draw .nil pass0 (pa_cons (pv 1) (pa_cons pe_int pa_nil))))
      (pss_cut (ps_if (PW.pt (pw_or (PW.pt (pw_and (pt_cmpR op_eq (pv 2) pe_int (nomark _)) (pw_and1 (pt_not (pt_val (pe_call (ok_law_wide_right T) (hr.mono (by decide)) (by rfl) T.g_law_wide_right T.F_law_wide_right.kp T.b_law_wide_right .nil pass0 (pa_cons (pv 1) pa_nil))))))) (pw_or1 (PW.pt (pw_and (pt_cmpR op_eq (pv 2) pe_int (nomark _)) (pw_and1 (pt_not (pt_val (pe_call (ok_law_deep_right T) (hr.mono (by decide)) (by rfl) T.g_law_deep_right T.F_law_deep_right.kp T.b_law_deep_right .nil pass0 (pa_cons (pv 1) pa_nil))))))))))
      (pss_one (ps_ret pe_bl))
      pss_nil)
      (pss_cons (ps_for PassesOwn.never rfl (pi_range1 (by rfl) T.mrange (pa_cons (pe_callB (call_max2 rfl) (by rfl) T.mmax (by decide +kernel) (pa_cons pe_int (pa_cons (pe_callB (call_min2 rfl) (by rfl) T.mmin (by decide +kernel) (pa_cons (pe_callB call_len_seq (by rfl) T.mlen PySem.boot_len (pa_cons (pv 0) pa_nil)) (pa_cons pe_int pa_nil))) pa_nil))) pa_nil)) (pg_name (i := 3) scLaw.nd rfl (.inl rfl))
      (pss_cons (ps_set (i := 4) scLaw.nd rfl (.inl rfl) (pe_call (rule6 T) (hr.mono (by decide)) (by rfl) T.g_law_rule T.F_law_rule.kp T.b_law_rule .nil pass0 (pa_cons (pv 1) (pa_cons pe_int pa_nil))))
      (pss_cons (ps_set (i := 5) scLaw.nd rfl (.inl rfl) (pe_call (object6 T) (hr.mono (by decide)) (by rfl) T.g_law_object T.F_law_object.kp T.b_law_object .nil pass0 (pa_cons (pv 4) pa_nil)))
      (pss_cons (ps_set (i := 6) scLaw.nd rfl (.inl rfl) (pe_call (ok_law_pick T) (hr.mono (by decide)) (by rfl) T.g_law_pick T.F_law_pick.kp T.b_law_pick .nil pass0 (pa_cons (pv 1) (pa_cons (pe_lst (pa_cons pe_int (pa_cons (pe_call (ok_law_draw T) (hr.mono (by decide)) (by rfl) T.g_law_draw T.F_law_draw.kp T.b_law_draw .nil pass0 (pa_cons (pv 1) (pa_cons (pe_op op_mul pe_int (pe_op op_pow pe_int pe_int)) pa_nil))) (pa_cons (pe_op op_mul pe_int (pe_call (ok_law_draw T) (hr.mono (by decide)) (by rfl) T.g_law_draw T.F_law_draw.kp T.b_law_draw .nil pass0 (pa_cons (pv 1) (pa_cons pe_int pa_nil)))) pa_nil)))) pa_nil))))
      (pss_cons (ps_set (i := 7) scLaw.nd rfl (.inl rfl) (pe_call (ok_law_pick T) (hr.mono (by decide)) (by rfl) T.g_law_pick T.F_law_pick.kp T.b_law_pick .nil pass0 (pa_cons (pv 1) (pa_cons (pe_lst (pa_cons pe_int (pa_cons pe_int (pa_cons (pe_call (ok_law_draw T) (hr.mono (by decide)) (by rfl) T.g_law_draw T.F_law_draw.kp T.b_law_draw .nil pass0 (pa_cons (pv 1) (pa_cons pe_int pa_nil))) (pa_cons (pe_call (ok_law_draw T) (hr.mono (by decide)) (by rfl) T.g_law_draw T.F_law_draw.kp T.b_law_draw .nil pass0 (pa_cons (pv 1) (pa_cons pe_int pa_nil))) (pa_cons pe_int pa_nil)))))) pa_nil))))
      (pss_cons (ps_set (i := 8) scLaw.nd rfl (.inl rfl) (pe_makeN (mk_Stretch T) (okStretch___init__ T) (hr.mono (by decide)) (by rfl) T.gCStretch (kb_Stretch___init___3 T).choose_spec pass0 (pa_cons (pv 6) (pa_cons (pe_op op_add (pv 6) (pv 7)) pa_nil)) pk_nil))
      (pss_cons (ps_set (i := 9) scLaw.nd rfl (.inl rfl) (pe_call (ok_law_pieces T) (hr.mono (by decide)) (by rfl) T.g_law_pieces T.F_law_pieces.kp T.b_law_pieces .nil pass0 (pa_cons (pv 4) (pa_cons (pv 6) (pa_cons (pe_op op_add (pv 6) (pv 7)) pa_nil)))))
      (pss_cons (ps_set (i := 10) scLaw.nd rfl (.inl rfl) (pe_call (allowed6 T) (hr.mono (by decide)) (by rfl) T.gallowed_in T.Fallowed_in.kp T.ballowed_in .nil pass0 (pa_cons (pv 5) (pa_cons (pv 8) pa_nil))))
      (pss_cons (ps_if (pt_not (pt_val (pe_call (ok_law_is T) (hr.mono (by decide)) (by rfl) T.g_law_is T.F_law_is.kp T.b_law_is .nil pass0 (pa_cons (pv 10) (pa_cons (pv 9) pa_nil)))))
      (pss_one (ps_ret pe_bl))
      pss_nil)
      (pss_cons (ps_expr (pe_bm PySem.F.plainAttrs_list PySem.F.slot_list_append PySem.F.type_list_append mt_append (pv 10) (pa_cons (pv 8) pa_nil)))
      (pss_cons (ps_expr (pe_bm0 PySem.F.plainAttrs_list PySem.F.slot_list_reverse PySem.F.type_list_reverse mt_reverse (pv 10)))
      (pss_cons (ps_set (i := 11) scLaw.nd rfl (.inl rfl) (pe_makeN (mk_Stretch T) (okStretch___init__ T) (hr.mono (by decide)) (by rfl) T.gCStretch (kb_Stretch___init___3 T).choose_spec pass0 (pa_cons (pe_op op_add (pv 6) pe_int) (pa_cons (pe_op op_add (pe_op op_add (pv 6) pe_int) (pv 7)) pa_nil)) pk_nil))
      (pss_cons (ps_if (pt_not (pt_val (pe_call (ok_law_is T) (hr.mono (by decide)) (by rfl) T.g_law_is T.F_law_is.kp T.b_law_is .nil pass0 (pa_cons (pe_callN0 (allowed6 T) (hr.mono (by decide)) (by rfl) T.gallowed_in T.Fallowed_in.kp (kb_allowed_in_0_within_rule T) pass0 (pk_cons (pv 11) (pk_cons (pv 5) pk_nil))) (pa_cons (pe_call (ok_law_pieces T) (hr.mono (by decide)) (by rfl) T.g_law_pieces T.F_law_pieces.kp T.b_law_pieces .nil pass0 (pa_cons (pv 4) (pa_cons (pe_op op_add (pv 6) pe_int) (pa_cons (pe_op op_add (pe_op op_add (pv 6) pe_int) (pv 7)) pa_nil)))) pa_nil)))))
      (pss_one (ps_ret pe_bl))
      pss_nil)
      (pss_cons (ps_set (i := 12) scLaw.nd rfl (.inl rfl) (pe_call (rule6 T) (hr.mono (by decide)) (by rfl) T.g_law_rule T.F_law_rule.kp T.b_law_rule .nil pass0 (pa_cons (pv 1) (pa_cons pe_int pa_nil))))
      (pss_cons (ps_if (pt_not (pt_val (pe_call (ok_law_is T) (hr.mono (by decide)) (by rfl) T.g_law_is T.F_law_is.kp T.b_law_is .nil pass0 (pa_cons (pe_call (allowed6 T) (hr.mono (by decide)) (by rfl) T.gallowed_in T.Fallowed_in.kp T.ballowed_in .nil pass0 (pa_cons (pe_call (object6 T) (hr.mono (by decide)) (by rfl) T.g_law_object T.F_law_object.kp T.b_law_object .nil pass0 (pa_cons (pv 12) pa_nil)) (pa_cons (pv 8) pa_nil))) (pa_cons (pe_call (ok_law_pieces T) (hr.mono (by decide)) (by rfl) T.g_law_pieces T.F_law_pieces.kp T.b_law_pieces .nil pass0 (pa_cons (pv 12) (pa_cons (pv 6) (pa_cons (pe_op op_add (pv 6) (pv 7)) pa_nil)))) pa_nil)))))
      (pss_one (ps_ret pe_bl))
      pss_nil)
      (pss_one (ps_if (PW.pt (pw_or (pt_not (pt_val (pe_call (ok_law_is T) (hr.mono (by decide)) (by rfl) T.g_law_is T.F_law_is.kp T.b_law_is .nil pass0 (pa_cons (pe_call (allowed6 T) (hr.mono (by decide)) (by rfl) T.gallowed_in T.Fallowed_in.kp T.ballowed_in .nil pass0 (pa_cons (pv 5) (pa_cons (pv 8) pa_nil))) (pa_cons (pv 9) pa_nil))))) (pw_or1 (pt_cmpR (op_neY (mt_Stretch___eq__ T).at_ (mt_Stretch___eq__ T).fn T.hmStretch T.neStretch (okStretch___eq__ T) T.bStretch___eq__ (hr.mono (by decide)) pass0) (pv 8) (pe_makeN (mk_Stretch T) (okStretch___init__ T) (hr.mono (by decide)) (by rfl) T.gCStretch (kb_Stretch___init___3 T).choose_spec pass0 (pa_cons (pv 6) (pa_cons (pe_op op_add (pv 6) (pv 7)) pa_nil)) pk_nil) (nomark _)))))
      (pss_one (ps_ret pe_bl))
      pss_nil)))))))))))))))))
      (pss_one (ps_ret pe_bl))))))
      , ?_⟩
    walk_at "s"
    refine ⟨a, ns, rfl, hS, hlen, fun tp c H1 n1 n2 s01 T1 => ?_⟩
    walk_at "s"
    refine dr 5 T1 (by omega) (by omega) (by omega) fun way H2 _ _ T2 k2 => ?_
    have tb2 := T1.tabs k2 (tb.ext s01)
    have sq2 := (sqL_same hS s01)
    walk_at "s"
    refine ⟨fun σ H' => σ = [some (.ref a), some (.ref tp), some (.int way), none, none, none, none, none, none, none, none, none, none] ∧ Tape H' tp c 70001 ∧ Tabs (TT T) H' ∧ KeepN tp H H', ?_, ?_⟩
    · have kn2 : KeepN tp H H2 := (sameN s01).trans k2.n
      have fin : ∀ H3, Tape H3 tp c (0 + 1 + 70000) → Tabs (TT T) H3 → KeepN tp H2 H3 → Tape H3 tp c 70001 ∧ Tabs (TT T) H3 ∧ KeepN tp H H3 := fun H3 T3 tb3 k3 => ⟨T3.mono (by omega), tb3, kn2.trans k3⟩
      walk_at "s"
      refine ite2 (fun c0 => ?_) (fun c0 => ?_)
      · have w0 := V.int.inj (of_decide_eq_true c0)
        subst w0
        walk_at "s"
        refine ⟨tp, c, _, rfl, by omega, T2, tb2, fun H3 T3 tb3 k3 => ?_⟩
        walk_at "s"
        exact (fin H3 T3 tb3 k3).2.2
      · walk_at "s"
        refine ite2 (fun c1 => ?_) (fun c1 => ?_)
        · walk_at "s"
          refine ⟨tp, c, _, rfl, by omega, T2, tb2, fun H3 T3 tb3 k3 => ?_⟩
          walk_at "s"
          exact (fin H3 T3 tb3 k3).2.2
        · walk_at "s"
          exact ⟨T2.mono (by omega), tb2, kn2⟩
    · rintro σ H3 ⟨rfl, T3, tb3, k3⟩
      walk_at "s"
      refine ⟨a, _, rfl, .inl (sqL_keepN hS n1 k3), ?_⟩
      walk_at "s"
      rw [List.length_map]
      obtain ⟨top, hlo8, hlo2, et⟩ := if_top8 (n := (ns.length : Int))
      rw [et]
      refine for_range (lo := 0) (n := top.toNat) (fun i σ H' => ∃ (w3 w4 w5 w6 w7 w8 w9 w10 w11 w12 : Option V), σ = [some (.ref a), some (.ref tp), some (.int way), w3, w4, w5, w6, w7, w8, w9, w10, w11, w12] ∧ Tape H' tp c (70001 + 2000 * i) ∧ Tabs (TT T) H')
        ⟨_, _, _, _, _, _, _, _, _, _, rfl, T3, tb3⟩ ?_ ?_
      · rintro i σ H4 hi ⟨w3, w4, w5, w6, w7, w8, w9, w10, w11, w12, rfl, T4, tb4⟩
        have e3 : rcost 3 = 1024 := rfl
        have e2 : rcost 2 = 256 := rfl
        walk_at "s"
        refine ⟨3, by decide, tp, c, _, rfl, by decide, by omega, T4, fun v1 r1 H5 hv1 hf1 hn1 T5 k5 => ?_⟩
        walk_at "s"
        refine ⟨v1, r1, rfl, hv1.up.up.up, fun x1 H6 hx1 s6 => ?_⟩
        walk_at "s"
        refine dr (9 * (10 : Int) ^ Int.toNat 8) (T5.same s6) (by decide) (by decide) (by omega) fun d1 H7 d10 d11 T7 k7 => ?_
        walk_at "s"
        refine dr 600 T7 (by omega) (by omega) (by omega) fun d2 H8 d20 d21 T8 k8 => ?_
        walk_at "s"
        intro p hp
        walk_at "s"
        refine pkn T8 (by exact Nat.le_of_ble_eq_true rfl) (by exact Nat.le_of_ble_eq_true rfl) (by omega) (fun x H9 hx T9 k9 => ?_) p hp
        have e9 : 9 * (10 : Int) ^ Int.toNat 8 = 900000000 := by decide
        rw [e9] at d11
        obtain ⟨f, rfl, f0, f1⟩ : ∃ f : Int, x = .int f ∧ 0 ≤ f ∧ f ≤ 900000000 := by
          simp only [List.mem_cons, List.not_mem_nil, or_false] at hx
          rcases hx with rfl | rfl | rfl
          · exact ⟨_, rfl, by omega, by omega⟩
          · exact ⟨_, rfl, by omega, by omega⟩
          · exact ⟨_, rfl, by omega, by omega⟩
        have k69 := (k7.trans k8).trans k9
        clear k7 k8 k9
        walk_at "s"
        refine dr 1441 T9 (by omega) (by omega) (by omega) fun d3 H10 d30 d31 T10 k10 => ?_
        walk_at "s"
        refine dr 6000 T10 (by omega) (by omega) (by omega) fun d4 H11 d40 d41 T11 k11 => ?_
        walk_at "s"
        intro p hp
        walk_at "s"
        refine pkn T11 (by exact Nat.le_of_ble_eq_true rfl) (by exact Nat.le_of_ble_eq_true rfl) (by omega) (fun x H12 hx T12 k12 => ?_) p hp
        obtain ⟨g, rfl, g0, g1⟩ : ∃ g : Int, x = .int g ∧ 0 ≤ g ∧ g ≤ 86400 := by
          simp only [List.mem_cons, List.not_mem_nil, or_false] at hx
          rcases hx with rfl | rfl | rfl | rfl | rfl <;> exact ⟨_, rfl, by omega, by omega⟩
        have k612 := ((k69.trans k10).trans k11).trans k12
        clear k69 k10 k11 k12
        have T6 := T5.same s6
        have hv12 := (hv1.same s6).keep T6 k612
        have hx12 := hx1.keep T T6 k612
        have tb12 := T6.tabs k612 ((T4.tabs k5 tb4).ext s6)
        clear T6 k612 hx1 hv1
        walk_at "s"
        refine mkStr (a := f) (b := f + g) (y := .int (f + g)) (.inl rfl) (by omega) fun o H13 ho0 ho s13 => ?_
        walk_at "s"
        have hn : r1.nodes ≤ 13 := by rw [show 3 ^ 3 = 27 from rfl] at hn1; omega
        have co := law_costs (a := f) (b := f + g) (n := r1.nodes) f0 (by omega) (by omega) hn
        refine ⟨v1, f, f + g, r1, rfl, (hv12.same s13).up.up.up, hf1, by omega, f0, by omega, co.2, by omega, fun l zs H14 s14 hl el hzs => ?_⟩
        walk_at "s"
        have s1214 := s13.trans s14
        have T14 := T12.same s1214
        have tb14 := tb12.ext s1214
        have hv14 := hv12.same s1214
        have hx14 := hx12.same T s1214
        have ho14 := ho.same s14
        have nlt : l ≠ tp := (T12.same s13).ne hl
        have nlc : l ≠ c := (T12.same s13).nec hl
        clear s13 s14 s1214 hl hv12 hx12 tb12 ho ho0
        refine ⟨x1, o, r1, f, f + g, rfl, hx14, Nat.le_refl _, hf1, by omega, ho14, by omega, f0, by omega, by omega, tb14, fun l2 ys H15 s15 hl2 el2 hys => ?_⟩
        have af := allowedP_facts (r := r1) (a := f) (b := f + g) hf1 f0 (by omega) co.1
        walk_at "s"
        refine ⟨l2, l, ys, zs, _, rfl, el2, hys, s15.at el, hzs.mono (solid_sm s15), af.1, af.2, fun H16 s16 => ?_⟩
        have e16 := s16 _ _ el2
        have el16 := s16 _ _ (s15.at el)
        have n2l : l2 ≠ l := fun z => by rw [z, el] at hl2; cases hl2
        have n2t : l2 ≠ tp := T14.ne hl2
        have n2c : l2 ≠ c := T14.nec hl2
        have hyl := hys.len
        have hJ := af.1
        walk_at "s"
        refine And.intro (.inl ⟨rfl, _, SqL.of e16⟩) ?_
        walk_at "s"
        refine ⟨l2, _, _, rfl, rfl, e16, lt_line (by omega), ?_⟩
        walk_at "s"
        refine And.intro (.inl ⟨rfl, _, SqL.of upd_same⟩) ?_
        refine ⟨l2, _, rfl, rfl, upd_same, ?_⟩
        have so17 : Solid H14 (upd (upd H16 l2 (.lst (ys ++ [V.ref o]))) l2 (.lst (ys ++ [V.ref o]).reverse)) := solid_trans (solid_trans (solid_trans (solid_sm s15) (solid_same s16)) (solid_upd e16)) (solid_upd upd_same)
        have T17 : Tape (upd (upd H16 l2 (.lst (ys ++ [V.ref o]))) l2 (.lst (ys ++ [V.ref o]).reverse)) tp c _ := (((T14.sm s15).same s16).upd n2t n2c).upd n2t n2c
        have tb17 : Tabs (TT T) (upd (upd H16 l2 (.lst (ys ++ [V.ref o]))) l2 (.lst (ys ++ [V.ref o]).reverse)) := tabs_upd upd_same (tabs_upd e16 ((s15.2.1 tb14).ext s16))
        have el17 : (upd (upd H16 l2 (.lst (ys ++ [V.ref o]))) l2 (.lst (ys ++ [V.ref o]).reverse)) l = some (.lst zs) := by rw [upd_ne n2l.symm, upd_ne n2l.symm]; exact el16
        generalize upd (upd H16 l2 (.lst (ys ++ [V.ref o]))) l2 (.lst (ys ++ [V.ref o]).reverse) = H17 at so17 T17 tb17 el17 ⊢
        walk_at "s"
        refine mkStr (a := f + 1) (b := f + 1 + g) (y := .int (f + 1 + g)) (.inl rfl) (by omega) fun o2 H18 ho20 ho2 s18 => ?_
        walk_at "s"
        have so18 := solid_trans so17 (solid_same s18)
        have T18 := T17.same s18
        have tb18 := tb17.ext s18
        have el18 := s18 _ _ el17
        have co2 := law_costs (a := f + 1) (b := f + 1 + g) (n := r1.nodes) (by omega) (by omega) (by omega) hn
        have af2 := allowedP_facts (r := r1) (a := f + 1) (b := f + 1 + g) hf1 (by omega) (by omega) co2.1
        refine ⟨x1, o2, r1, f + 1, f + 1 + g, rfl, hx14.mono T so18, Nat.le_refl _, hf1, by omega, ho2, by omega, by omega, by omega, by omega, tb18, fun l3 ys3 H19 s19 hl3 el3 hys3 => ?_⟩
        walk_at "s"
        refine ⟨v1, f + 1, f + 1 + g, r1, rfl, (hv14.mono (solid_trans so18 (solid_sm s19))).up.up.up, hf1, by omega, by omega, by omega, co2.2, by omega, fun l4 zs4 H20 s20 hl4 el4 hzs4 => ?_⟩
        walk_at "s"
        refine ⟨l3, l4, ys3, zs4, _, rfl, s20 _ _ el3, hys3.same s20, el4, hzs4, af2.1, af2.2, fun H21 s21 => ?_⟩
        have so21 := solid_trans so18 (solid_trans (solid_sm s19) (solid_same (s20.trans s21)))
        have T21 := (T18.sm s19).same (s20.trans s21)
        have tb21 := (s19.2.1 tb18).ext (s20.trans s21)
        have el21 := (s20.trans s21) _ _ (s19.at el18)
        walk_at "s"
        refine ⟨2, by decide, tp, c, _, rfl, by decide, by omega, T21, fun v2 r2 H22 hv2 hf2 hn2 T22 k22 => ?_⟩
        walk_at "s"
        have so22 := solid_trans so21 (T21.tape.elim fun _ e => solid_keep e k22)
        have tb22 := T21.tabs k22 tb21
        have el22 := k22 _ _ nlt el21
        refine ⟨v2, r2, rfl, hv2.up.up.up.up, fun x2 H23 hx2 s23 => ?_⟩
        walk_at "s"
        have hnn : r2.nodes ≤ 13 := by rw [show 3 ^ 2 = 9 from rfl] at hn2; omega
        have co3 := law_costs (a := f) (b := f + g) (n := r2.nodes) (by omega) (by omega) (by omega) hnn
        have af3 := allowedP_facts (r := r2) (a := f) (b := f + g) hf2 (by omega) (by omega) co3.1
        refine ⟨x2, o, r2, f, f + g, rfl, hx2, Nat.le_refl _, hf2, by omega, ho14.solid (solid_trans so22 (solid_same s23)), by omega, by omega, by omega, by omega, tb22.ext s23, fun l5 ys5 H24 s24 hl5 el5 hys5 => ?_⟩
        walk_at "s"
        refine ⟨v2, f, f + g, r2, rfl, (hv2.mono (solid_trans (solid_same s23) (solid_sm s24))).up.up.up.up, hf2, by omega, by omega, by omega, co3.2, by omega, fun l6 zs6 H25 s25 hl6 el6 hzs6 => ?_⟩
        walk_at "s"
        refine ⟨l5, l6, ys5, zs6, _, rfl, s25 _ _ el5, hys5.same s25, el6, hzs6, af3.1, af3.2, fun H26 s26 => ?_⟩
        have so26 := solid_trans (solid_trans so22 (solid_same s23)) (solid_trans (solid_sm s24) (solid_same (s25.trans s26)))
        have T26 := ((T22.same s23).sm s24).same (s25.trans s26)
        have tb26 := (s24.2.1 (tb22.ext s23)).ext (s25.trans s26)
        have el26 := (s25.trans s26) _ _ (s24.at (s23 _ _ el22))
        walk_at "s"
        refine ⟨x1, o, r1, f, f + g, rfl, hx14.mono T so26, Nat.le_refl _, hf1, by omega, ho14.solid so26, by omega, by omega, by omega, by omega, tb26, fun l7 ys7 H27 s27 hl7 el7 hys7 => ?_⟩
        walk_at "s"
        have so27 := solid_trans so26 (solid_sm s27)
        refine ⟨l7, l, ys7, zs, _, rfl, el7, hys7, s27.at el26, hzs.mono so27, af.1, af.2, fun H28 s28 => ?_⟩
        walk_at "s"
        refine mkStr (a := f) (b := f + g) (y := .int (f + g)) (.inl rfl) (by omega) fun o3 H29 ho30 ho3 s29 => ?_
        walk_at "s"
        refine neStr T (ho14.solid (solid_trans so27 (solid_same (s28.trans s29)))) ho3 ?_
        walk_at "s"
        exact ⟨_, _, _, _, _, _, _, _, _, _, rfl, ((T26.sm s27).same (s28.trans s29)).mono (by omega), (s27.2.1 tb26).ext (s28.trans s29)⟩
      · rintro σ H4 _
        walk_at "s"
        exact q H4
end
set_option maxHeartbeats 0 in
theorem all_mk {l : PySem.W.OpenLaw} {w : World} {K : PySem.W.Frag} {h : Heap} {mg : Str → Option Value} {fa f_wall fshow_time fmeet fjoined fgaps f_in_weeks f_where f_some_or_rest f_where_alone f_hours_of fallowed_in f_law_tape f_law_draw f_law_pick f_law_rule f_law_wide f_law_object f_law_allows f_law_clocks f_law_pieces f_law_is f_law_wide_right f_law_deep_right flaw fRule_allows fHours___init__ fHours___eq__ fHours___str__ fHours_allows fDays___init__ fDays___eq__ fDays___str__ fDays_allows fUnless___init__ fUnless___eq__ fUnless___str__ fUnless_allows fBoth___init__ fBoth___eq__ fBoth___str__ fBoth_allows fEither___init__ fEither___eq__ fEither___str__ fEither_allows fStretch___init__ fStretch___eq__ fStretch___len__ fStretch___str__ fStretch___repr__ fWeek___init__ fWeek_soonest fWeek_allowed_within fNoStretch___init__ CRule CHours CDays CUnless CBoth CEither CStretch CWeek CNoStretch TStretch___init__ Tjoined : Addr} (X : K.In h) (G : h.Ns mainGlobals mg) (hfa : mg "law" = some (.ref fa))
    {od_wall an_wall odshow_time anshow_time odmeet anmeet odjoined anjoined odgaps angaps od_in_weeks an_in_weeks od_where an_where od_some_or_rest an_some_or_rest od_where_alone an_where_alone od_hours_of an_hours_of odallowed_in anallowed_in od_law_tape an_law_tape od_law_draw an_law_draw od_law_pick an_law_pick od_law_rule an_law_rule od_law_wide an_law_wide od_law_object an_law_object od_law_allows an_law_allows od_law_clocks an_law_clocks od_law_pieces an_law_pieces od_law_is an_law_is od_law_wide_right an_law_wide_right od_law_deep_right an_law_deep_right odlaw anlaw odRule_allows anRule_allows odHours___init__ anHours___init__ odHours___eq__ anHours___eq__ odHours___str__ anHours___str__ odHours_allows anHours_allows odDays___init__ anDays___init__ odDays___eq__ anDays___eq__ odDays___str__ anDays___str__ odDays_allows anDays_allows odUnless___init__ anUnless___init__ odUnless___eq__ anUnless___eq__ odUnless___str__ anUnless___str__ odUnless_allows anUnless_allows odBoth___init__ anBoth___init__ odBoth___eq__ anBoth___eq__ odBoth___str__ anBoth___str__ odBoth_allows anBoth_allows odEither___init__ anEither___init__ odEither___eq__ anEither___eq__ odEither___str__ anEither___str__ odEither_allows anEither_allows odStretch___init__ anStretch___init__ odStretch___eq__ anStretch___eq__ odStretch___len__ anStretch___len__ odStretch___str__ anStretch___str__ odStretch___repr__ anStretch___repr__ odWeek___init__ anWeek___init__ odWeek_soonest anWeek_soonest odWeek_allowed_within anWeek_allowed_within odNoStretch___init__ anNoStretch___init__ odTStretch___init__ odTjoined : Option Addr} {sl_wall slshow_time slmeet sljoined slgaps sl_in_weeks sl_where sl_some_or_rest sl_where_alone sl_hours_of slallowed_in sl_law_tape sl_law_draw sl_law_pick sl_law_rule sl_law_wide sl_law_object sl_law_allows sl_law_clocks sl_law_pieces sl_law_is sl_law_wide_right sl_law_deep_right sllaw slRule_allows slHours___init__ slHours___eq__ slHours___str__ slHours_allows slDays___init__ slDays___eq__ slDays___str__ slDays_allows slUnless___init__ slUnless___eq__ slUnless___str__ slUnless_allows slBoth___init__ slBoth___eq__ slBoth___str__ slBoth_allows slEither___init__ slEither___eq__ slEither___str__ slEither_allows slStretch___init__ slStretch___eq__ slStretch___len__ slStretch___str__ slStretch___repr__ slWeek___init__ slWeek_soonest slWeek_allowed_within slNoStretch___init__ slTStretch___init__ slTjoined : Array (Option Value)} {oc_wall kV_wall dc_wall pm_wall cd_wall ct_wall ocshow_time kVshow_time dcshow_time pmshow_time cdshow_time ctshow_time ocmeet kVmeet dcmeet pmmeet cdmeet ctmeet ocjoined kVjoined dcjoined pmjoined ctjoined ocgaps kVgaps dcgaps pmgaps cdgaps ctgaps oc_in_weeks kV_in_weeks dc_in_weeks pm_in_weeks cd_in_weeks ct_in_weeks oc_where kV_where dc_where pm_where cd_where ct_where oc_some_or_rest kV_some_or_rest dc_some_or_rest pm_some_or_rest cd_some_or_rest ct_some_or_rest oc_where_alone kV_where_alone dc_where_alone pm_where_alone cd_where_alone ct_where_alone oc_hours_of kV_hours_of dc_hours_of pm_hours_of cd_hours_of ct_hours_of ocallowed_in kVallowed_in dcallowed_in pmallowed_in cdallowed_in ctallowed_in oc_law_tape kV_law_tape dc_law_tape pm_law_tape cd_law_tape ct_law_tape oc_law_draw kV_law_draw dc_law_draw pm_law_draw cd_law_draw ct_law_draw oc_law_pick kV_law_pick dc_law_pick pm_law_pick cd_law_pick ct_law_pick oc_law_rule kV_law_rule dc_law_rule pm_law_rule cd_law_rule ct_law_rule oc_law_wide kV_law_wide dc_law_wide pm_law_wide cd_law_wide ct_law_wide oc_law_object kV_law_object dc_law_object pm_law_object cd_law_object ct_law_object oc_law_allows kV_law_allows dc_law_allows pm_law_allows cd_law_allows ct_law_allows oc_law_clocks kV_law_clocks dc_law_clocks pm_law_clocks cd_law_clocks ct_law_clocks oc_law_pieces kV_law_pieces dc_law_pieces pm_law_pieces cd_law_pieces ct_law_pieces oc_law_is kV_law_is dc_law_is pm_law_is cd_law_is ct_law_is oc_law_wide_right kV_law_wide_right dc_law_wide_right pm_law_wide_right cd_law_wide_right ct_law_wide_right oc_law_deep_right kV_law_deep_right dc_law_deep_right pm_law_deep_right cd_law_deep_right ct_law_deep_right oclaw kVlaw dclaw pmlaw cdlaw ctlaw ocRule_allows kVRule_allows dcRule_allows pmRule_allows cdRule_allows ctRule_allows ocHours___init__ kVHours___init__ dcHours___init__ pmHours___init__ cdHours___init__ ctHours___init__ ocHours___eq__ kVHours___eq__ dcHours___eq__ pmHours___eq__ cdHours___eq__ ctHours___eq__ ocHours___str__ kVHours___str__ dcHours___str__ pmHours___str__ cdHours___str__ ctHours___str__ ocHours_allows kVHours_allows dcHours_allows pmHours_allows cdHours_allows ctHours_allows ocDays___init__ kVDays___init__ dcDays___init__ pmDays___init__ cdDays___init__ ctDays___init__ ocDays___eq__ kVDays___eq__ dcDays___eq__ pmDays___eq__ cdDays___eq__ ctDays___eq__ ocDays___str__ kVDays___str__ dcDays___str__ pmDays___str__ cdDays___str__ ctDays___str__ ocDays_allows kVDays_allows dcDays_allows pmDays_allows cdDays_allows ctDays_allows ocUnless___init__ kVUnless___init__ dcUnless___init__ pmUnless___init__ cdUnless___init__ ctUnless___init__ ocUnless___eq__ kVUnless___eq__ dcUnless___eq__ pmUnless___eq__ cdUnless___eq__ ctUnless___eq__ ocUnless___str__ kVUnless___str__ dcUnless___str__ pmUnless___str__ cdUnless___str__ ctUnless___str__ ocUnless_allows kVUnless_allows dcUnless_allows pmUnless_allows cdUnless_allows ctUnless_allows ocBoth___init__ kVBoth___init__ dcBoth___init__ pmBoth___init__ cdBoth___init__ ctBoth___init__ ocBoth___eq__ kVBoth___eq__ dcBoth___eq__ pmBoth___eq__ cdBoth___eq__ ctBoth___eq__ ocBoth___str__ kVBoth___str__ dcBoth___str__ pmBoth___str__ cdBoth___str__ ctBoth___str__ ocBoth_allows kVBoth_allows dcBoth_allows pmBoth_allows cdBoth_allows ctBoth_allows ocEither___init__ kVEither___init__ dcEither___init__ pmEither___init__ cdEither___init__ ctEither___init__ ocEither___eq__ kVEither___eq__ dcEither___eq__ pmEither___eq__ cdEither___eq__ ctEither___eq__ ocEither___str__ kVEither___str__ dcEither___str__ pmEither___str__ cdEither___str__ ctEither___str__ ocEither_allows kVEither_allows dcEither_allows pmEither_allows cdEither_allows ctEither_allows ocStretch___init__ kVStretch___init__ dcStretch___init__ pmStretch___init__ cdStretch___init__ ctStretch___init__ ocStretch___eq__ kVStretch___eq__ dcStretch___eq__ pmStretch___eq__ cdStretch___eq__ ctStretch___eq__ ocStretch___len__ kVStretch___len__ dcStretch___len__ pmStretch___len__ cdStretch___len__ ctStretch___len__ ocStretch___str__ kVStretch___str__ dcStretch___str__ pmStretch___str__ cdStretch___str__ ctStretch___str__ ocStretch___repr__ kVStretch___repr__ dcStretch___repr__ pmStretch___repr__ cdStretch___repr__ ctStretch___repr__ ocWeek___init__ kVWeek___init__ dcWeek___init__ pmWeek___init__ cdWeek___init__ ctWeek___init__ ocWeek_soonest kVWeek_soonest dcWeek_soonest pmWeek_soonest cdWeek_soonest ctWeek_soonest ocWeek_allowed_within kVWeek_allowed_within dcWeek_allowed_within pmWeek_allowed_within cdWeek_allowed_within ctWeek_allowed_within ocNoStretch___init__ kVNoStretch___init__ dcNoStretch___init__ pmNoStretch___init__ cdNoStretch___init__ ctNoStretch___init__ ocTStretch___init__ ocTjoined : Value} {nTStretch___init__ nTjoined : Nat} {tdjoined_0 : Tok} {ts : List Addr} {ccjoined cpjoined : Addr} {xojoined : Value} {xdjoined : Option Addr} {xvjoined : Array Value} {xsjoined : Array (Option Value)} {nmNoStretch qNoStretch : Str} {NNoStretch : Addr} {bsNoStretch : List Value} {snNoStretch : List Str} {subNoStretch : List Value} {abNoStretch : Bool} {colNoStretch : Option Bool} {ddNoStretch : Option Addr} {p0NoStretch p1NoStretch p2NoStretch p3NoStretch p5NoStretch : Option Value} {tDAY tHOUR tWEEK tMINUTES tWEEKS_AHEAD : Tok}
    (aNoStretch : PySem.W.nsIn K mainGlobals "NoStretch" = some (some (.ref CNoStretch)))
    (xlNoStretch : K.lookup CNoStretch = some (excClassObj nmNoStretch qNoStretch CNoStretch NNoStretch bsNoStretch [.type "ArithmeticError", .type "Exception", .type "BaseException", .type "object"] true snNoStretch subNoStretch abNoStretch colNoStretch ddNoStretch p0NoStretch p1NoStretch p2NoStretch p3NoStretch p5NoStretch "ArithmeticError.__new__"))
    (hdNoStretch : PySem.W.hasDictIn K CNoStretch = true) (saNoStretch : PySem.W.findIn K (.ref CNoStretch) "__setattr__" = some (some (.builtin "object.__setattr__"))) (exNoStretch : PySem.W.subIn K (.ref CNoStretch) (.type "BaseException") = some true) (tyNoStretch : PySem.W.typeIn K (.ref CNoStretch) = some (.type "type")) (kcNoStretch : PySem.W.keepIn K (.ref CNoStretch) = true) (icNoStretch : PySem.W.isClsIn K CNoStretch = true) (seNoStretch : PySem.W.subIn K (.ref CNoStretch) (.ref CNoStretch) = some true) (upNoStretch : PySem.W.subIn K (.ref CNoStretch) (.type "ArithmeticError") = some true)
    (gaNoStretch : PySem.W.findIn K (.ref CNoStretch) "__getattribute__" = some (some (.builtin "BaseException.__getattribute__"))) (ggNoStretch : PySem.W.findIn K (.ref CNoStretch) "__getattr__" = some none) (haNoStretch : PySem.W.findIn K (.ref CNoStretch) "__class__" = some (some (.builtin "object.__class__"))) (hnNoStretch : PySem.W.specialIn K (.builtin "object.__class__") "__get__" = some (some (.builtin "getset_descriptor.__get__"))) (htNoStretch : PySem.W.takesIn K (.builtin "object.__class__") = some true) (hmNoStretch : PySem.W.mroIn K CNoStretch (.type "object") = some true)
    (nNoStretch_first : PySem.W.findIn K (.ref CNoStretch) "first" = some none)
    (nNoStretch_behind : PySem.W.findIn K (.ref CNoStretch) "behind" = some none)
    (aRule : PySem.W.nsIn K mainGlobals "Rule" = some (some (.ref CRule))) (pgRule : PySem.W.plainGet K CRule Str.empty = true) (hdRule : PySem.W.hasDictIn K CRule = true) (poRule : PySem.W.plainOver K CRule = true) (saRule : PySem.W.findIn K (.ref CRule) "__setattr__" = some (some (.builtin "object.__setattr__"))) (mkRule : PySem.W.makesIn K CRule = true) (kcRule : PySem.W.keepIn K (.ref CRule) = true)
    (haRule : PySem.W.findIn K (.ref CRule) "__class__" = some (some (.builtin "object.__class__"))) (hnRule : PySem.W.specialIn K (.builtin "object.__class__") "__get__" = some (some (.builtin "getset_descriptor.__get__"))) (htRule : PySem.W.takesIn K (.builtin "object.__class__") = some true) (hmRule : PySem.W.mroIn K CRule (.type "object") = some true) (nfRule : PySem.W.notFirst K CRule (.ref CRule) = true)
    (aRule_allows : PySem.W.findIn K (.ref CRule) "allows" = some (some (.ref fRule_allows))) (iRule_allows : PySem.W.isFn K (.ref fRule_allows) = true) (lRule_allows : K.lookup fRule_allows = some ⟨ocRule_allows, odRule_allows, .func (PySem.W.fnOf "allows" "Rule.allows" (defArgs sRuleAllows) (defBody sRuleAllows) (defScope sRuleAllows) .none kVRule_allows dcRule_allows pmRule_allows anRule_allows cdRule_allows ctRule_allows), slRule_allows⟩) (cRule_allows : PySem.W.codeIn K cdRule_allows "Rule.allows" = true) (kRule_allows : PySem.W.keepIn K (.ref fRule_allows) = true)
    (aHours : PySem.W.nsIn K mainGlobals "Hours" = some (some (.ref CHours))) (pgHours : PySem.W.plainGet K CHours Str.empty = true) (hdHours : PySem.W.hasDictIn K CHours = true) (poHours : PySem.W.plainOver K CHours = true) (saHours : PySem.W.findIn K (.ref CHours) "__setattr__" = some (some (.builtin "object.__setattr__"))) (mkHours : PySem.W.makesIn K CHours = true) (kcHours : PySem.W.keepIn K (.ref CHours) = true)
    (haHours : PySem.W.findIn K (.ref CHours) "__class__" = some (some (.builtin "object.__class__"))) (hnHours : PySem.W.specialIn K (.builtin "object.__class__") "__get__" = some (some (.builtin "getset_descriptor.__get__"))) (htHours : PySem.W.takesIn K (.builtin "object.__class__") = some true) (hmHours : PySem.W.mroIn K CHours (.type "object") = some true) (nfHours : PySem.W.notFirst K CHours (.ref CHours) = true)
    (nHours_first : PySem.W.findIn K (.ref CHours) "first" = some none)
    (nHours_behind : PySem.W.findIn K (.ref CHours) "behind" = some none)
    (aHours___init__ : PySem.W.findIn K (.ref CHours) "__init__" = some (some (.ref fHours___init__))) (iHours___init__ : PySem.W.isFn K (.ref fHours___init__) = true) (lHours___init__ : K.lookup fHours___init__ = some ⟨ocHours___init__, odHours___init__, .func (PySem.W.fnOf "__init__" "Hours.__init__" (defArgs sHoursInit) (defBody sHoursInit) (defScope sHoursInit) .none kVHours___init__ dcHours___init__ pmHours___init__ anHours___init__ cdHours___init__ ctHours___init__), slHours___init__⟩) (cHours___init__ : PySem.W.codeIn K cdHours___init__ "Hours.__init__" = true) (kHours___init__ : PySem.W.keepIn K (.ref fHours___init__) = true)
    (aHours___eq__ : PySem.W.findIn K (.ref CHours) "__eq__" = some (some (.ref fHours___eq__))) (iHours___eq__ : PySem.W.isFn K (.ref fHours___eq__) = true) (lHours___eq__ : K.lookup fHours___eq__ = some ⟨ocHours___eq__, odHours___eq__, .func (PySem.W.fnOf "__eq__" "Hours.__eq__" (defArgs sHoursEq) (defBody sHoursEq) (defScope sHoursEq) .none kVHours___eq__ dcHours___eq__ pmHours___eq__ anHours___eq__ cdHours___eq__ ctHours___eq__), slHours___eq__⟩) (cHours___eq__ : PySem.W.codeIn K cdHours___eq__ "Hours.__eq__" = true) (kHours___eq__ : PySem.W.keepIn K (.ref fHours___eq__) = true)
    (aHours___str__ : PySem.W.findIn K (.ref CHours) "__str__" = some (some (.ref fHours___str__))) (iHours___str__ : PySem.W.isFn K (.ref fHours___str__) = true) (lHours___str__ : K.lookup fHours___str__ = some ⟨ocHours___str__, odHours___str__, .func (PySem.W.fnOf "__str__" "Hours.__str__" (defArgs sHoursStr) (defBody sHoursStr) (defScope sHoursStr) .none kVHours___str__ dcHours___str__ pmHours___str__ anHours___str__ cdHours___str__ ctHours___str__), slHours___str__⟩) (cHours___str__ : PySem.W.codeIn K cdHours___str__ "Hours.__str__" = true) (kHours___str__ : PySem.W.keepIn K (.ref fHours___str__) = true)
    (aHours_allows : PySem.W.findIn K (.ref CHours) "allows" = some (some (.ref fHours_allows))) (iHours_allows : PySem.W.isFn K (.ref fHours_allows) = true) (lHours_allows : K.lookup fHours_allows = some ⟨ocHours_allows, odHours_allows, .func (PySem.W.fnOf "allows" "Hours.allows" (defArgs sHoursAllows) (defBody sHoursAllows) (defScope sHoursAllows) .none kVHours_allows dcHours_allows pmHours_allows anHours_allows cdHours_allows ctHours_allows), slHours_allows⟩) (cHours_allows : PySem.W.codeIn K cdHours_allows "Hours.allows" = true) (kHours_allows : PySem.W.keepIn K (.ref fHours_allows) = true)
    (aDays : PySem.W.nsIn K mainGlobals "Days" = some (some (.ref CDays))) (pgDays : PySem.W.plainGet K CDays Str.empty = true) (hdDays : PySem.W.hasDictIn K CDays = true) (poDays : PySem.W.plainOver K CDays = true) (saDays : PySem.W.findIn K (.ref CDays) "__setattr__" = some (some (.builtin "object.__setattr__"))) (mkDays : PySem.W.makesIn K CDays = true) (kcDays : PySem.W.keepIn K (.ref CDays) = true)
    (haDays : PySem.W.findIn K (.ref CDays) "__class__" = some (some (.builtin "object.__class__"))) (hnDays : PySem.W.specialIn K (.builtin "object.__class__") "__get__" = some (some (.builtin "getset_descriptor.__get__"))) (htDays : PySem.W.takesIn K (.builtin "object.__class__") = some true) (hmDays : PySem.W.mroIn K CDays (.type "object") = some true) (nfDays : PySem.W.notFirst K CDays (.ref CDays) = true)
    (nDays_days : PySem.W.findIn K (.ref CDays) "days" = some none)
    (aDays___init__ : PySem.W.findIn K (.ref CDays) "__init__" = some (some (.ref fDays___init__))) (iDays___init__ : PySem.W.isFn K (.ref fDays___init__) = true) (lDays___init__ : K.lookup fDays___init__ = some ⟨ocDays___init__, odDays___init__, .func (PySem.W.fnOf "__init__" "Days.__init__" (defArgs sDaysInit) (defBody sDaysInit) (defScope sDaysInit) .none kVDays___init__ dcDays___init__ pmDays___init__ anDays___init__ cdDays___init__ ctDays___init__), slDays___init__⟩) (cDays___init__ : PySem.W.codeIn K cdDays___init__ "Days.__init__" = true) (kDays___init__ : PySem.W.keepIn K (.ref fDays___init__) = true)
    (aDays___eq__ : PySem.W.findIn K (.ref CDays) "__eq__" = some (some (.ref fDays___eq__))) (iDays___eq__ : PySem.W.isFn K (.ref fDays___eq__) = true) (lDays___eq__ : K.lookup fDays___eq__ = some ⟨ocDays___eq__, odDays___eq__, .func (PySem.W.fnOf "__eq__" "Days.__eq__" (defArgs sDaysEq) (defBody sDaysEq) (defScope sDaysEq) .none kVDays___eq__ dcDays___eq__ pmDays___eq__ anDays___eq__ cdDays___eq__ ctDays___eq__), slDays___eq__⟩) (cDays___eq__ : PySem.W.codeIn K cdDays___eq__ "Days.__eq__" = true) (kDays___eq__ : PySem.W.keepIn K (.ref fDays___eq__) = true)
    (aDays___str__ : PySem.W.findIn K (.ref CDays) "__str__" = some (some (.ref fDays___str__))) (iDays___str__ : PySem.W.isFn K (.ref fDays___str__) = true) (lDays___str__ : K.lookup fDays___str__ = some ⟨ocDays___str__, odDays___str__, .func (PySem.W.fnOf "__str__" "Days.__str__" (defArgs sDaysStr) (defBody sDaysStr) (defScope sDaysStr) .none kVDays___str__ dcDays___str__ pmDays___str__ anDays___str__ cdDays___str__ ctDays___str__), slDays___str__⟩) (cDays___str__ : PySem.W.codeIn K cdDays___str__ "Days.__str__" = true) (kDays___str__ : PySem.W.keepIn K (.ref fDays___str__) = true)
    (aDays_allows : PySem.W.findIn K (.ref CDays) "allows" = some (some (.ref fDays_allows))) (iDays_allows : PySem.W.isFn K (.ref fDays_allows) = true) (lDays_allows : K.lookup fDays_allows = some ⟨ocDays_allows, odDays_allows, .func (PySem.W.fnOf "allows" "Days.allows" (defArgs sDaysAllows) (defBody sDaysAllows) (defScope sDaysAllows) .none kVDays_allows dcDays_allows pmDays_allows anDays_allows cdDays_allows ctDays_allows), slDays_allows⟩) (cDays_allows : PySem.W.codeIn K cdDays_allows "Days.allows" = true) (kDays_allows : PySem.W.keepIn K (.ref fDays_allows) = true)
    (aUnless : PySem.W.nsIn K mainGlobals "Unless" = some (some (.ref CUnless))) (pgUnless : PySem.W.plainGet K CUnless Str.empty = true) (hdUnless : PySem.W.hasDictIn K CUnless = true) (poUnless : PySem.W.plainOver K CUnless = true) (saUnless : PySem.W.findIn K (.ref CUnless) "__setattr__" = some (some (.builtin "object.__setattr__"))) (mkUnless : PySem.W.makesIn K CUnless = true) (kcUnless : PySem.W.keepIn K (.ref CUnless) = true)
    (haUnless : PySem.W.findIn K (.ref CUnless) "__class__" = some (some (.builtin "object.__class__"))) (hnUnless : PySem.W.specialIn K (.builtin "object.__class__") "__get__" = some (some (.builtin "getset_descriptor.__get__"))) (htUnless : PySem.W.takesIn K (.builtin "object.__class__") = some true) (hmUnless : PySem.W.mroIn K CUnless (.type "object") = some true) (nfUnless : PySem.W.notFirst K CUnless (.ref CUnless) = true)
    (nUnless_rule : PySem.W.findIn K (.ref CUnless) "rule" = some none)
    (aUnless___init__ : PySem.W.findIn K (.ref CUnless) "__init__" = some (some (.ref fUnless___init__))) (iUnless___init__ : PySem.W.isFn K (.ref fUnless___init__) = true) (lUnless___init__ : K.lookup fUnless___init__ = some ⟨ocUnless___init__, odUnless___init__, .func (PySem.W.fnOf "__init__" "Unless.__init__" (defArgs sUnlessInit) (defBody sUnlessInit) (defScope sUnlessInit) .none kVUnless___init__ dcUnless___init__ pmUnless___init__ anUnless___init__ cdUnless___init__ ctUnless___init__), slUnless___init__⟩) (cUnless___init__ : PySem.W.codeIn K cdUnless___init__ "Unless.__init__" = true) (kUnless___init__ : PySem.W.keepIn K (.ref fUnless___init__) = true)
    (aUnless___eq__ : PySem.W.findIn K (.ref CUnless) "__eq__" = some (some (.ref fUnless___eq__))) (iUnless___eq__ : PySem.W.isFn K (.ref fUnless___eq__) = true) (lUnless___eq__ : K.lookup fUnless___eq__ = some ⟨ocUnless___eq__, odUnless___eq__, .func (PySem.W.fnOf "__eq__" "Unless.__eq__" (defArgs sUnlessEq) (defBody sUnlessEq) (defScope sUnlessEq) .none kVUnless___eq__ dcUnless___eq__ pmUnless___eq__ anUnless___eq__ cdUnless___eq__ ctUnless___eq__), slUnless___eq__⟩) (cUnless___eq__ : PySem.W.codeIn K cdUnless___eq__ "Unless.__eq__" = true) (kUnless___eq__ : PySem.W.keepIn K (.ref fUnless___eq__) = true)
    (aUnless___str__ : PySem.W.findIn K (.ref CUnless) "__str__" = some (some (.ref fUnless___str__))) (iUnless___str__ : PySem.W.isFn K (.ref fUnless___str__) = true) (lUnless___str__ : K.lookup fUnless___str__ = some ⟨ocUnless___str__, odUnless___str__, .func (PySem.W.fnOf "__str__" "Unless.__str__" (defArgs sUnlessStr) (defBody sUnlessStr) (defScope sUnlessStr) .none kVUnless___str__ dcUnless___str__ pmUnless___str__ anUnless___str__ cdUnless___str__ ctUnless___str__), slUnless___str__⟩) (cUnless___str__ : PySem.W.codeIn K cdUnless___str__ "Unless.__str__" = true) (kUnless___str__ : PySem.W.keepIn K (.ref fUnless___str__) = true)
    (aUnless_allows : PySem.W.findIn K (.ref CUnless) "allows" = some (some (.ref fUnless_allows))) (iUnless_allows : PySem.W.isFn K (.ref fUnless_allows) = true) (lUnless_allows : K.lookup fUnless_allows = some ⟨ocUnless_allows, odUnless_allows, .func (PySem.W.fnOf "allows" "Unless.allows" (defArgs sUnlessAllows) (defBody sUnlessAllows) (defScope sUnlessAllows) .none kVUnless_allows dcUnless_allows pmUnless_allows anUnless_allows cdUnless_allows ctUnless_allows), slUnless_allows⟩) (cUnless_allows : PySem.W.codeIn K cdUnless_allows "Unless.allows" = true) (kUnless_allows : PySem.W.keepIn K (.ref fUnless_allows) = true)
    (aBoth : PySem.W.nsIn K mainGlobals "Both" = some (some (.ref CBoth))) (pgBoth : PySem.W.plainGet K CBoth Str.empty = true) (hdBoth : PySem.W.hasDictIn K CBoth = true) (poBoth : PySem.W.plainOver K CBoth = true) (saBoth : PySem.W.findIn K (.ref CBoth) "__setattr__" = some (some (.builtin "object.__setattr__"))) (mkBoth : PySem.W.makesIn K CBoth = true) (kcBoth : PySem.W.keepIn K (.ref CBoth) = true)
    (haBoth : PySem.W.findIn K (.ref CBoth) "__class__" = some (some (.builtin "object.__class__"))) (hnBoth : PySem.W.specialIn K (.builtin "object.__class__") "__get__" = some (some (.builtin "getset_descriptor.__get__"))) (htBoth : PySem.W.takesIn K (.builtin "object.__class__") = some true) (hmBoth : PySem.W.mroIn K CBoth (.type "object") = some true) (nfBoth : PySem.W.notFirst K CBoth (.ref CBoth) = true)
    (nBoth_rules : PySem.W.findIn K (.ref CBoth) "rules" = some none)
    (aBoth___init__ : PySem.W.findIn K (.ref CBoth) "__init__" = some (some (.ref fBoth___init__))) (iBoth___init__ : PySem.W.isFn K (.ref fBoth___init__) = true) (lBoth___init__ : K.lookup fBoth___init__ = some ⟨ocBoth___init__, odBoth___init__, .func (PySem.W.fnOf "__init__" "Both.__init__" (defArgs sBothInit) (defBody sBothInit) (defScope sBothInit) .none kVBoth___init__ dcBoth___init__ pmBoth___init__ anBoth___init__ cdBoth___init__ ctBoth___init__), slBoth___init__⟩) (cBoth___init__ : PySem.W.codeIn K cdBoth___init__ "Both.__init__" = true) (kBoth___init__ : PySem.W.keepIn K (.ref fBoth___init__) = true)
    (aBoth___eq__ : PySem.W.findIn K (.ref CBoth) "__eq__" = some (some (.ref fBoth___eq__))) (iBoth___eq__ : PySem.W.isFn K (.ref fBoth___eq__) = true) (lBoth___eq__ : K.lookup fBoth___eq__ = some ⟨ocBoth___eq__, odBoth___eq__, .func (PySem.W.fnOf "__eq__" "Both.__eq__" (defArgs sBothEq) (defBody sBothEq) (defScope sBothEq) .none kVBoth___eq__ dcBoth___eq__ pmBoth___eq__ anBoth___eq__ cdBoth___eq__ ctBoth___eq__), slBoth___eq__⟩) (cBoth___eq__ : PySem.W.codeIn K cdBoth___eq__ "Both.__eq__" = true) (kBoth___eq__ : PySem.W.keepIn K (.ref fBoth___eq__) = true)
    (aBoth___str__ : PySem.W.findIn K (.ref CBoth) "__str__" = some (some (.ref fBoth___str__))) (iBoth___str__ : PySem.W.isFn K (.ref fBoth___str__) = true) (lBoth___str__ : K.lookup fBoth___str__ = some ⟨ocBoth___str__, odBoth___str__, .func (PySem.W.fnOf "__str__" "Both.__str__" (defArgs sBothStr) (defBody sBothStr) (defScope sBothStr) .none kVBoth___str__ dcBoth___str__ pmBoth___str__ anBoth___str__ cdBoth___str__ ctBoth___str__), slBoth___str__⟩) (cBoth___str__ : PySem.W.codeIn K cdBoth___str__ "Both.__str__" = true) (kBoth___str__ : PySem.W.keepIn K (.ref fBoth___str__) = true)
    (aBoth_allows : PySem.W.findIn K (.ref CBoth) "allows" = some (some (.ref fBoth_allows))) (iBoth_allows : PySem.W.isFn K (.ref fBoth_allows) = true) (lBoth_allows : K.lookup fBoth_allows = some ⟨ocBoth_allows, odBoth_allows, .func (PySem.W.fnOf "allows" "Both.allows" (defArgs sBothAllows) (defBody sBothAllows) (defScope sBothAllows) .none kVBoth_allows dcBoth_allows pmBoth_allows anBoth_allows cdBoth_allows ctBoth_allows), slBoth_allows⟩) (cBoth_allows : PySem.W.codeIn K cdBoth_allows "Both.allows" = true) (kBoth_allows : PySem.W.keepIn K (.ref fBoth_allows) = true)
    (aEither : PySem.W.nsIn K mainGlobals "Either" = some (some (.ref CEither))) (pgEither : PySem.W.plainGet K CEither Str.empty = true) (hdEither : PySem.W.hasDictIn K CEither = true) (poEither : PySem.W.plainOver K CEither = true) (saEither : PySem.W.findIn K (.ref CEither) "__setattr__" = some (some (.builtin "object.__setattr__"))) (mkEither : PySem.W.makesIn K CEither = true) (kcEither : PySem.W.keepIn K (.ref CEither) = true)
    (haEither : PySem.W.findIn K (.ref CEither) "__class__" = some (some (.builtin "object.__class__"))) (hnEither : PySem.W.specialIn K (.builtin "object.__class__") "__get__" = some (some (.builtin "getset_descriptor.__get__"))) (htEither : PySem.W.takesIn K (.builtin "object.__class__") = some true) (hmEither : PySem.W.mroIn K CEither (.type "object") = some true) (nfEither : PySem.W.notFirst K CEither (.ref CEither) = true)
    (nEither_rules : PySem.W.findIn K (.ref CEither) "rules" = some none)
    (aEither___init__ : PySem.W.findIn K (.ref CEither) "__init__" = some (some (.ref fEither___init__))) (iEither___init__ : PySem.W.isFn K (.ref fEither___init__) = true) (lEither___init__ : K.lookup fEither___init__ = some ⟨ocEither___init__, odEither___init__, .func (PySem.W.fnOf "__init__" "Either.__init__" (defArgs sEitherInit) (defBody sEitherInit) (defScope sEitherInit) .none kVEither___init__ dcEither___init__ pmEither___init__ anEither___init__ cdEither___init__ ctEither___init__), slEither___init__⟩) (cEither___init__ : PySem.W.codeIn K cdEither___init__ "Either.__init__" = true) (kEither___init__ : PySem.W.keepIn K (.ref fEither___init__) = true)
    (aEither___eq__ : PySem.W.findIn K (.ref CEither) "__eq__" = some (some (.ref fEither___eq__))) (iEither___eq__ : PySem.W.isFn K (.ref fEither___eq__) = true) (lEither___eq__ : K.lookup fEither___eq__ = some ⟨ocEither___eq__, odEither___eq__, .func (PySem.W.fnOf "__eq__" "Either.__eq__" (defArgs sEitherEq) (defBody sEitherEq) (defScope sEitherEq) .none kVEither___eq__ dcEither___eq__ pmEither___eq__ anEither___eq__ cdEither___eq__ ctEither___eq__), slEither___eq__⟩) (cEither___eq__ : PySem.W.codeIn K cdEither___eq__ "Either.__eq__" = true) (kEither___eq__ : PySem.W.keepIn K (.ref fEither___eq__) = true)
    (aEither___str__ : PySem.W.findIn K (.ref CEither) "__str__" = some (some (.ref fEither___str__))) (iEither___str__ : PySem.W.isFn K (.ref fEither___str__) = true) (lEither___str__ : K.lookup fEither___str__ = some ⟨ocEither___str__, odEither___str__, .func (PySem.W.fnOf "__str__" "Either.__str__" (defArgs sEitherStr) (defBody sEitherStr) (defScope sEitherStr) .none kVEither___str__ dcEither___str__ pmEither___str__ anEither___str__ cdEither___str__ ctEither___str__), slEither___str__⟩) (cEither___str__ : PySem.W.codeIn K cdEither___str__ "Either.__str__" = true) (kEither___str__ : PySem.W.keepIn K (.ref fEither___str__) = true)
    (aEither_allows : PySem.W.findIn K (.ref CEither) "allows" = some (some (.ref fEither_allows))) (iEither_allows : PySem.W.isFn K (.ref fEither_allows) = true) (lEither_allows : K.lookup fEither_allows = some ⟨ocEither_allows, odEither_allows, .func (PySem.W.fnOf "allows" "Either.allows" (defArgs sEitherAllows) (defBody sEitherAllows) (defScope sEitherAllows) .none kVEither_allows dcEither_allows pmEither_allows anEither_allows cdEither_allows ctEither_allows), slEither_allows⟩) (cEither_allows : PySem.W.codeIn K cdEither_allows "Either.allows" = true) (kEither_allows : PySem.W.keepIn K (.ref fEither_allows) = true)
    (aStretch : PySem.W.nsIn K mainGlobals "Stretch" = some (some (.ref CStretch))) (pgStretch : PySem.W.plainGet K CStretch Str.empty = true) (hdStretch : PySem.W.hasDictIn K CStretch = true) (poStretch : PySem.W.plainOver K CStretch = true) (saStretch : PySem.W.findIn K (.ref CStretch) "__setattr__" = some (some (.builtin "object.__setattr__"))) (mkStretch : PySem.W.makesIn K CStretch = true) (kcStretch : PySem.W.keepIn K (.ref CStretch) = true)
    (haStretch : PySem.W.findIn K (.ref CStretch) "__class__" = some (some (.builtin "object.__class__"))) (hnStretch : PySem.W.specialIn K (.builtin "object.__class__") "__get__" = some (some (.builtin "getset_descriptor.__get__"))) (htStretch : PySem.W.takesIn K (.builtin "object.__class__") = some true) (hmStretch : PySem.W.mroIn K CStretch (.type "object") = some true) (nfStretch : PySem.W.notFirst K CStretch (.ref CStretch) = true)
    (nStretch_first : PySem.W.findIn K (.ref CStretch) "first" = some none)
    (nStretch_behind : PySem.W.findIn K (.ref CStretch) "behind" = some none)
    (neStretch : PySem.W.findIn K (.ref CStretch) "__ne__" = some (some (.builtin "object.__ne__"))) (icStretch : PySem.W.isClsIn K CStretch = true) (tyStretch : PySem.W.typeIn K (.ref CStretch) = some (.type "type"))
    (subStretch_NoneType : PySem.W.subIn K (.ref CStretch) (.type "NoneType") = some false) (kitStretch_NoneType : PySem.W.subIn K (.type "NoneType") (.ref CStretch) = some false) (ntStretch_NoneType : PySem.W.notFirst K CStretch (.type "NoneType") = true)
    (subStretch_int : PySem.W.subIn K (.ref CStretch) (.type "int") = some false) (kitStretch_int : PySem.W.subIn K (.type "int") (.ref CStretch) = some false) (ntStretch_int : PySem.W.notFirst K CStretch (.type "int") = true)
    (subStretch_str : PySem.W.subIn K (.ref CStretch) (.type "str") = some false) (kitStretch_str : PySem.W.subIn K (.type "str") (.ref CStretch) = some false) (ntStretch_str : PySem.W.notFirst K CStretch (.type "str") = true)
    (subStretch_list : PySem.W.subIn K (.ref CStretch) (.type "list") = some false) (kitStretch_list : PySem.W.subIn K (.type "list") (.ref CStretch) = some false) (ntStretch_list : PySem.W.notFirst K CStretch (.type "list") = true)
    (subStretch_tuple : PySem.W.subIn K (.ref CStretch) (.type "tuple") = some false) (kitStretch_tuple : PySem.W.subIn K (.type "tuple") (.ref CStretch) = some false) (ntStretch_tuple : PySem.W.notFirst K CStretch (.type "tuple") = true)
    (subStretch_dict : PySem.W.subIn K (.ref CStretch) (.type "dict") = some false) (kitStretch_dict : PySem.W.subIn K (.type "dict") (.ref CStretch) = some false) (ntStretch_dict : PySem.W.notFirst K CStretch (.type "dict") = true)
    (aStretch___init__ : PySem.W.findIn K (.ref CStretch) "__init__" = some (some (.ref fStretch___init__))) (iStretch___init__ : PySem.W.isFn K (.ref fStretch___init__) = true) (lStretch___init__ : K.lookup fStretch___init__ = some ⟨ocStretch___init__, odStretch___init__, .func (PySem.W.fnOf "__init__" "Stretch.__init__" (defArgs sSInit) (defBody sSInit) (defScope sSInit) (.ref TStretch___init__) kVStretch___init__ dcStretch___init__ pmStretch___init__ anStretch___init__ cdStretch___init__ ctStretch___init__), slStretch___init__⟩) (cStretch___init__ : PySem.W.codeIn K cdStretch___init__ "Stretch.__init__" = true) (kStretch___init__ : PySem.W.keepIn K (.ref fStretch___init__) = true)
    (dStretch___init__ : K.lookup TStretch___init__ = some ⟨ocTStretch___init__, odTStretch___init__, .seq #[.none] nTStretch___init__, slTStretch___init__⟩)
    (aStretch___eq__ : PySem.W.findIn K (.ref CStretch) "__eq__" = some (some (.ref fStretch___eq__))) (iStretch___eq__ : PySem.W.isFn K (.ref fStretch___eq__) = true) (lStretch___eq__ : K.lookup fStretch___eq__ = some ⟨ocStretch___eq__, odStretch___eq__, .func (PySem.W.fnOf "__eq__" "Stretch.__eq__" (defArgs sSEq) (defBody sSEq) (defScope sSEq) .none kVStretch___eq__ dcStretch___eq__ pmStretch___eq__ anStretch___eq__ cdStretch___eq__ ctStretch___eq__), slStretch___eq__⟩) (cStretch___eq__ : PySem.W.codeIn K cdStretch___eq__ "Stretch.__eq__" = true) (kStretch___eq__ : PySem.W.keepIn K (.ref fStretch___eq__) = true)
    (aStretch___len__ : PySem.W.findIn K (.ref CStretch) "__len__" = some (some (.ref fStretch___len__))) (iStretch___len__ : PySem.W.isFn K (.ref fStretch___len__) = true) (lStretch___len__ : K.lookup fStretch___len__ = some ⟨ocStretch___len__, odStretch___len__, .func (PySem.W.fnOf "__len__" "Stretch.__len__" (defArgs sSLen) (defBody sSLen) (defScope sSLen) .none kVStretch___len__ dcStretch___len__ pmStretch___len__ anStretch___len__ cdStretch___len__ ctStretch___len__), slStretch___len__⟩) (cStretch___len__ : PySem.W.codeIn K cdStretch___len__ "Stretch.__len__" = true) (kStretch___len__ : PySem.W.keepIn K (.ref fStretch___len__) = true)
    (aStretch___str__ : PySem.W.findIn K (.ref CStretch) "__str__" = some (some (.ref fStretch___str__))) (iStretch___str__ : PySem.W.isFn K (.ref fStretch___str__) = true) (lStretch___str__ : K.lookup fStretch___str__ = some ⟨ocStretch___str__, odStretch___str__, .func (PySem.W.fnOf "__str__" "Stretch.__str__" (defArgs sSStr) (defBody sSStr) (defScope sSStr) .none kVStretch___str__ dcStretch___str__ pmStretch___str__ anStretch___str__ cdStretch___str__ ctStretch___str__), slStretch___str__⟩) (cStretch___str__ : PySem.W.codeIn K cdStretch___str__ "Stretch.__str__" = true) (kStretch___str__ : PySem.W.keepIn K (.ref fStretch___str__) = true)
    (aStretch___repr__ : PySem.W.findIn K (.ref CStretch) "__repr__" = some (some (.ref fStretch___repr__))) (iStretch___repr__ : PySem.W.isFn K (.ref fStretch___repr__) = true) (lStretch___repr__ : K.lookup fStretch___repr__ = some ⟨ocStretch___repr__, odStretch___repr__, .func (PySem.W.fnOf "__repr__" "Stretch.__repr__" (defArgs sSRepr) (defBody sSRepr) (defScope sSRepr) .none kVStretch___repr__ dcStretch___repr__ pmStretch___repr__ anStretch___repr__ cdStretch___repr__ ctStretch___repr__), slStretch___repr__⟩) (cStretch___repr__ : PySem.W.codeIn K cdStretch___repr__ "Stretch.__repr__" = true) (kStretch___repr__ : PySem.W.keepIn K (.ref fStretch___repr__) = true)
    (aWeek : PySem.W.nsIn K mainGlobals "Week" = some (some (.ref CWeek))) (pgWeek : PySem.W.plainGet K CWeek Str.empty = true) (hdWeek : PySem.W.hasDictIn K CWeek = true) (poWeek : PySem.W.plainOver K CWeek = true) (saWeek : PySem.W.findIn K (.ref CWeek) "__setattr__" = some (some (.builtin "object.__setattr__"))) (mkWeek : PySem.W.makesIn K CWeek = true) (kcWeek : PySem.W.keepIn K (.ref CWeek) = true)
    (haWeek : PySem.W.findIn K (.ref CWeek) "__class__" = some (some (.builtin "object.__class__"))) (hnWeek : PySem.W.specialIn K (.builtin "object.__class__") "__get__" = some (some (.builtin "getset_descriptor.__get__"))) (htWeek : PySem.W.takesIn K (.builtin "object.__class__") = some true) (hmWeek : PySem.W.mroIn K CWeek (.type "object") = some true) (nfWeek : PySem.W.notFirst K CWeek (.ref CWeek) = true)
    (nWeek__allowed : PySem.W.findIn K (.ref CWeek) "_allowed" = some none)
    (nWeek__runs : PySem.W.findIn K (.ref CWeek) "_runs" = some none)
    (aWeek___init__ : PySem.W.findIn K (.ref CWeek) "__init__" = some (some (.ref fWeek___init__))) (iWeek___init__ : PySem.W.isFn K (.ref fWeek___init__) = true) (lWeek___init__ : K.lookup fWeek___init__ = some ⟨ocWeek___init__, odWeek___init__, .func (PySem.W.fnOf "__init__" "Week.__init__" (defArgs sWeekInit) (defBody sWeekInit) (defScope sWeekInit) .none kVWeek___init__ dcWeek___init__ pmWeek___init__ anWeek___init__ cdWeek___init__ ctWeek___init__), slWeek___init__⟩) (cWeek___init__ : PySem.W.codeIn K cdWeek___init__ "Week.__init__" = true) (kWeek___init__ : PySem.W.keepIn K (.ref fWeek___init__) = true)
    (aWeek_soonest : PySem.W.findIn K (.ref CWeek) "soonest" = some (some (.ref fWeek_soonest))) (iWeek_soonest : PySem.W.isFn K (.ref fWeek_soonest) = true) (lWeek_soonest : K.lookup fWeek_soonest = some ⟨ocWeek_soonest, odWeek_soonest, .func (PySem.W.fnOf "soonest" "Week.soonest" (defArgs sWeekSoonest) (defBody sWeekSoonest) (defScope sWeekSoonest) .none kVWeek_soonest dcWeek_soonest pmWeek_soonest anWeek_soonest cdWeek_soonest ctWeek_soonest), slWeek_soonest⟩) (cWeek_soonest : PySem.W.codeIn K cdWeek_soonest "Week.soonest" = true) (kWeek_soonest : PySem.W.keepIn K (.ref fWeek_soonest) = true)
    (aWeek_allowed_within : PySem.W.findIn K (.ref CWeek) "allowed_within" = some (some (.ref fWeek_allowed_within))) (iWeek_allowed_within : PySem.W.isFn K (.ref fWeek_allowed_within) = true) (lWeek_allowed_within : K.lookup fWeek_allowed_within = some ⟨ocWeek_allowed_within, odWeek_allowed_within, .func (PySem.W.fnOf "allowed_within" "Week.allowed_within" (defArgs sWeekAllowedWithin) (defBody sWeekAllowedWithin) (defScope sWeekAllowedWithin) .none kVWeek_allowed_within dcWeek_allowed_within pmWeek_allowed_within anWeek_allowed_within cdWeek_allowed_within ctWeek_allowed_within), slWeek_allowed_within⟩) (cWeek_allowed_within : PySem.W.codeIn K cdWeek_allowed_within "Week.allowed_within" = true) (kWeek_allowed_within : PySem.W.keepIn K (.ref fWeek_allowed_within) = true)
    (aNoStretch___init__ : PySem.W.findIn K (.ref CNoStretch) "__init__" = some (some (.ref fNoStretch___init__))) (iNoStretch___init__ : PySem.W.isFn K (.ref fNoStretch___init__) = true) (lNoStretch___init__ : K.lookup fNoStretch___init__ = some ⟨ocNoStretch___init__, odNoStretch___init__, .func (PySem.W.fnOf "__init__" "NoStretch.__init__" (defArgs sNInit) (defBody sNInit) (defScope sNInit) .none kVNoStretch___init__ dcNoStretch___init__ pmNoStretch___init__ anNoStretch___init__ cdNoStretch___init__ ctNoStretch___init__), slNoStretch___init__⟩) (cNoStretch___init__ : PySem.W.codeIn K cdNoStretch___init__ "NoStretch.__init__" = true) (kNoStretch___init__ : PySem.W.keepIn K (.ref fNoStretch___init__) = true)
    (icBoth : PySem.W.isClsIn K CBoth = true) (tyBoth : PySem.W.typeIn K (.ref CBoth) = some (.type "type"))
    (icDays : PySem.W.isClsIn K CDays = true) (tyDays : PySem.W.typeIn K (.ref CDays) = some (.type "type"))
    (icEither : PySem.W.isClsIn K CEither = true) (tyEither : PySem.W.typeIn K (.ref CEither) = some (.type "type"))
    (icHours : PySem.W.isClsIn K CHours = true) (tyHours : PySem.W.typeIn K (.ref CHours) = some (.type "type"))
    (icUnless : PySem.W.isClsIn K CUnless = true) (tyUnless : PySem.W.typeIn K (.ref CUnless) = some (.type "type"))
    (seBoth : PySem.W.subIn K (.ref CBoth) (.ref CBoth) = some true)
    (seDays : PySem.W.subIn K (.ref CDays) (.ref CDays) = some true)
    (seEither : PySem.W.subIn K (.ref CEither) (.ref CEither) = some true)
    (seHours : PySem.W.subIn K (.ref CHours) (.ref CHours) = some true)
    (noHours_Unless : PySem.W.subIn K (.ref CHours) (.ref CUnless) = some false)
    (noHours_Both : PySem.W.subIn K (.ref CHours) (.ref CBoth) = some false)
    (noHours_Either : PySem.W.subIn K (.ref CHours) (.ref CEither) = some false)
    (noHours_Days : PySem.W.subIn K (.ref CHours) (.ref CDays) = some false)
    (noDays_Unless : PySem.W.subIn K (.ref CDays) (.ref CUnless) = some false)
    (noDays_Both : PySem.W.subIn K (.ref CDays) (.ref CBoth) = some false)
    (noDays_Either : PySem.W.subIn K (.ref CDays) (.ref CEither) = some false)
    (noBoth_Unless : PySem.W.subIn K (.ref CBoth) (.ref CUnless) = some false)
    (noEither_Unless : PySem.W.subIn K (.ref CEither) (.ref CUnless) = some false)
    (noEither_Both : PySem.W.subIn K (.ref CEither) (.ref CBoth) = some false)
    (a_wall : PySem.W.nsIn K mainGlobals "_wall" = some (some (.ref f_wall))) (l_wall : K.lookup f_wall = some ⟨oc_wall, od_wall, .func (PySem.W.fnOf "_wall" "_wall" (defArgs sWall) (defBody sWall) (defScope sWall) .none kV_wall dc_wall pm_wall an_wall cd_wall ct_wall), sl_wall⟩) (c_wall : PySem.W.codeIn K cd_wall "_wall" = true) (k_wall : PySem.W.keepIn K (.ref f_wall) = true)
    (ashow_time : PySem.W.nsIn K mainGlobals "show_time" = some (some (.ref fshow_time))) (lshow_time : K.lookup fshow_time = some ⟨ocshow_time, odshow_time, .func (PySem.W.fnOf "show_time" "show_time" (defArgs sShow) (defBody sShow) (defScope sShow) .none kVshow_time dcshow_time pmshow_time anshow_time cdshow_time ctshow_time), slshow_time⟩) (cshow_time : PySem.W.codeIn K cdshow_time "show_time" = true) (kshow_time : PySem.W.keepIn K (.ref fshow_time) = true)
    (ameet : PySem.W.nsIn K mainGlobals "meet" = some (some (.ref fmeet))) (lmeet : K.lookup fmeet = some ⟨ocmeet, odmeet, .func (PySem.W.fnOf "meet" "meet" (defArgs sMeet) (defBody sMeet) (defScope sMeet) .none kVmeet dcmeet pmmeet anmeet cdmeet ctmeet), slmeet⟩) (cmeet : PySem.W.codeIn K cdmeet "meet" = true) (kmeet : PySem.W.keepIn K (.ref fmeet) = true)
    (ajoined : PySem.W.nsIn K mainGlobals "joined" = some (some (.ref fjoined))) (ljoined : K.lookup fjoined = some ⟨ocjoined, odjoined, .func (PySem.W.fnOf "joined" "joined" (defArgs sJoined) (defBody sJoined) (defScope sJoined) (.ref Tjoined) kVjoined dcjoined pmjoined anjoined (.ref ccjoined) ctjoined), sljoined⟩) (cjoined : PySem.W.codeIn K (.ref ccjoined) "joined" = true) (kjoined : PySem.W.keepIn K (.ref fjoined) = true)
    (xljoined : K.lookup ccjoined = some ⟨xojoined, xdjoined, .fields xvjoined, xsjoined⟩) (xpjoined : (xvjoined[11]? : Option Value) = some (.ref cpjoined)) (tljoined : K.lookup cpjoined = none) (hcjoined : PySem.W.codeHdIn K ccjoined cpjoined = true) (mpjoined : cpjoined ∈ ts)
    (djoined : K.lookup Tjoined = some ⟨ocTjoined, odTjoined, .seq #[.int 0 tdjoined_0] nTjoined, slTjoined⟩)
    (agaps : PySem.W.nsIn K mainGlobals "gaps" = some (some (.ref fgaps))) (lgaps : K.lookup fgaps = some ⟨ocgaps, odgaps, .func (PySem.W.fnOf "gaps" "gaps" (defArgs sGaps) (defBody sGaps) (defScope sGaps) .none kVgaps dcgaps pmgaps angaps cdgaps ctgaps), slgaps⟩) (cgaps : PySem.W.codeIn K cdgaps "gaps" = true) (kgaps : PySem.W.keepIn K (.ref fgaps) = true)
    (a_in_weeks : PySem.W.nsIn K mainGlobals "_in_weeks" = some (some (.ref f_in_weeks))) (l_in_weeks : K.lookup f_in_weeks = some ⟨oc_in_weeks, od_in_weeks, .func (PySem.W.fnOf "_in_weeks" "_in_weeks" (defArgs sInWeeks) (defBody sInWeeks) (defScope sInWeeks) .none kV_in_weeks dc_in_weeks pm_in_weeks an_in_weeks cd_in_weeks ct_in_weeks), sl_in_weeks⟩) (c_in_weeks : PySem.W.codeIn K cd_in_weeks "_in_weeks" = true) (k_in_weeks : PySem.W.keepIn K (.ref f_in_weeks) = true)
    (a_where : PySem.W.nsIn K mainGlobals "_where" = some (some (.ref f_where))) (l_where : K.lookup f_where = some ⟨oc_where, od_where, .func (PySem.W.fnOf "_where" "_where" (defArgs sWhere) (defBody sWhere) (defScope sWhere) .none kV_where dc_where pm_where an_where cd_where ct_where), sl_where⟩) (c_where : PySem.W.codeIn K cd_where "_where" = true) (k_where : PySem.W.keepIn K (.ref f_where) = true)
    (a_some_or_rest : PySem.W.nsIn K mainGlobals "_some_or_rest" = some (some (.ref f_some_or_rest))) (l_some_or_rest : K.lookup f_some_or_rest = some ⟨oc_some_or_rest, od_some_or_rest, .func (PySem.W.fnOf "_some_or_rest" "_some_or_rest" (defArgs sSomeOrRest) (defBody sSomeOrRest) (defScope sSomeOrRest) .none kV_some_or_rest dc_some_or_rest pm_some_or_rest an_some_or_rest cd_some_or_rest ct_some_or_rest), sl_some_or_rest⟩) (c_some_or_rest : PySem.W.codeIn K cd_some_or_rest "_some_or_rest" = true) (k_some_or_rest : PySem.W.keepIn K (.ref f_some_or_rest) = true)
    (a_where_alone : PySem.W.nsIn K mainGlobals "_where_alone" = some (some (.ref f_where_alone))) (l_where_alone : K.lookup f_where_alone = some ⟨oc_where_alone, od_where_alone, .func (PySem.W.fnOf "_where_alone" "_where_alone" (defArgs sWhereAlone) (defBody sWhereAlone) (defScope sWhereAlone) .none kV_where_alone dc_where_alone pm_where_alone an_where_alone cd_where_alone ct_where_alone), sl_where_alone⟩) (c_where_alone : PySem.W.codeIn K cd_where_alone "_where_alone" = true) (k_where_alone : PySem.W.keepIn K (.ref f_where_alone) = true)
    (a_hours_of : PySem.W.nsIn K mainGlobals "_hours_of" = some (some (.ref f_hours_of))) (l_hours_of : K.lookup f_hours_of = some ⟨oc_hours_of, od_hours_of, .func (PySem.W.fnOf "_hours_of" "_hours_of" (defArgs sHoursOf) (defBody sHoursOf) (defScope sHoursOf) .none kV_hours_of dc_hours_of pm_hours_of an_hours_of cd_hours_of ct_hours_of), sl_hours_of⟩) (c_hours_of : PySem.W.codeIn K cd_hours_of "_hours_of" = true) (k_hours_of : PySem.W.keepIn K (.ref f_hours_of) = true)
    (aallowed_in : PySem.W.nsIn K mainGlobals "allowed_in" = some (some (.ref fallowed_in))) (lallowed_in : K.lookup fallowed_in = some ⟨ocallowed_in, odallowed_in, .func (PySem.W.fnOf "allowed_in" "allowed_in" (defArgs sAllowedIn) (defBody sAllowedIn) (defScope sAllowedIn) .none kVallowed_in dcallowed_in pmallowed_in anallowed_in cdallowed_in ctallowed_in), slallowed_in⟩) (callowed_in : PySem.W.codeIn K cdallowed_in "allowed_in" = true) (kallowed_in : PySem.W.keepIn K (.ref fallowed_in) = true)
    (a_law_tape : PySem.W.nsIn K mainGlobals "_law_tape" = some (some (.ref f_law_tape))) (l_law_tape : K.lookup f_law_tape = some ⟨oc_law_tape, od_law_tape, .func (PySem.W.fnOf "_law_tape" "_law_tape" (defArgs sTape) (defBody sTape) (defScope sTape) .none kV_law_tape dc_law_tape pm_law_tape an_law_tape cd_law_tape ct_law_tape), sl_law_tape⟩) (c_law_tape : PySem.W.codeIn K cd_law_tape "_law_tape" = true) (k_law_tape : PySem.W.keepIn K (.ref f_law_tape) = true)
    (a_law_draw : PySem.W.nsIn K mainGlobals "_law_draw" = some (some (.ref f_law_draw))) (l_law_draw : K.lookup f_law_draw = some ⟨oc_law_draw, od_law_draw, .func (PySem.W.fnOf "_law_draw" "_law_draw" (defArgs sDraw) (defBody sDraw) (defScope sDraw) .none kV_law_draw dc_law_draw pm_law_draw an_law_draw cd_law_draw ct_law_draw), sl_law_draw⟩) (c_law_draw : PySem.W.codeIn K cd_law_draw "_law_draw" = true) (k_law_draw : PySem.W.keepIn K (.ref f_law_draw) = true)
    (a_law_pick : PySem.W.nsIn K mainGlobals "_law_pick" = some (some (.ref f_law_pick))) (l_law_pick : K.lookup f_law_pick = some ⟨oc_law_pick, od_law_pick, .func (PySem.W.fnOf "_law_pick" "_law_pick" (defArgs sPick) (defBody sPick) (defScope sPick) .none kV_law_pick dc_law_pick pm_law_pick an_law_pick cd_law_pick ct_law_pick), sl_law_pick⟩) (c_law_pick : PySem.W.codeIn K cd_law_pick "_law_pick" = true) (k_law_pick : PySem.W.keepIn K (.ref f_law_pick) = true)
    (a_law_rule : PySem.W.nsIn K mainGlobals "_law_rule" = some (some (.ref f_law_rule))) (l_law_rule : K.lookup f_law_rule = some ⟨oc_law_rule, od_law_rule, .func (PySem.W.fnOf "_law_rule" "_law_rule" (defArgs sRule) (defBody sRule) (defScope sRule) .none kV_law_rule dc_law_rule pm_law_rule an_law_rule cd_law_rule ct_law_rule), sl_law_rule⟩) (c_law_rule : PySem.W.codeIn K cd_law_rule "_law_rule" = true) (k_law_rule : PySem.W.keepIn K (.ref f_law_rule) = true)
    (a_law_wide : PySem.W.nsIn K mainGlobals "_law_wide" = some (some (.ref f_law_wide))) (l_law_wide : K.lookup f_law_wide = some ⟨oc_law_wide, od_law_wide, .func (PySem.W.fnOf "_law_wide" "_law_wide" (defArgs sWide) (defBody sWide) (defScope sWide) .none kV_law_wide dc_law_wide pm_law_wide an_law_wide cd_law_wide ct_law_wide), sl_law_wide⟩) (c_law_wide : PySem.W.codeIn K cd_law_wide "_law_wide" = true) (k_law_wide : PySem.W.keepIn K (.ref f_law_wide) = true)
    (a_law_object : PySem.W.nsIn K mainGlobals "_law_object" = some (some (.ref f_law_object))) (l_law_object : K.lookup f_law_object = some ⟨oc_law_object, od_law_object, .func (PySem.W.fnOf "_law_object" "_law_object" (defArgs sObject) (defBody sObject) (defScope sObject) .none kV_law_object dc_law_object pm_law_object an_law_object cd_law_object ct_law_object), sl_law_object⟩) (c_law_object : PySem.W.codeIn K cd_law_object "_law_object" = true) (k_law_object : PySem.W.keepIn K (.ref f_law_object) = true)
    (a_law_allows : PySem.W.nsIn K mainGlobals "_law_allows" = some (some (.ref f_law_allows))) (l_law_allows : K.lookup f_law_allows = some ⟨oc_law_allows, od_law_allows, .func (PySem.W.fnOf "_law_allows" "_law_allows" (defArgs sAllows) (defBody sAllows) (defScope sAllows) .none kV_law_allows dc_law_allows pm_law_allows an_law_allows cd_law_allows ct_law_allows), sl_law_allows⟩) (c_law_allows : PySem.W.codeIn K cd_law_allows "_law_allows" = true) (k_law_allows : PySem.W.keepIn K (.ref f_law_allows) = true)
    (a_law_clocks : PySem.W.nsIn K mainGlobals "_law_clocks" = some (some (.ref f_law_clocks))) (l_law_clocks : K.lookup f_law_clocks = some ⟨oc_law_clocks, od_law_clocks, .func (PySem.W.fnOf "_law_clocks" "_law_clocks" (defArgs sClocks) (defBody sClocks) (defScope sClocks) .none kV_law_clocks dc_law_clocks pm_law_clocks an_law_clocks cd_law_clocks ct_law_clocks), sl_law_clocks⟩) (c_law_clocks : PySem.W.codeIn K cd_law_clocks "_law_clocks" = true) (k_law_clocks : PySem.W.keepIn K (.ref f_law_clocks) = true)
    (a_law_pieces : PySem.W.nsIn K mainGlobals "_law_pieces" = some (some (.ref f_law_pieces))) (l_law_pieces : K.lookup f_law_pieces = some ⟨oc_law_pieces, od_law_pieces, .func (PySem.W.fnOf "_law_pieces" "_law_pieces" (defArgs sPieces) (defBody sPieces) (defScope sPieces) .none kV_law_pieces dc_law_pieces pm_law_pieces an_law_pieces cd_law_pieces ct_law_pieces), sl_law_pieces⟩) (c_law_pieces : PySem.W.codeIn K cd_law_pieces "_law_pieces" = true) (k_law_pieces : PySem.W.keepIn K (.ref f_law_pieces) = true)
    (a_law_is : PySem.W.nsIn K mainGlobals "_law_is" = some (some (.ref f_law_is))) (l_law_is : K.lookup f_law_is = some ⟨oc_law_is, od_law_is, .func (PySem.W.fnOf "_law_is" "_law_is" (defArgs sLIs) (defBody sLIs) (defScope sLIs) .none kV_law_is dc_law_is pm_law_is an_law_is cd_law_is ct_law_is), sl_law_is⟩) (c_law_is : PySem.W.codeIn K cd_law_is "_law_is" = true) (k_law_is : PySem.W.keepIn K (.ref f_law_is) = true)
    (a_law_wide_right : PySem.W.nsIn K mainGlobals "_law_wide_right" = some (some (.ref f_law_wide_right))) (l_law_wide_right : K.lookup f_law_wide_right = some ⟨oc_law_wide_right, od_law_wide_right, .func (PySem.W.fnOf "_law_wide_right" "_law_wide_right" (defArgs sWideRight) (defBody sWideRight) (defScope sWideRight) .none kV_law_wide_right dc_law_wide_right pm_law_wide_right an_law_wide_right cd_law_wide_right ct_law_wide_right), sl_law_wide_right⟩) (c_law_wide_right : PySem.W.codeIn K cd_law_wide_right "_law_wide_right" = true) (k_law_wide_right : PySem.W.keepIn K (.ref f_law_wide_right) = true)
    (a_law_deep_right : PySem.W.nsIn K mainGlobals "_law_deep_right" = some (some (.ref f_law_deep_right))) (l_law_deep_right : K.lookup f_law_deep_right = some ⟨oc_law_deep_right, od_law_deep_right, .func (PySem.W.fnOf "_law_deep_right" "_law_deep_right" (defArgs sDeepRight) (defBody sDeepRight) (defScope sDeepRight) .none kV_law_deep_right dc_law_deep_right pm_law_deep_right an_law_deep_right cd_law_deep_right ct_law_deep_right), sl_law_deep_right⟩) (c_law_deep_right : PySem.W.codeIn K cd_law_deep_right "_law_deep_right" = true) (k_law_deep_right : PySem.W.keepIn K (.ref f_law_deep_right) = true)
    (alaw : PySem.W.nsIn K mainGlobals "law" = some (some (.ref flaw))) (llaw : K.lookup flaw = some ⟨oclaw, odlaw, .func (PySem.W.fnOf "law" "law" (defArgs sLaw) (defBody sLaw) (defScope sLaw) .none kVlaw dclaw pmlaw anlaw cdlaw ctlaw), sllaw⟩) (claw : PySem.W.codeIn K cdlaw "law" = true) (klaw : PySem.W.keepIn K (.ref flaw) = true)
    (aDAY : PySem.W.nsIn K mainGlobals "DAY" = some (some (.int 1440 tDAY)))
    (aHOUR : PySem.W.nsIn K mainGlobals "HOUR" = some (some (.int 60 tHOUR)))
    (aWEEK : PySem.W.nsIn K mainGlobals "WEEK" = some (some (.int 7 tWEEK)))
    (aMINUTES : PySem.W.nsIn K mainGlobals "MINUTES" = some (some (.int 10080 tMINUTES)))
    (aWEEKS_AHEAD : PySem.W.nsIn K mainGlobals "WEEKS_AHEAD" = some (some (.int 3 tWEEKS_AHEAD)))
    (zArithmeticError : PySem.W.nsIn K mainGlobals "ArithmeticError" = some none)
    (zall : PySem.W.nsIn K mainGlobals "all" = some none)
    (zany : PySem.W.nsIn K mainGlobals "any" = some none)
    (zdivmod : PySem.W.nsIn K mainGlobals "divmod" = some none)
    (zint : PySem.W.nsIn K mainGlobals "int" = some none)
    (zisinstance : PySem.W.nsIn K mainGlobals "isinstance" = some none)
    (zlen : PySem.W.nsIn K mainGlobals "len" = some none)
    (zlist : PySem.W.nsIn K mainGlobals "list" = some none)
    (zmax : PySem.W.nsIn K mainGlobals "max" = some none)
    (zmin : PySem.W.nsIn K mainGlobals "min" = some none)
    (zrange : PySem.W.nsIn K mainGlobals "range" = some none)
    (zset : PySem.W.nsIn K mainGlobals "set" = some none)
    (zsorted : PySem.W.nsIn K mainGlobals "sorted" = some none)
    (zstr : PySem.W.nsIn K mainGlobals "str" = some none)
    (ztuple : PySem.W.nsIn K mainGlobals "tuple" = some none)
    (zzip : PySem.W.nsIn K mainGlobals "zip" = some none)
    : ∃ (fd : FuncData) (cs : List (Addr × Addr)) (sp : Sp), (∀ t ∈ cs, t.2 ∈ ts ∧ PySem.W.codeHdIn K t.1 t.2 = true ∧ K.lookup t.2 = none) ∧ (∀ (s : Shared) (u : Value), BindsTo s fd ⟨[u], []⟩ [("_law_script", u)]) ∧ (∀ (H : Hp) (a : Addr) (ns : List Int), ns.length ≤ 63 → (∀ t ∈ cs, H t.2 = some (.tbl #[])) → SqL K H a (ns.map V.int) → sp [.ref a] H (fun v _ => v = .bl true) fun _ _ _ => False) ∧ ∀ base : Heap, K.In base → base.Ns mainGlobals mg → (∀ t ∈ cs, LamX.TabB base mg t.1 t.2) → FnOkG l.prog w K mg base CX0 30 fa fd ["_law_script"] sp := by
  have e := hfa.symm.trans (PySem.W.mg_of X G alaw)
  cases e
  have g_wall := PySem.W.mg_of X G a_wall
  have F_wall := fun_mk (st := sWall) l_wall c_wall k_wall
  have b_wall := F_wall.binds (ps := ["k"]) fun _ _ _ _ _ _ us hl => match us, hl with | [_], _ => rfl
  have gshow_time := PySem.W.mg_of X G ashow_time
  have Fshow_time := fun_mk (st := sShow) lshow_time cshow_time kshow_time
  have bshow_time := Fshow_time.binds (ps := ["minute"]) fun _ _ _ _ _ _ us hl => match us, hl with | [_], _ => rfl
  have gmeet := PySem.W.mg_of X G ameet
  have Fmeet := fun_mk (st := sMeet) lmeet cmeet kmeet
  have bmeet := Fmeet.binds (ps := ["one", "other"]) fun _ _ _ _ _ _ us hl => match us, hl with | [_, _], _ => rfl
  have gjoined := PySem.W.mg_of X G ajoined
  have Fjoined : FunDf_joined K fjoined _ := ⟨⟨_, _, _, _, _, _, _, _, _, _, rfl, ljoined, cjoined, .inr ⟨by simp, Tjoined, _, [.int 0 tdjoined_0], _, rfl, djoined, rfl, .cons ⟨_, rfl⟩ (.nil)⟩, .inl rfl⟩, kjoined⟩
  have ggaps := PySem.W.mg_of X G agaps
  have Fgaps := fun_mk (st := sGaps) lgaps cgaps kgaps
  have bgaps := Fgaps.binds (ps := ["some", "within"]) fun _ _ _ _ _ _ us hl => match us, hl with | [_, _], _ => rfl
  have g_in_weeks := PySem.W.mg_of X G a_in_weeks
  have F_in_weeks := fun_mk (st := sInWeeks) l_in_weeks c_in_weeks k_in_weeks
  have b_in_weeks := F_in_weeks.binds (ps := ["some", "first", "behind"]) fun _ _ _ _ _ _ us hl => match us, hl with | [_, _, _], _ => rfl
  have g_where := PySem.W.mg_of X G a_where
  have F_where := fun_mk (st := sWhere) l_where c_where k_where
  have b_where := F_where.binds (ps := ["rule", "allowed"]) fun _ _ _ _ _ _ us hl => match us, hl with | [_, _], _ => rfl
  have g_some_or_rest := PySem.W.mg_of X G a_some_or_rest
  have F_some_or_rest := fun_mk (st := sSomeOrRest) l_some_or_rest c_some_or_rest k_some_or_rest
  have b_some_or_rest := F_some_or_rest.binds (ps := ["some", "told"]) fun _ _ _ _ _ _ us hl => match us, hl with | [_, _], _ => rfl
  have g_where_alone := PySem.W.mg_of X G a_where_alone
  have F_where_alone := fun_mk (st := sWhereAlone) l_where_alone c_where_alone k_where_alone
  have b_where_alone := F_where_alone.binds (ps := ["rule"]) fun _ _ _ _ _ _ us hl => match us, hl with | [_], _ => rfl
  have g_hours_of := PySem.W.mg_of X G a_hours_of
  have F_hours_of := fun_mk (st := sHoursOf) l_hours_of c_hours_of k_hours_of
  have b_hours_of := F_hours_of.binds (ps := ["hours", "midnight"]) fun _ _ _ _ _ _ us hl => match us, hl with | [_, _], _ => rfl
  have gallowed_in := PySem.W.mg_of X G aallowed_in
  have Fallowed_in := fun_mk (st := sAllowedIn) lallowed_in callowed_in kallowed_in
  have ballowed_in := Fallowed_in.binds (ps := ["rule", "within"]) fun _ _ _ _ _ _ us hl => match us, hl with | [_, _], _ => rfl
  have g_law_tape := PySem.W.mg_of X G a_law_tape
  have F_law_tape := fun_mk (st := sTape) l_law_tape c_law_tape k_law_tape
  have b_law_tape := F_law_tape.binds (ps := ["_law_script"]) fun _ _ _ _ _ _ us hl => match us, hl with | [_], _ => rfl
  have g_law_draw := PySem.W.mg_of X G a_law_draw
  have F_law_draw := fun_mk (st := sDraw) l_law_draw c_law_draw k_law_draw
  have b_law_draw := F_law_draw.binds (ps := ["_law_tape_here", "_law_many"]) fun _ _ _ _ _ _ us hl => match us, hl with | [_, _], _ => rfl
  have g_law_pick := PySem.W.mg_of X G a_law_pick
  have F_law_pick := fun_mk (st := sPick) l_law_pick c_law_pick k_law_pick
  have b_law_pick := F_law_pick.binds (ps := ["_law_tape_here", "_law_some"]) fun _ _ _ _ _ _ us hl => match us, hl with | [_, _], _ => rfl
  have g_law_rule := PySem.W.mg_of X G a_law_rule
  have F_law_rule := fun_mk (st := sRule) l_law_rule c_law_rule k_law_rule
  have b_law_rule := F_law_rule.binds (ps := ["_law_tape_here", "_law_deep"]) fun _ _ _ _ _ _ us hl => match us, hl with | [_, _], _ => rfl
  have g_law_wide := PySem.W.mg_of X G a_law_wide
  have F_law_wide := fun_mk (st := sWide) l_law_wide c_law_wide k_law_wide
  have b_law_wide := F_law_wide.binds (ps := ["_law_tape_here"]) fun _ _ _ _ _ _ us hl => match us, hl with | [_], _ => rfl
  have g_law_object := PySem.W.mg_of X G a_law_object
  have F_law_object := fun_mk (st := sObject) l_law_object c_law_object k_law_object
  have b_law_object := F_law_object.binds (ps := ["_law_told_rule"]) fun _ _ _ _ _ _ us hl => match us, hl with | [_], _ => rfl
  have g_law_allows := PySem.W.mg_of X G a_law_allows
  have F_law_allows := fun_mk (st := sAllows) l_law_allows c_law_allows k_law_allows
  have b_law_allows := F_law_allows.binds (ps := ["_law_told_rule", "_law_minute"]) fun _ _ _ _ _ _ us hl => match us, hl with | [_, _], _ => rfl
  have g_law_clocks := PySem.W.mg_of X G a_law_clocks
  have F_law_clocks := fun_mk (st := sClocks) l_law_clocks c_law_clocks k_law_clocks
  have b_law_clocks := F_law_clocks.binds (ps := ["_law_told_rule"]) fun _ _ _ _ _ _ us hl => match us, hl with | [_], _ => rfl
  have g_law_pieces := PySem.W.mg_of X G a_law_pieces
  have F_law_pieces := fun_mk (st := sPieces) l_law_pieces c_law_pieces k_law_pieces
  have b_law_pieces := F_law_pieces.binds (ps := ["_law_told_rule", "_law_first", "_law_behind"]) fun _ _ _ _ _ _ us hl => match us, hl with | [_, _, _], _ => rfl
  have g_law_is := PySem.W.mg_of X G a_law_is
  have F_law_is := fun_mk (st := sLIs) l_law_is c_law_is k_law_is
  have b_law_is := F_law_is.binds (ps := ["_law_told", "_law_due"]) fun _ _ _ _ _ _ us hl => match us, hl with | [_, _], _ => rfl
  have g_law_wide_right := PySem.W.mg_of X G a_law_wide_right
  have F_law_wide_right := fun_mk (st := sWideRight) l_law_wide_right c_law_wide_right k_law_wide_right
  have b_law_wide_right := F_law_wide_right.binds (ps := ["_law_tape_here"]) fun _ _ _ _ _ _ us hl => match us, hl with | [_], _ => rfl
  have g_law_deep_right := PySem.W.mg_of X G a_law_deep_right
  have F_law_deep_right := fun_mk (st := sDeepRight) l_law_deep_right c_law_deep_right k_law_deep_right
  have b_law_deep_right := F_law_deep_right.binds (ps := ["_law_tape_here"]) fun _ _ _ _ _ _ us hl => match us, hl with | [_], _ => rfl
  have glaw := PySem.W.mg_of X G alaw
  have Flaw := fun_mk (st := sLaw) llaw claw klaw
  have blaw := Flaw.binds (ps := ["_law_script"]) fun _ _ _ _ _ _ us hl => match us, hl with | [_], _ => rfl
  have oxNoStretch := oex_of PySem.F.excBase_ArithmeticError PySem.F.store_ArithmeticError xlNoStretch (by decide +kernel) hdNoStretch saNoStretch exNoStretch tyNoStretch kcNoStretch
  have gCRule := PySem.W.mg_of X G aRule
  have FRule_allows := fun_mk (st := sRuleAllows) lRule_allows cRule_allows kRule_allows
  have bRule_allows := FRule_allows.binds (ps := ["self", "minute"]) fun _ _ _ _ _ _ us hl => match us, hl with | [_, _], _ => rfl
  have gCHours := PySem.W.mg_of X G aHours
  have FHours___init__ := fun_mk (st := sHoursInit) lHours___init__ cHours___init__ kHours___init__
  have bHours___init__ := FHours___init__.binds (ps := ["self", "first", "behind"]) fun _ _ _ _ _ _ us hl => match us, hl with | [_, _, _], _ => rfl
  have FHours___eq__ := fun_mk (st := sHoursEq) lHours___eq__ cHours___eq__ kHours___eq__
  have bHours___eq__ := FHours___eq__.binds (ps := ["self", "other"]) fun _ _ _ _ _ _ us hl => match us, hl with | [_, _], _ => rfl
  have FHours___str__ := fun_mk (st := sHoursStr) lHours___str__ cHours___str__ kHours___str__
  have bHours___str__ := FHours___str__.binds (ps := ["self"]) fun _ _ _ _ _ _ us hl => match us, hl with | [_], _ => rfl
  have FHours_allows := fun_mk (st := sHoursAllows) lHours_allows cHours_allows kHours_allows
  have bHours_allows := FHours_allows.binds (ps := ["self", "minute"]) fun _ _ _ _ _ _ us hl => match us, hl with | [_, _], _ => rfl
  have gCDays := PySem.W.mg_of X G aDays
  have FDays___init__ := fun_mk (st := sDaysInit) lDays___init__ cDays___init__ kDays___init__
  have bDays___init__ := FDays___init__.binds (ps := ["self", "days"]) fun _ _ _ _ _ _ us hl => match us, hl with | [_, _], _ => rfl
  have FDays___eq__ := fun_mk (st := sDaysEq) lDays___eq__ cDays___eq__ kDays___eq__
  have bDays___eq__ := FDays___eq__.binds (ps := ["self", "other"]) fun _ _ _ _ _ _ us hl => match us, hl with | [_, _], _ => rfl
  have FDays___str__ := fun_mk (st := sDaysStr) lDays___str__ cDays___str__ kDays___str__
  have bDays___str__ := FDays___str__.binds (ps := ["self"]) fun _ _ _ _ _ _ us hl => match us, hl with | [_], _ => rfl
  have FDays_allows := fun_mk (st := sDaysAllows) lDays_allows cDays_allows kDays_allows
  have bDays_allows := FDays_allows.binds (ps := ["self", "minute"]) fun _ _ _ _ _ _ us hl => match us, hl with | [_, _], _ => rfl
  have gCUnless := PySem.W.mg_of X G aUnless
  have FUnless___init__ := fun_mk (st := sUnlessInit) lUnless___init__ cUnless___init__ kUnless___init__
  have bUnless___init__ := FUnless___init__.binds (ps := ["self", "rule"]) fun _ _ _ _ _ _ us hl => match us, hl with | [_, _], _ => rfl
  have FUnless___eq__ := fun_mk (st := sUnlessEq) lUnless___eq__ cUnless___eq__ kUnless___eq__
  have bUnless___eq__ := FUnless___eq__.binds (ps := ["self", "other"]) fun _ _ _ _ _ _ us hl => match us, hl with | [_, _], _ => rfl
  have FUnless___str__ := fun_mk (st := sUnlessStr) lUnless___str__ cUnless___str__ kUnless___str__
  have bUnless___str__ := FUnless___str__.binds (ps := ["self"]) fun _ _ _ _ _ _ us hl => match us, hl with | [_], _ => rfl
  have FUnless_allows := fun_mk (st := sUnlessAllows) lUnless_allows cUnless_allows kUnless_allows
  have bUnless_allows := FUnless_allows.binds (ps := ["self", "minute"]) fun _ _ _ _ _ _ us hl => match us, hl with | [_, _], _ => rfl
  have gCBoth := PySem.W.mg_of X G aBoth
  have FBoth___init__ := fun_mk (st := sBothInit) lBoth___init__ cBoth___init__ kBoth___init__
  have bBoth___init__ := FBoth___init__.binds (ps := ["self", "rules"]) fun _ _ _ _ _ _ us hl => match us, hl with | [_, _], _ => rfl
  have FBoth___eq__ := fun_mk (st := sBothEq) lBoth___eq__ cBoth___eq__ kBoth___eq__
  have bBoth___eq__ := FBoth___eq__.binds (ps := ["self", "other"]) fun _ _ _ _ _ _ us hl => match us, hl with | [_, _], _ => rfl
  have FBoth___str__ := fun_mk (st := sBothStr) lBoth___str__ cBoth___str__ kBoth___str__
  have bBoth___str__ := FBoth___str__.binds (ps := ["self"]) fun _ _ _ _ _ _ us hl => match us, hl with | [_], _ => rfl
  have FBoth_allows := fun_mk (st := sBothAllows) lBoth_allows cBoth_allows kBoth_allows
  have bBoth_allows := FBoth_allows.binds (ps := ["self", "minute"]) fun _ _ _ _ _ _ us hl => match us, hl with | [_, _], _ => rfl
  have gCEither := PySem.W.mg_of X G aEither
  have FEither___init__ := fun_mk (st := sEitherInit) lEither___init__ cEither___init__ kEither___init__
  have bEither___init__ := FEither___init__.binds (ps := ["self", "rules"]) fun _ _ _ _ _ _ us hl => match us, hl with | [_, _], _ => rfl
  have FEither___eq__ := fun_mk (st := sEitherEq) lEither___eq__ cEither___eq__ kEither___eq__
  have bEither___eq__ := FEither___eq__.binds (ps := ["self", "other"]) fun _ _ _ _ _ _ us hl => match us, hl with | [_, _], _ => rfl
  have FEither___str__ := fun_mk (st := sEitherStr) lEither___str__ cEither___str__ kEither___str__
  have bEither___str__ := FEither___str__.binds (ps := ["self"]) fun _ _ _ _ _ _ us hl => match us, hl with | [_], _ => rfl
  have FEither_allows := fun_mk (st := sEitherAllows) lEither_allows cEither_allows kEither_allows
  have bEither_allows := FEither_allows.binds (ps := ["self", "minute"]) fun _ _ _ _ _ _ us hl => match us, hl with | [_, _], _ => rfl
  have gCStretch := PySem.W.mg_of X G aStretch
  have FStretch___init__ : FunDf_Stretch___init__ K fStretch___init__ _ := ⟨⟨_, _, _, _, _, _, _, _, _, _, rfl, lStretch___init__, cStretch___init__, .inr ⟨by simp, TStretch___init__, _, [.none], _, rfl, dStretch___init__, rfl, .cons rfl (.nil)⟩, .inl rfl⟩, kStretch___init__⟩
  have FStretch___eq__ := fun_mk (st := sSEq) lStretch___eq__ cStretch___eq__ kStretch___eq__
  have bStretch___eq__ := FStretch___eq__.binds (ps := ["self", "other"]) fun _ _ _ _ _ _ us hl => match us, hl with | [_, _], _ => rfl
  have FStretch___len__ := fun_mk (st := sSLen) lStretch___len__ cStretch___len__ kStretch___len__
  have bStretch___len__ := FStretch___len__.binds (ps := ["self"]) fun _ _ _ _ _ _ us hl => match us, hl with | [_], _ => rfl
  have FStretch___str__ := fun_mk (st := sSStr) lStretch___str__ cStretch___str__ kStretch___str__
  have bStretch___str__ := FStretch___str__.binds (ps := ["self"]) fun _ _ _ _ _ _ us hl => match us, hl with | [_], _ => rfl
  have FStretch___repr__ := fun_mk (st := sSRepr) lStretch___repr__ cStretch___repr__ kStretch___repr__
  have bStretch___repr__ := FStretch___repr__.binds (ps := ["self"]) fun _ _ _ _ _ _ us hl => match us, hl with | [_], _ => rfl
  have gCWeek := PySem.W.mg_of X G aWeek
  have FWeek___init__ := fun_mk (st := sWeekInit) lWeek___init__ cWeek___init__ kWeek___init__
  have bWeek___init__ := FWeek___init__.binds (ps := ["self", "rule"]) fun _ _ _ _ _ _ us hl => match us, hl with | [_, _], _ => rfl
  have FWeek_soonest := fun_mk (st := sWeekSoonest) lWeek_soonest cWeek_soonest kWeek_soonest
  have bWeek_soonest := FWeek_soonest.binds (ps := ["self", "minute", "long"]) fun _ _ _ _ _ _ us hl => match us, hl with | [_, _, _], _ => rfl
  have FWeek_allowed_within := fun_mk (st := sWeekAllowedWithin) lWeek_allowed_within cWeek_allowed_within kWeek_allowed_within
  have bWeek_allowed_within := FWeek_allowed_within.binds (ps := ["self", "within"]) fun _ _ _ _ _ _ us hl => match us, hl with | [_, _], _ => rfl
  have gCNoStretch := PySem.W.mg_of X G aNoStretch
  have FNoStretch___init__ := fun_mk (st := sNInit) lNoStretch___init__ cNoStretch___init__ kNoStretch___init__
  have bNoStretch___init__ := FNoStretch___init__.binds (ps := ["self", "first", "behind"]) fun _ _ _ _ _ _ us hl => match us, hl with | [_, _, _], _ => rfl
  have mDAY := PySem.W.mg_of X G aDAY
  have mHOUR := PySem.W.mg_of X G aHOUR
  have mWEEK := PySem.W.mg_of X G aWEEK
  have mMINUTES := PySem.W.mg_of X G aMINUTES
  have mWEEKS_AHEAD := PySem.W.mg_of X G aWEEKS_AHEAD
  have mArithmeticError := PySem.W.mg_none_of X G zArithmeticError
  have mall := PySem.W.mg_none_of X G zall
  have many := PySem.W.mg_none_of X G zany
  have mdivmod := PySem.W.mg_none_of X G zdivmod
  have mint := PySem.W.mg_none_of X G zint
  have misinstance := PySem.W.mg_none_of X G zisinstance
  have mlen := PySem.W.mg_none_of X G zlen
  have mlist := PySem.W.mg_none_of X G zlist
  have mmax := PySem.W.mg_none_of X G zmax
  have mmin := PySem.W.mg_none_of X G zmin
  have mrange := PySem.W.mg_none_of X G zrange
  have mset := PySem.W.mg_none_of X G zset
  have msorted := PySem.W.mg_none_of X G zsorted
  have mstr := PySem.W.mg_none_of X G zstr
  have mtuple := PySem.W.mg_none_of X G ztuple
  have mzip := PySem.W.mg_none_of X G zzip
  refine ⟨_, [(ccjoined, cpjoined)], spLawT K [(cpjoined, "joined" ++ ".<locals>." ++ "<lambda>")], ?_, fun s v => .of_eq rfl, fun H a ns hl hH hS => ⟨a, ns, rfl, hS, hl, tabs0 ?_, fun _ => rfl⟩, fun base _ _ h3 => ok_law ({ f_wall := _, fd_wall := _, F_wall := F_wall, b_wall := b_wall, g_wall := g_wall, fshow_time := _, fdshow_time := _, Fshow_time := Fshow_time, bshow_time := bshow_time, gshow_time := gshow_time, fmeet := _, fdmeet := _, Fmeet := Fmeet, bmeet := bmeet, gmeet := gmeet, fjoined := _, fdjoined := _, Fjoined := Fjoined, gjoined := gjoined, fgaps := _, fdgaps := _, Fgaps := Fgaps, bgaps := bgaps, ggaps := ggaps, f_in_weeks := _, fd_in_weeks := _, F_in_weeks := F_in_weeks, b_in_weeks := b_in_weeks, g_in_weeks := g_in_weeks, f_where := _, fd_where := _, F_where := F_where, b_where := b_where, g_where := g_where, f_some_or_rest := _, fd_some_or_rest := _, F_some_or_rest := F_some_or_rest, b_some_or_rest := b_some_or_rest, g_some_or_rest := g_some_or_rest, f_where_alone := _, fd_where_alone := _, F_where_alone := F_where_alone, b_where_alone := b_where_alone, g_where_alone := g_where_alone, f_hours_of := _, fd_hours_of := _, F_hours_of := F_hours_of, b_hours_of := b_hours_of, g_hours_of := g_hours_of, fallowed_in := _, fdallowed_in := _, Fallowed_in := Fallowed_in, ballowed_in := ballowed_in, gallowed_in := gallowed_in, f_law_tape := _, fd_law_tape := _, F_law_tape := F_law_tape, b_law_tape := b_law_tape, g_law_tape := g_law_tape, f_law_draw := _, fd_law_draw := _, F_law_draw := F_law_draw, b_law_draw := b_law_draw, g_law_draw := g_law_draw, f_law_pick := _, fd_law_pick := _, F_law_pick := F_law_pick, b_law_pick := b_law_pick, g_law_pick := g_law_pick, f_law_rule := _, fd_law_rule := _, F_law_rule := F_law_rule, b_law_rule := b_law_rule, g_law_rule := g_law_rule, f_law_wide := _, fd_law_wide := _, F_law_wide := F_law_wide, b_law_wide := b_law_wide, g_law_wide := g_law_wide, f_law_object := _, fd_law_object := _, F_law_object := F_law_object, b_law_object := b_law_object, g_law_object := g_law_object, f_law_allows := _, fd_law_allows := _, F_law_allows := F_law_allows, b_law_allows := b_law_allows, g_law_allows := g_law_allows, f_law_clocks := _, fd_law_clocks := _, F_law_clocks := F_law_clocks, b_law_clocks := b_law_clocks, g_law_clocks := g_law_clocks, f_law_pieces := _, fd_law_pieces := _, F_law_pieces := F_law_pieces, b_law_pieces := b_law_pieces, g_law_pieces := g_law_pieces, f_law_is := _, fd_law_is := _, F_law_is := F_law_is, b_law_is := b_law_is, g_law_is := g_law_is, f_law_wide_right := _, fd_law_wide_right := _, F_law_wide_right := F_law_wide_right, b_law_wide_right := b_law_wide_right, g_law_wide_right := g_law_wide_right, f_law_deep_right := _, fd_law_deep_right := _, F_law_deep_right := F_law_deep_right, b_law_deep_right := b_law_deep_right, g_law_deep_right := g_law_deep_right, flaw := _, fdlaw := _, Flaw := Flaw, blaw := blaw, glaw := glaw, fRule_allows := _, fdRule_allows := _, FRule_allows := FRule_allows, bRule_allows := bRule_allows, fHours___init__ := _, fdHours___init__ := _, FHours___init__ := FHours___init__, bHours___init__ := bHours___init__, fHours___eq__ := _, fdHours___eq__ := _, FHours___eq__ := FHours___eq__, bHours___eq__ := bHours___eq__, fHours___str__ := _, fdHours___str__ := _, FHours___str__ := FHours___str__, bHours___str__ := bHours___str__, fHours_allows := _, fdHours_allows := _, FHours_allows := FHours_allows, bHours_allows := bHours_allows, fDays___init__ := _, fdDays___init__ := _, FDays___init__ := FDays___init__, bDays___init__ := bDays___init__, fDays___eq__ := _, fdDays___eq__ := _, FDays___eq__ := FDays___eq__, bDays___eq__ := bDays___eq__, fDays___str__ := _, fdDays___str__ := _, FDays___str__ := FDays___str__, bDays___str__ := bDays___str__, fDays_allows := _, fdDays_allows := _, FDays_allows := FDays_allows, bDays_allows := bDays_allows, fUnless___init__ := _, fdUnless___init__ := _, FUnless___init__ := FUnless___init__, bUnless___init__ := bUnless___init__, fUnless___eq__ := _, fdUnless___eq__ := _, FUnless___eq__ := FUnless___eq__, bUnless___eq__ := bUnless___eq__, fUnless___str__ := _, fdUnless___str__ := _, FUnless___str__ := FUnless___str__, bUnless___str__ := bUnless___str__, fUnless_allows := _, fdUnless_allows := _, FUnless_allows := FUnless_allows, bUnless_allows := bUnless_allows, fBoth___init__ := _, fdBoth___init__ := _, FBoth___init__ := FBoth___init__, bBoth___init__ := bBoth___init__, fBoth___eq__ := _, fdBoth___eq__ := _, FBoth___eq__ := FBoth___eq__, bBoth___eq__ := bBoth___eq__, fBoth___str__ := _, fdBoth___str__ := _, FBoth___str__ := FBoth___str__, bBoth___str__ := bBoth___str__, fBoth_allows := _, fdBoth_allows := _, FBoth_allows := FBoth_allows, bBoth_allows := bBoth_allows, fEither___init__ := _, fdEither___init__ := _, FEither___init__ := FEither___init__, bEither___init__ := bEither___init__, fEither___eq__ := _, fdEither___eq__ := _, FEither___eq__ := FEither___eq__, bEither___eq__ := bEither___eq__, fEither___str__ := _, fdEither___str__ := _, FEither___str__ := FEither___str__, bEither___str__ := bEither___str__, fEither_allows := _, fdEither_allows := _, FEither_allows := FEither_allows, bEither_allows := bEither_allows, fStretch___init__ := _, fdStretch___init__ := _, FStretch___init__ := FStretch___init__, fStretch___eq__ := _, fdStretch___eq__ := _, FStretch___eq__ := FStretch___eq__, bStretch___eq__ := bStretch___eq__, fStretch___len__ := _, fdStretch___len__ := _, FStretch___len__ := FStretch___len__, bStretch___len__ := bStretch___len__, fStretch___str__ := _, fdStretch___str__ := _, FStretch___str__ := FStretch___str__, bStretch___str__ := bStretch___str__, fStretch___repr__ := _, fdStretch___repr__ := _, FStretch___repr__ := FStretch___repr__, bStretch___repr__ := bStretch___repr__, fWeek___init__ := _, fdWeek___init__ := _, FWeek___init__ := FWeek___init__, bWeek___init__ := bWeek___init__, fWeek_soonest := _, fdWeek_soonest := _, FWeek_soonest := FWeek_soonest, bWeek_soonest := bWeek_soonest, fWeek_allowed_within := _, fdWeek_allowed_within := _, FWeek_allowed_within := FWeek_allowed_within, bWeek_allowed_within := bWeek_allowed_within, fNoStretch___init__ := _, fdNoStretch___init__ := _, FNoStretch___init__ := FNoStretch___init__, bNoStretch___init__ := bNoStretch___init__, ccjoined := _, cpjoined := _, tDAY := _, mDAY := mDAY, tHOUR := _, mHOUR := mHOUR, tWEEK := _, mWEEK := mWEEK, tMINUTES := _, mMINUTES := mMINUTES, tWEEKS_AHEAD := _, mWEEKS_AHEAD := mWEEKS_AHEAD, mArithmeticError := mArithmeticError, mall := mall, many := many, mdivmod := mdivmod, mint := mint, misinstance := misinstance, mlen := mlen, mlist := mlist, mmax := mmax, mmin := mmin, mrange := mrange, mset := mset, msorted := msorted, mstr := mstr, mtuple := mtuple, mzip := mzip, CRule := _, CHours := _, CDays := _, CUnless := _, CBoth := _, CEither := _, CStretch := _, CWeek := _, CNoStretch := _, gCNoStretch := gCNoStretch, oxNoStretch := oxNoStretch, exNoStretch := exNoStretch, hdNoStretch := hdNoStretch, tyNoStretch := tyNoStretch, icNoStretch := icNoStretch, seNoStretch := seNoStretch, upNoStretch := upNoStretch, gaNoStretch := gaNoStretch, ggNoStretch := ggNoStretch, haNoStretch := haNoStretch, hnNoStretch := hnNoStretch, htNoStretch := htNoStretch, hmNoStretch := hmNoStretch, nNoStretch_first := nNoStretch_first, nNoStretch_behind := nNoStretch_behind, aNoStretch___init__ := aNoStretch___init__, iNoStretch___init__ := iNoStretch___init__, kNoStretch___init__ := kNoStretch___init__, gCRule := gCRule, pgRule := pgRule, hdRule := hdRule, poRule := poRule, saRule := saRule, mkRule := mkRule, kcRule := kcRule, haRule := haRule, hnRule := hnRule, htRule := htRule, hmRule := hmRule, nfRule := nfRule, aRule_allows := aRule_allows, iRule_allows := iRule_allows, kRule_allows := kRule_allows, gCHours := gCHours, pgHours := pgHours, hdHours := hdHours, poHours := poHours, saHours := saHours, mkHours := mkHours, kcHours := kcHours, haHours := haHours, hnHours := hnHours, htHours := htHours, hmHours := hmHours, nfHours := nfHours, nHours_first := nHours_first, nHours_behind := nHours_behind, aHours___init__ := aHours___init__, iHours___init__ := iHours___init__, kHours___init__ := kHours___init__, aHours___eq__ := aHours___eq__, iHours___eq__ := iHours___eq__, kHours___eq__ := kHours___eq__, aHours___str__ := aHours___str__, iHours___str__ := iHours___str__, kHours___str__ := kHours___str__, aHours_allows := aHours_allows, iHours_allows := iHours_allows, kHours_allows := kHours_allows, gCDays := gCDays, pgDays := pgDays, hdDays := hdDays, poDays := poDays, saDays := saDays, mkDays := mkDays, kcDays := kcDays, haDays := haDays, hnDays := hnDays, htDays := htDays, hmDays := hmDays, nfDays := nfDays, nDays_days := nDays_days, aDays___init__ := aDays___init__, iDays___init__ := iDays___init__, kDays___init__ := kDays___init__, aDays___eq__ := aDays___eq__, iDays___eq__ := iDays___eq__, kDays___eq__ := kDays___eq__, aDays___str__ := aDays___str__, iDays___str__ := iDays___str__, kDays___str__ := kDays___str__, aDays_allows := aDays_allows, iDays_allows := iDays_allows, kDays_allows := kDays_allows, gCUnless := gCUnless, pgUnless := pgUnless, hdUnless := hdUnless, poUnless := poUnless, saUnless := saUnless, mkUnless := mkUnless, kcUnless := kcUnless, haUnless := haUnless, hnUnless := hnUnless, htUnless := htUnless, hmUnless := hmUnless, nfUnless := nfUnless, nUnless_rule := nUnless_rule, aUnless___init__ := aUnless___init__, iUnless___init__ := iUnless___init__, kUnless___init__ := kUnless___init__, aUnless___eq__ := aUnless___eq__, iUnless___eq__ := iUnless___eq__, kUnless___eq__ := kUnless___eq__, aUnless___str__ := aUnless___str__, iUnless___str__ := iUnless___str__, kUnless___str__ := kUnless___str__, aUnless_allows := aUnless_allows, iUnless_allows := iUnless_allows, kUnless_allows := kUnless_allows, gCBoth := gCBoth, pgBoth := pgBoth, hdBoth := hdBoth, poBoth := poBoth, saBoth := saBoth, mkBoth := mkBoth, kcBoth := kcBoth, haBoth := haBoth, hnBoth := hnBoth, htBoth := htBoth, hmBoth := hmBoth, nfBoth := nfBoth, nBoth_rules := nBoth_rules, aBoth___init__ := aBoth___init__, iBoth___init__ := iBoth___init__, kBoth___init__ := kBoth___init__, aBoth___eq__ := aBoth___eq__, iBoth___eq__ := iBoth___eq__, kBoth___eq__ := kBoth___eq__, aBoth___str__ := aBoth___str__, iBoth___str__ := iBoth___str__, kBoth___str__ := kBoth___str__, aBoth_allows := aBoth_allows, iBoth_allows := iBoth_allows, kBoth_allows := kBoth_allows, gCEither := gCEither, pgEither := pgEither, hdEither := hdEither, poEither := poEither, saEither := saEither, mkEither := mkEither, kcEither := kcEither, haEither := haEither, hnEither := hnEither, htEither := htEither, hmEither := hmEither, nfEither := nfEither, nEither_rules := nEither_rules, aEither___init__ := aEither___init__, iEither___init__ := iEither___init__, kEither___init__ := kEither___init__, aEither___eq__ := aEither___eq__, iEither___eq__ := iEither___eq__, kEither___eq__ := kEither___eq__, aEither___str__ := aEither___str__, iEither___str__ := iEither___str__, kEither___str__ := kEither___str__, aEither_allows := aEither_allows, iEither_allows := iEither_allows, kEither_allows := kEither_allows, gCStretch := gCStretch, pgStretch := pgStretch, hdStretch := hdStretch, poStretch := poStretch, saStretch := saStretch, mkStretch := mkStretch, kcStretch := kcStretch, haStretch := haStretch, hnStretch := hnStretch, htStretch := htStretch, hmStretch := hmStretch, nfStretch := nfStretch, nStretch_first := nStretch_first, nStretch_behind := nStretch_behind, neStretch := neStretch, icStretch := icStretch, tyStretch := tyStretch, subStretch_NoneType := subStretch_NoneType, kitStretch_NoneType := kitStretch_NoneType, ntStretch_NoneType := ntStretch_NoneType, subStretch_int := subStretch_int, kitStretch_int := kitStretch_int, ntStretch_int := ntStretch_int, subStretch_str := subStretch_str, kitStretch_str := kitStretch_str, ntStretch_str := ntStretch_str, subStretch_list := subStretch_list, kitStretch_list := kitStretch_list, ntStretch_list := ntStretch_list, subStretch_tuple := subStretch_tuple, kitStretch_tuple := kitStretch_tuple, ntStretch_tuple := ntStretch_tuple, subStretch_dict := subStretch_dict, kitStretch_dict := kitStretch_dict, ntStretch_dict := ntStretch_dict, aStretch___init__ := aStretch___init__, iStretch___init__ := iStretch___init__, kStretch___init__ := kStretch___init__, aStretch___eq__ := aStretch___eq__, iStretch___eq__ := iStretch___eq__, kStretch___eq__ := kStretch___eq__, aStretch___len__ := aStretch___len__, iStretch___len__ := iStretch___len__, kStretch___len__ := kStretch___len__, aStretch___str__ := aStretch___str__, iStretch___str__ := iStretch___str__, kStretch___str__ := kStretch___str__, aStretch___repr__ := aStretch___repr__, iStretch___repr__ := iStretch___repr__, kStretch___repr__ := kStretch___repr__, gCWeek := gCWeek, pgWeek := pgWeek, hdWeek := hdWeek, poWeek := poWeek, saWeek := saWeek, mkWeek := mkWeek, kcWeek := kcWeek, haWeek := haWeek, hnWeek := hnWeek, htWeek := htWeek, hmWeek := hmWeek, nfWeek := nfWeek, nWeek__allowed := nWeek__allowed, nWeek__runs := nWeek__runs, aWeek___init__ := aWeek___init__, iWeek___init__ := iWeek___init__, kWeek___init__ := kWeek___init__, aWeek_soonest := aWeek_soonest, iWeek_soonest := iWeek_soonest, kWeek_soonest := kWeek_soonest, aWeek_allowed_within := aWeek_allowed_within, iWeek_allowed_within := iWeek_allowed_within, kWeek_allowed_within := kWeek_allowed_within, icBoth := icBoth, tyBoth := tyBoth, icDays := icDays, tyDays := tyDays, icEither := icEither, tyEither := tyEither, icHours := icHours, tyHours := tyHours, icUnless := icUnless, tyUnless := tyUnless, seBoth := seBoth, seDays := seDays, seEither := seEither, seHours := seHours, noHours_Unless := noHours_Unless, noHours_Both := noHours_Both, noHours_Either := noHours_Either, noHours_Days := noHours_Days, noDays_Unless := noDays_Unless, noDays_Both := noDays_Both, noDays_Either := noDays_Either, noBoth_Unless := noBoth_Unless, noEither_Unless := noEither_Unless, noEither_Both := noEither_Both, tbjoined := h3 _ (.head _), cdjoined := rfl } : Ev K mg base)⟩
  · intro t ht
    simp only [List.mem_cons, List.not_mem_nil, or_false] at ht
    rcases ht with rfl
    · exact ⟨mpjoined, hcjoined, tljoined⟩
  · intro p hp
    simp only [List.mem_cons, List.not_mem_nil, or_false] at hp
    rcases hp with rfl
    · exact hH _ (.head _)
end Bb
open PySem PySem.W PyProof.Rows
set_option maxHeartbeats 0 in
theorem PySem.Challenge.cw_boatbridge_k26_allowed_minutes_of_a_stre_holds : PySem.Challenge.rw_boatbridge_k26_allowed_minutes_of_a_stre.Holds := by
  w_on; o_law; k_head; (case hw => w_witness2)
  k_fill
  refine Bb.walkM (l := PySem.Challenge.rw_boatbridge_k26_allowed_minutes_of_a_stre) (n := 63) (k := 30) (x := "_law_script") rfl (by decide) rfl ⟨rfl, by decide, by decide⟩ (fun w h Y => PySem.W.km_in_of Y) (fun w h Y => PySem.W.km_tabs_of Y) ?F
  case F =>
    intro w mg fa h KX G hmg
    refine' Bb.all_mk KX G hmg ?aNoStretch ?xlNoStretch ?hdNoStretch ?saNoStretch ?exNoStretch ?tyNoStretch ?kcNoStretch ?icNoStretch ?seNoStretch ?upNoStretch ?gaNoStretch ?ggNoStretch ?haNoStretch ?hnNoStretch ?htNoStretch ?hmNoStretch ?nNoStretch_first ?nNoStretch_behind ?aRule ?pgRule ?hdRule ?poRule ?saRule ?mkRule ?kcRule ?haRule ?hnRule ?htRule ?hmRule ?nfRule ?aRule_allows ?iRule_allows ?lRule_allows ?cRule_allows ?kRule_allows ?aHours ?pgHours ?hdHours ?poHours ?saHours ?mkHours ?kcHours ?haHours ?hnHours ?htHours ?hmHours ?nfHours ?nHours_first ?nHours_behind ?aHours___init__ ?iHours___init__ ?lHours___init__ ?cHours___init__ ?kHours___init__ ?aHours___eq__ ?iHours___eq__ ?lHours___eq__ ?cHours___eq__ ?kHours___eq__ ?aHours___str__ ?iHours___str__ ?lHours___str__ ?cHours___str__ ?kHours___str__ ?aHours_allows ?iHours_allows ?lHours_allows ?cHours_allows ?kHours_allows ?aDays ?pgDays ?hdDays ?poDays ?saDays ?mkDays ?kcDays ?haDays ?hnDays ?htDays ?hmDays ?nfDays ?nDays_days ?aDays___init__ ?iDays___init__ ?lDays___init__ ?cDays___init__ ?kDays___init__ ?aDays___eq__ ?iDays___eq__ ?lDays___eq__ ?cDays___eq__ ?kDays___eq__ ?aDays___str__ ?iDays___str__ ?lDays___str__ ?cDays___str__ ?kDays___str__ ?aDays_allows ?iDays_allows ?lDays_allows ?cDays_allows ?kDays_allows ?aUnless ?pgUnless ?hdUnless ?poUnless ?saUnless ?mkUnless ?kcUnless ?haUnless ?hnUnless ?htUnless ?hmUnless ?nfUnless ?nUnless_rule ?aUnless___init__ ?iUnless___init__ ?lUnless___init__ ?cUnless___init__ ?kUnless___init__ ?aUnless___eq__ ?iUnless___eq__ ?lUnless___eq__ ?cUnless___eq__ ?kUnless___eq__ ?aUnless___str__ ?iUnless___str__ ?lUnless___str__ ?cUnless___str__ ?kUnless___str__ ?aUnless_allows ?iUnless_allows ?lUnless_allows ?cUnless_allows ?kUnless_allows ?aBoth ?pgBoth ?hdBoth ?poBoth ?saBoth ?mkBoth ?kcBoth ?haBoth ?hnBoth ?htBoth ?hmBoth ?nfBoth ?nBoth_rules ?aBoth___init__ ?iBoth___init__ ?lBoth___init__ ?cBoth___init__ ?kBoth___init__ ?aBoth___eq__ ?iBoth___eq__ ?lBoth___eq__ ?cBoth___eq__ ?kBoth___eq__ ?aBoth___str__ ?iBoth___str__ ?lBoth___str__ ?cBoth___str__ ?kBoth___str__ ?aBoth_allows ?iBoth_allows ?lBoth_allows ?cBoth_allows ?kBoth_allows ?aEither ?pgEither ?hdEither ?poEither ?saEither ?mkEither ?kcEither ?haEither ?hnEither ?htEither ?hmEither ?nfEither ?nEither_rules ?aEither___init__ ?iEither___init__ ?lEither___init__ ?cEither___init__ ?kEither___init__ ?aEither___eq__ ?iEither___eq__ ?lEither___eq__ ?cEither___eq__ ?kEither___eq__ ?aEither___str__ ?iEither___str__ ?lEither___str__ ?cEither___str__ ?kEither___str__ ?aEither_allows ?iEither_allows ?lEither_allows ?cEither_allows ?kEither_allows ?aStretch ?pgStretch ?hdStretch ?poStretch ?saStretch ?mkStretch ?kcStretch ?haStretch ?hnStretch ?htStretch ?hmStretch ?nfStretch ?nStretch_first ?nStretch_behind ?neStretch ?icStretch ?tyStretch ?subStretch_NoneType ?kitStretch_NoneType ?ntStretch_NoneType ?subStretch_int ?kitStretch_int ?ntStretch_int ?subStretch_str ?kitStretch_str ?ntStretch_str ?subStretch_list ?kitStretch_list ?ntStretch_list ?subStretch_tuple ?kitStretch_tuple ?ntStretch_tuple ?subStretch_dict ?kitStretch_dict ?ntStretch_dict ?aStretch___init__ ?iStretch___init__ ?lStretch___init__ ?cStretch___init__ ?kStretch___init__ ?dStretch___init__ ?aStretch___eq__ ?iStretch___eq__ ?lStretch___eq__ ?cStretch___eq__ ?kStretch___eq__ ?aStretch___len__ ?iStretch___len__ ?lStretch___len__ ?cStretch___len__ ?kStretch___len__ ?aStretch___str__ ?iStretch___str__ ?lStretch___str__ ?cStretch___str__ ?kStretch___str__ ?aStretch___repr__ ?iStretch___repr__ ?lStretch___repr__ ?cStretch___repr__ ?kStretch___repr__ ?aWeek ?pgWeek ?hdWeek ?poWeek ?saWeek ?mkWeek ?kcWeek ?haWeek ?hnWeek ?htWeek ?hmWeek ?nfWeek ?nWeek__allowed ?nWeek__runs ?aWeek___init__ ?iWeek___init__ ?lWeek___init__ ?cWeek___init__ ?kWeek___init__ ?aWeek_soonest ?iWeek_soonest ?lWeek_soonest ?cWeek_soonest ?kWeek_soonest ?aWeek_allowed_within ?iWeek_allowed_within ?lWeek_allowed_within ?cWeek_allowed_within ?kWeek_allowed_within ?aNoStretch___init__ ?iNoStretch___init__ ?lNoStretch___init__ ?cNoStretch___init__ ?kNoStretch___init__ ?icBoth ?tyBoth ?icDays ?tyDays ?icEither ?tyEither ?icHours ?tyHours ?icUnless ?tyUnless ?seBoth ?seDays ?seEither ?seHours ?noHours_Unless ?noHours_Both ?noHours_Either ?noHours_Days ?noDays_Unless ?noDays_Both ?noDays_Either ?noBoth_Unless ?noEither_Unless ?noEither_Both ?a_wall ?l_wall ?c_wall ?k_wall ?ashow_time ?lshow_time ?cshow_time ?kshow_time ?ameet ?lmeet ?cmeet ?kmeet ?ajoined ?ljoined ?cjoined ?kjoined ?xljoined ?xpjoined ?tljoined ?hcjoined ?mpjoined ?djoined ?agaps ?lgaps ?cgaps ?kgaps ?a_in_weeks ?l_in_weeks ?c_in_weeks ?k_in_weeks ?a_where ?l_where ?c_where ?k_where ?a_some_or_rest ?l_some_or_rest ?c_some_or_rest ?k_some_or_rest ?a_where_alone ?l_where_alone ?c_where_alone ?k_where_alone ?a_hours_of ?l_hours_of ?c_hours_of ?k_hours_of ?aallowed_in ?lallowed_in ?callowed_in ?kallowed_in ?a_law_tape ?l_law_tape ?c_law_tape ?k_law_tape ?a_law_draw ?l_law_draw ?c_law_draw ?k_law_draw ?a_law_pick ?l_law_pick ?c_law_pick ?k_law_pick ?a_law_rule ?l_law_rule ?c_law_rule ?k_law_rule ?a_law_wide ?l_law_wide ?c_law_wide ?k_law_wide ?a_law_object ?l_law_object ?c_law_object ?k_law_object ?a_law_allows ?l_law_allows ?c_law_allows ?k_law_allows ?a_law_clocks ?l_law_clocks ?c_law_clocks ?k_law_clocks ?a_law_pieces ?l_law_pieces ?c_law_pieces ?k_law_pieces ?a_law_is ?l_law_is ?c_law_is ?k_law_is ?a_law_wide_right ?l_law_wide_right ?c_law_wide_right ?k_law_wide_right ?a_law_deep_right ?l_law_deep_right ?c_law_deep_right ?k_law_deep_right ?alaw ?llaw ?claw ?klaw ?aDAY ?aHOUR ?aWEEK ?aMINUTES ?aWEEKS_AHEAD ?zArithmeticError ?zall ?zany ?zdivmod ?zint ?zisinstance ?zlen ?zlist ?zmax ?zmin ?zrange ?zset ?zsorted ?zstr ?ztuple ?zzip
    (case aNoStretch => k_is)
    (case xlNoStretch => k_is)
    (case hdNoStretch => k_is)
    (case saNoStretch => k_is)
    (case exNoStretch => k_is)
    (case tyNoStretch => k_is)
    (case kcNoStretch => k_is)
    (case icNoStretch => k_is)
    (case seNoStretch => k_is)
    (case upNoStretch => k_is)
    (case gaNoStretch => k_is)
    (case ggNoStretch => k_is)
    (case haNoStretch => k_is)
    (case hnNoStretch => k_is)
    (case htNoStretch => k_is)
    (case hmNoStretch => k_is)
    (case nNoStretch_first => k_is)
    (case nNoStretch_behind => k_is)
    (case aRule => k_is)
    (case pgRule => k_is)
    (case hdRule => k_is)
    (case poRule => k_is)
    (case saRule => k_is)
    (case mkRule => k_is)
    (case kcRule => k_is)
    (case haRule => k_is)
    (case hnRule => k_is)
    (case htRule => k_is)
    (case hmRule => k_is)
    (case nfRule => k_is)
    (case aRule_allows => k_is)
    (case iRule_allows => k_is)
    (case lRule_allows => k_is)
    (case cRule_allows => k_is)
    (case kRule_allows => k_is)
    (case aHours => k_is)
    (case pgHours => k_is)
    (case hdHours => k_is)
    (case poHours => k_is)
    (case saHours => k_is)
    (case mkHours => k_is)
    (case kcHours => k_is)
    (case haHours => k_is)
    (case hnHours => k_is)
    (case htHours => k_is)
    (case hmHours => k_is)
    (case nfHours => k_is)
    (case nHours_first => k_is)
    (case nHours_behind => k_is)
    (case aHours___init__ => k_is)
    (case iHours___init__ => k_is)
    (case lHours___init__ => k_is)
    (case cHours___init__ => k_is)
    (case kHours___init__ => k_is)
    (case aHours___eq__ => k_is)
    (case iHours___eq__ => k_is)
    (case lHours___eq__ => k_is)
    (case cHours___eq__ => k_is)
    (case kHours___eq__ => k_is)
    (case aHours___str__ => k_is)
    (case iHours___str__ => k_is)
    (case lHours___str__ => k_is)
    (case cHours___str__ => k_is)
    (case kHours___str__ => k_is)
    (case aHours_allows => k_is)
    (case iHours_allows => k_is)
    (case lHours_allows => k_is)
    (case cHours_allows => k_is)
    (case kHours_allows => k_is)
    (case aDays => k_is)
    (case pgDays => k_is)
    (case hdDays => k_is)
    (case poDays => k_is)
    (case saDays => k_is)
    (case mkDays => k_is)
    (case kcDays => k_is)
    (case haDays => k_is)
    (case hnDays => k_is)
    (case htDays => k_is)
    (case hmDays => k_is)
    (case nfDays => k_is)
    (case nDays_days => k_is)
    (case aDays___init__ => k_is)
    (case iDays___init__ => k_is)
    (case lDays___init__ => k_is)
    (case cDays___init__ => k_is)
    (case kDays___init__ => k_is)
    (case aDays___eq__ => k_is)
    (case iDays___eq__ => k_is)
    (case lDays___eq__ => k_is)
    (case cDays___eq__ => k_is)
    (case kDays___eq__ => k_is)
    (case aDays___str__ => k_is)
    (case iDays___str__ => k_is)
    (case lDays___str__ => k_is)
    (case cDays___str__ => k_is)
    (case kDays___str__ => k_is)
    (case aDays_allows => k_is)
    (case iDays_allows => k_is)
    (case lDays_allows => k_is)
    (case cDays_allows => k_is)
    (case kDays_allows => k_is)
    (case aUnless => k_is)
    (case pgUnless => k_is)
    (case hdUnless => k_is)
    (case poUnless => k_is)
    (case saUnless => k_is)
    (case mkUnless => k_is)
    (case kcUnless => k_is)
    (case haUnless => k_is)
    (case hnUnless => k_is)
    (case htUnless => k_is)
    (case hmUnless => k_is)
    (case nfUnless => k_is)
    (case nUnless_rule => k_is)
    (case aUnless___init__ => k_is)
    (case iUnless___init__ => k_is)
    (case lUnless___init__ => k_is)
    (case cUnless___init__ => k_is)
    (case kUnless___init__ => k_is)
    (case aUnless___eq__ => k_is)
    (case iUnless___eq__ => k_is)
    (case lUnless___eq__ => k_is)
    (case cUnless___eq__ => k_is)
    (case kUnless___eq__ => k_is)
    (case aUnless___str__ => k_is)
    (case iUnless___str__ => k_is)
    (case lUnless___str__ => k_is)
    (case cUnless___str__ => k_is)
    (case kUnless___str__ => k_is)
    (case aUnless_allows => k_is)
    (case iUnless_allows => k_is)
    (case lUnless_allows => k_is)
    (case cUnless_allows => k_is)
    (case kUnless_allows => k_is)
    (case aBoth => k_is)
    (case pgBoth => k_is)
    (case hdBoth => k_is)
    (case poBoth => k_is)
    (case saBoth => k_is)
    (case mkBoth => k_is)
    (case kcBoth => k_is)
    (case haBoth => k_is)
    (case hnBoth => k_is)
    (case htBoth => k_is)
    (case hmBoth => k_is)
    (case nfBoth => k_is)
    (case nBoth_rules => k_is)
    (case aBoth___init__ => k_is)
    (case iBoth___init__ => k_is)
    (case lBoth___init__ => k_is)
    (case cBoth___init__ => k_is)
    (case kBoth___init__ => k_is)
    (case aBoth___eq__ => k_is)
    (case iBoth___eq__ => k_is)
    (case lBoth___eq__ => k_is)
    (case cBoth___eq__ => k_is)
    (case kBoth___eq__ => k_is)
    (case aBoth___str__ => k_is)
    (case iBoth___str__ => k_is)
    (case lBoth___str__ => k_is)
    (case cBoth___str__ => k_is)
    (case kBoth___str__ => k_is)
    (case aBoth_allows => k_is)
    (case iBoth_allows => k_is)
    (case lBoth_allows => k_is)
    (case cBoth_allows => k_is)
    (case kBoth_allows => k_is)
    (case aEither => k_is)
    (case pgEither => k_is)
    (case hdEither => k_is)
    (case poEither => k_is)
    (case saEither => k_is)
    (case mkEither => k_is)
    (case kcEither => k_is)
    (case haEither => k_is)
    (case hnEither => k_is)
    (case htEither => k_is)
    (case hmEither => k_is)
    (case nfEither => k_is)
    (case nEither_rules => k_is)
    (case aEither___init__ => k_is)
    (case iEither___init__ => k_is)
    (case lEither___init__ => k_is)
    (case cEither___init__ => k_is)
    (case kEither___init__ => k_is)
    (case aEither___eq__ => k_is)
    (case iEither___eq__ => k_is)
    (case lEither___eq__ => k_is)
    (case cEither___eq__ => k_is)
    (case kEither___eq__ => k_is)
    (case aEither___str__ => k_is)
    (case iEither___str__ => k_is)
    (case lEither___str__ => k_is)
    (case cEither___str__ => k_is)
    (case kEither___str__ => k_is)
    (case aEither_allows => k_is)
    (case iEither_allows => k_is)
    (case lEither_allows => k_is)
    (case cEither_allows => k_is)
    (case kEither_allows => k_is)
    (case aStretch => k_is)
    (case pgStretch => k_is)
    (case hdStretch => k_is)
    (case poStretch => k_is)
    (case saStretch => k_is)
    (case mkStretch => k_is)
    (case kcStretch => k_is)
    (case haStretch => k_is)
    (case hnStretch => k_is)
    (case htStretch => k_is)
    (case hmStretch => k_is)
    (case nfStretch => k_is)
    (case nStretch_first => k_is)
    (case nStretch_behind => k_is)
    (case neStretch => k_is)
    (case icStretch => k_is)
    (case tyStretch => k_is)
    (case subStretch_NoneType => k_is)
    (case kitStretch_NoneType => k_is)
    (case ntStretch_NoneType => k_is)
    (case subStretch_int => k_is)
    (case kitStretch_int => k_is)
    (case ntStretch_int => k_is)
    (case subStretch_str => k_is)
    (case kitStretch_str => k_is)
    (case ntStretch_str => k_is)
    (case subStretch_list => k_is)
    (case kitStretch_list => k_is)
    (case ntStretch_list => k_is)
    (case subStretch_tuple => k_is)
    (case kitStretch_tuple => k_is)
    (case ntStretch_tuple => k_is)
    (case subStretch_dict => k_is)
    (case kitStretch_dict => k_is)
    (case ntStretch_dict => k_is)
    (case aStretch___init__ => k_is)
    (case iStretch___init__ => k_is)
    (case lStretch___init__ => k_is)
    (case cStretch___init__ => k_is)
    (case kStretch___init__ => k_is)
    (case dStretch___init__ => k_is)
    (case aStretch___eq__ => k_is)
    (case iStretch___eq__ => k_is)
    (case lStretch___eq__ => k_is)
    (case cStretch___eq__ => k_is)
    (case kStretch___eq__ => k_is)
    (case aStretch___len__ => k_is)
    (case iStretch___len__ => k_is)
    (case lStretch___len__ => k_is)
    (case cStretch___len__ => k_is)
    (case kStretch___len__ => k_is)
    (case aStretch___str__ => k_is)
    (case iStretch___str__ => k_is)
    (case lStretch___str__ => k_is)
    (case cStretch___str__ => k_is)
    (case kStretch___str__ => k_is)
    (case aStretch___repr__ => k_is)
    (case iStretch___repr__ => k_is)
    (case lStretch___repr__ => k_is)
    (case cStretch___repr__ => k_is)
    (case kStretch___repr__ => k_is)
    (case aWeek => k_is)
    (case pgWeek => k_is)
    (case hdWeek => k_is)
    (case poWeek => k_is)
    (case saWeek => k_is)
    (case mkWeek => k_is)
    (case kcWeek => k_is)
    (case haWeek => k_is)
    (case hnWeek => k_is)
    (case htWeek => k_is)
    (case hmWeek => k_is)
    (case nfWeek => k_is)
    (case nWeek__allowed => k_is)
    (case nWeek__runs => k_is)
    (case aWeek___init__ => k_is)
    (case iWeek___init__ => k_is)
    (case lWeek___init__ => k_is)
    (case cWeek___init__ => k_is)
    (case kWeek___init__ => k_is)
    (case aWeek_soonest => k_is)
    (case iWeek_soonest => k_is)
    (case lWeek_soonest => k_is)
    (case cWeek_soonest => k_is)
    (case kWeek_soonest => k_is)
    (case aWeek_allowed_within => k_is)
    (case iWeek_allowed_within => k_is)
    (case lWeek_allowed_within => k_is)
    (case cWeek_allowed_within => k_is)
    (case kWeek_allowed_within => k_is)
    (case aNoStretch___init__ => k_is)
    (case iNoStretch___init__ => k_is)
    (case lNoStretch___init__ => k_is)
    (case cNoStretch___init__ => k_is)
    (case kNoStretch___init__ => k_is)
    (case icBoth => k_is)
    (case tyBoth => k_is)
    (case icDays => k_is)
    (case tyDays => k_is)
    (case icEither => k_is)
    (case tyEither => k_is)
    (case icHours => k_is)
    (case tyHours => k_is)
    (case icUnless => k_is)
    (case tyUnless => k_is)
    (case seBoth => k_is)
    (case seDays => k_is)
    (case seEither => k_is)
    (case seHours => k_is)
    (case noHours_Unless => k_is)
    (case noHours_Both => k_is)
    (case noHours_Either => k_is)
    (case noHours_Days => k_is)
    (case noDays_Unless => k_is)
    (case noDays_Both => k_is)
    (case noDays_Either => k_is)
    (case noBoth_Unless => k_is)
    (case noEither_Unless => k_is)
    (case noEither_Both => k_is)
    (case a_wall => k_is)
    (case l_wall => k_is)
    (case c_wall => k_is)
    (case k_wall => k_is)
    (case ashow_time => k_is)
    (case lshow_time => k_is)
    (case cshow_time => k_is)
    (case kshow_time => k_is)
    (case ameet => k_is)
    (case lmeet => k_is)
    (case cmeet => k_is)
    (case kmeet => k_is)
    (case ajoined => k_is)
    (case ljoined => k_is)
    (case cjoined => k_is)
    (case kjoined => k_is)
    (case xljoined => k_is)
    (case xpjoined => rfl)
    (case tljoined => first | rfl | k_is | kernel_rfl)
    (case hcjoined => first | rfl | k_is | kernel_rfl)
    (case mpjoined => decide)
    (case djoined => k_is)
    (case agaps => k_is)
    (case lgaps => k_is)
    (case cgaps => k_is)
    (case kgaps => k_is)
    (case a_in_weeks => k_is)
    (case l_in_weeks => k_is)
    (case c_in_weeks => k_is)
    (case k_in_weeks => k_is)
    (case a_where => k_is)
    (case l_where => k_is)
    (case c_where => k_is)
    (case k_where => k_is)
    (case a_some_or_rest => k_is)
    (case l_some_or_rest => k_is)
    (case c_some_or_rest => k_is)
    (case k_some_or_rest => k_is)
    (case a_where_alone => k_is)
    (case l_where_alone => k_is)
    (case c_where_alone => k_is)
    (case k_where_alone => k_is)
    (case a_hours_of => k_is)
    (case l_hours_of => k_is)
    (case c_hours_of => k_is)
    (case k_hours_of => k_is)
    (case aallowed_in => k_is)
    (case lallowed_in => k_is)
    (case callowed_in => k_is)
    (case kallowed_in => k_is)
    (case a_law_tape => k_is)
    (case l_law_tape => k_is)
    (case c_law_tape => k_is)
    (case k_law_tape => k_is)
    (case a_law_draw => k_is)
    (case l_law_draw => k_is)
    (case c_law_draw => k_is)
    (case k_law_draw => k_is)
    (case a_law_pick => k_is)
    (case l_law_pick => k_is)
    (case c_law_pick => k_is)
    (case k_law_pick => k_is)
    (case a_law_rule => k_is)
    (case l_law_rule => k_is)
    (case c_law_rule => k_is)
    (case k_law_rule => k_is)
    (case a_law_wide => k_is)
    (case l_law_wide => k_is)
    (case c_law_wide => k_is)
    (case k_law_wide => k_is)
    (case a_law_object => k_is)
    (case l_law_object => k_is)
    (case c_law_object => k_is)
    (case k_law_object => k_is)
    (case a_law_allows => k_is)
    (case l_law_allows => k_is)
    (case c_law_allows => k_is)
    (case k_law_allows => k_is)
    (case a_law_clocks => k_is)
    (case l_law_clocks => k_is)
    (case c_law_clocks => k_is)
    (case k_law_clocks => k_is)
    (case a_law_pieces => k_is)
    (case l_law_pieces => k_is)
    (case c_law_pieces => k_is)
    (case k_law_pieces => k_is)
    (case a_law_is => k_is)
    (case l_law_is => k_is)
    (case c_law_is => k_is)
    (case k_law_is => k_is)
    (case a_law_wide_right => k_is)
    (case l_law_wide_right => k_is)
    (case c_law_wide_right => k_is)
    (case k_law_wide_right => k_is)
    (case a_law_deep_right => k_is)
    (case l_law_deep_right => k_is)
    (case c_law_deep_right => k_is)
    (case k_law_deep_right => k_is)
    (case alaw => k_is)
    (case llaw => k_is)
    (case claw => k_is)
    (case klaw => k_is)
    (case aDAY => k_is)
    (case aHOUR => k_is)
    (case aWEEK => k_is)
    (case aMINUTES => k_is)
    (case aWEEKS_AHEAD => k_is)
    (case zArithmeticError => k_is)
    (case zall => k_is)
    (case zany => k_is)
    (case zdivmod => k_is)
    (case zint => k_is)
    (case zisinstance => k_is)
    (case zlen => k_is)
    (case zlist => k_is)
    (case zmax => k_is)
    (case zmin => k_is)
    (case zrange => k_is)
    (case zset => k_is)
    (case zsorted => k_is)
    (case zstr => k_is)
    (case ztuple => k_is)
    (case zzip => k_is)
